"""Ringwalkers: who overtook whom on a round path."""
