"""The interface as the document lists it, file by file."""

FUNCTIONS = {
    "paths": "is_stand first_stand right_ahead going_round overtaken net turned",
    "runs": "run_end is_one_way blocks_end",
    "tables": "table stand_of_table table_clash overtook overtaken_by in_all of_some with_one_more one_more_clash",
    "madenumbers": "numbers_made numbers_suffered stand_of_made stand_of_suffered laps_off lists_fault",
    "moreleft": "with_more made_run is_made_run numbers_behind",
    "netnumbers": "nets_of stand_of_nets nets_clash",
    "againandagain": "again and_then undone circles times_back for_ever fastest",
    "shortestruns": "fewest first_ones last_ones shortest_run is_shortest is_between stand_after",
    "steps": "goes_ahead shown_behind count_runs runs_between",
    "counted": "count_stands count_up_to count_idle mean_idle chance_made chances_made",
    "countbounds": "count_between count_by_teams",
    "numbered": "stand_at stand_number drawn_stand",
    "commons": "is_earlier last_common first_common common_ring is_common_ring to_common earlier_ones",
    "commonrows": "holding_row forcing_row is_holding_row is_forcing_row",
    "notes": "notes noted notes_of_noted noted_fault most_lacking",
    "capped": "least_stand run_of_noted",
    "notecounts": "count_notes count_noted noted_at noted_index",
    "shownotes": "are_notes notes_clash last_stand free_lot groups count_ended net_span stands_showing",
    "noterows": "fewest_changes row_of_notes next_changes change_shown",
    "photos": "photo_of is_photo laps_of stand_of_laps are_gains overtakings_of photo_turned",
    "fewbetween": """fewest_between fewest_gains count_fewest surely_between perhaps_between can_be_between
        fewest_turned fewest_through""",
    "walks": "is_walk stand_then caught_at next_catch as_at_first shown walk_to",
    "pacelooks": "room paces_for pace_ring pace_span surely_faster",
    "netspans": "fits span_room stand_within spans_ring net_bounds sure_overtakers place_span",
    "withincounts": "count_fits all_fits spans_of",
    "indoubt": "wrong_numbers wrong_nets wrong_pairs",
    "halftold": "stand_without without_fault stand_of_mixed",
    "views": "view place_by count_of_view stand_seen",
    "observers": """arcs are_alike_for count_alike nets_known seams_left knows_all tells_all
        fewest_observers""",
    "laps": "is_within most_laps first_beyond leads may_overtake",
    "lapcounts": "count_within count_just stands_within last_within most_within busiest",
    "joinings": "with_total joint_path joined joint_clash count_joined",
    "teams": "spread gathered team_clash begun_with",
    "pricelists": "price_between",
    "priceorders": "cheapest_in_order order_ring is_order_ring",
    "priceweights": "price_weights are_price_weights cheapest cheapest_order",
    "drawnsteps": "further_on chance_grown mean_square drawn_run",
    "pairsteps": "chance_first mean_steps chances_further mean_net",
    "callers": "run_chosen run_to_numbers run_to_notes",
    "askers": "run_asker beat_asker",
    "desktexts": "write_desk read_desk",
}

METHODS = {
    ("desks", "Desk", "path"): """path() stand() watched() do(deed) is_question(thing) answer(question) way_to(goal)
        gone_beyond(goal) would(deed) free_overtakings() count() undo() again() deeds() at(number) copy() trial(work)
        __eq__(other)""",
    ("paths", "Path", "walkers"): "walkers() __eq__(other)",
}

ERRORS = {
    "errors": """BadWalkers(index), BadPath(thing), BadStand(stand), NoWalker(walker), NotBehind(one, other),
        BadRun(index), BadBlocks(index), BadTable(table), BadSome(index), BadName(name), BadNets(nets),
        BadNumbers(numbers), BadLeft(left), BadOthers(others), BadTimes(times), BadMany(many), BadStep(step),
        BadTotal(total), BadNumber(number), BadBounds(bounds), BadTeams(index), BadTotals(index), BadChooser(thing),
        BadStands(index), NoCommon(ring), SameWalker(walker), BadMost(most), BadNoted(noted), BadIndex(index),
        BadPart(part), BadNotes(notes)""",
    "refusals": """BadPhoto(photo), BadLaps(laps), BadGains(gains), BadPhotos(index), BadWalk(walk), BadHour(hour),
        BadLooks(index), BadLap(lap), BadPosts(posts), NoPaces(), BadSpans(spans), NoneWithin(), BadMade(made),
        BadView(view), BadRow(index), BadLot(index), BadPairs(index), NotWithin(stand), CommonWalker(name),
        BadSums(sums), BadNames(names), BadPieces(index), BadPrices(prices), BadOrder(order), BadWishes(index),
        BadSteps(steps), BadMore(more), BadChoice(thing), BadAnswer(thing), BadTop(top), BadDeed(thing),
        WasOvertaken(one, other), BadQuestion(thing), IsWatched(question), NotWatched(question),
        WouldChange(question), BadGoal(goal), NoCount(number), BadDesk(thing), BadText(line)""",
}


def functions():
    """All pairs (file, function)."""
    return [(file, name) for file, names in FUNCTIONS.items() for name in names.split()]


def methods():
    """All of (file, class, its parameters, a dict from its methods to the names of their parameters)."""
    listed = []
    for (file, name, parameters), text in METHODS.items():
        told = {}
        for word in text.split():
            method, rest = word.rstrip(")").split("(")
            told[method] = rest.split(",") if rest else []
        listed.append((file, name, parameters.split(","), told))
    return listed


def errors():
    """All triples (file, class, names of its parameters)."""
    listed = []
    for file, text in ERRORS.items():
        for word in text.replace("\n", " ").split("),"):
            name, parameters = word.strip().rstrip(")").split("(")
            listed.append((file, name, [each.strip() for each in parameters.split(",") if each.strip()]))
    return listed
