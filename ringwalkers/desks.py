"""A desk: a path that lives, with deeds done and taken back, and questions watched and held."""

from ringwalkers.deeds import need_deed, state_behind, told_deed
from ringwalkers.kinds import is_number
from ringwalkers.paths import walkers_of
from ringwalkers.places import ahead_of, first_places, in_order, is_standing, nets_among
from ringwalkers.questions import answer_to, changes_between, is_asking, need_question
from ringwalkers.refusals import BadGoal, NoCount, WouldChange
from ringwalkers.towards import go_on, left_between


class Desk:
    """A path and a stand that deeds lead on.

    The deeds done and those taken back stand in one list, with the states between them in another; neither list,
    no state is ever changed, a deed makes new ones. So what is kept of a desk can be had back by naming it.
    """

    def __init__(self, path):
        names = walkers_of(path)
        self._path = path
        self._deeds = []
        self._states = [(first_places(names), [])]
        self._done = 0

    def path(self):
        return self._path

    def stand(self):
        return in_order(self._path.walkers(), self._places())

    def watched(self):
        """The watched questions, each with its answer, and whether it is held."""
        return [(question, self.answer(question), held) for question, held in self._watched()]

    def do(self, deed):
        """Does a deed, and tells which watched questions are answered otherwise behind it."""
        state, changes = self._behind(deed)
        for question, _, _ in changes:
            if (question, True) in self._watched():
                raise WouldChange(question)
        self._deeds = self._deeds[:self._done] + [told_deed(deed)]
        self._states = self._states[:self._done + 1] + [state]
        self._done += 1
        return changes

    def is_question(self, thing):
        return is_asking(self._path.walkers(), thing)

    def answer(self, question):
        names = self._path.walkers()
        need_question(names, question)
        return answer_to(names, self._places(), question)

    def way_to(self, goal):
        """A run to the goal by which nobody overtakes whom they were overtaken by, None if there is none."""
        if self.gone_beyond(goal) is not None:
            return None
        names = self._path.walkers()
        return go_on(names, self.stand(), left_between(names, self._places(), goal))

    def gone_beyond(self, goal):
        """The first pair of whom the one overtook the other oftener than in the goal, None if there is none."""
        names = self._path.walkers()
        if not is_standing(names, goal):
            raise BadGoal(goal)
        now = nets_among(names, self._places())
        then = nets_among(names, goal)
        beyond = [pair for pair in now if now[pair] > 0 and now[pair] > then[pair]]
        return beyond[0] if beyond else None

    def would(self, deed):
        """What do would tell, if no question were held."""
        _, changes = self._behind(deed)
        return changes

    def free_overtakings(self):
        """All overtakings that can be done now."""
        names = self._path.walkers()
        ahead = ahead_of(names, self._places())
        nets = nets_among(names, self._places())
        may = [(one, ahead[one]) for one in names if nets[one, ahead[one]] >= 0]
        return [(one, other) for one, other in may if self._keeps_held(one, other)]

    def count(self):
        """How many deeds are done and not taken back."""
        return self._done

    def undo(self):
        """Takes the last deed back, and tells it; None if there is none."""
        if self._done == 0:
            return None
        self._done -= 1
        return self._deeds[self._done]

    def again(self):
        """Does the deed again that was taken back last, and tells it; None if there is none."""
        if self._done == len(self._deeds):
            return None
        self._done += 1
        return self._deeds[self._done - 1]

    def deeds(self):
        """The deeds done and not taken back."""
        return self._deeds[:self._done]

    def at(self, number):
        """Another desk, as this one was behind so many deeds."""
        if not is_number(number) or number > self._done:
            raise NoCount(number)
        return self._other(self._deeds[:number], self._states[:number + 1], number)

    def copy(self):
        """Another desk, the same, also in what can be done again."""
        return self._other(self._deeds, self._states, self._done)

    def trial(self, work):
        """What the work tells of this desk; behind it all is as ahead of it."""
        deeds = self._deeds
        states = self._states
        done = self._done
        try:
            return work(self)
        finally:
            self._deeds = deeds
            self._states = states
            self._done = done

    def __eq__(self, other):
        if not isinstance(other, Desk):
            return False
        return self._path == other._path and self._state() == other._state()

    def _state(self):
        return self._states[self._done]

    def _places(self):
        places, _ = self._state()
        return places

    def _watched(self):
        """The watched questions, each with whether it is held."""
        _, watched = self._state()
        return watched

    def _behind(self, deed):
        """The state behind a deed, and which watched questions are answered otherwise there."""
        need_deed(deed)
        names = self._path.walkers()
        state = state_behind(names, self._state(), deed)
        questions = [question for question, _ in self._watched()]
        return state, changes_between(names, self._places(), state[0], questions)

    def _keeps_held(self, one, other):
        """Whether no held question is answered otherwise if one overtakes other."""
        _, changes = self._behind(("overtake", one, other))
        return not any([(question, True) in self._watched() for question, _, _ in changes])

    def _other(self, deeds, states, done):
        """Another desk of this path with these deeds."""
        desk = Desk(self._path)
        desk._deeds = deeds
        desk._states = states
        desk._done = done
        return desk


def desk_of(path, places, watched):
    """A desk without a deed done, where all stand so, and these questions are watched, each with whether it is held."""
    desk = Desk(path)
    desk._states = [(places, watched)]
    return desk
