"""A plain desk of the tests' own: it keeps each net by itself, goes overtaking by overtaking, and copies everything."""

from tests import slowly


class Refused(Exception):
    """What a deed is refused for: the error's name and its things."""

    def __init__(self, name, **things):
        super().__init__(name)
        self.name = name
        self.things = things


class PlainDesk:
    def __init__(self, names):
        self.names = names
        self.past = [(self.begin(), [])]
        self.deeds_done = []
        self.taken_back = []

    def begin(self):
        return slowly.begin_of(self.names, {name: index for index, name in enumerate(self.names)})

    def now(self):
        return self.past[-1][0]

    def watched(self):
        return self.past[-1][1]

    def answer(self, question, walked=None):
        walked = self.now() if walked is None else walked
        word = question[0]
        if word == "net":
            return walked.nets[question[1], question[2]]
        if word == "made":
            return slowly.made(walked, question[1])
        if word == "noted":
            return sum(min(number, question[2]) for (one, _), number in walked.nets.items()
                       if one == question[1] and number > 0)
        if word == "ahead":
            return [other for one, other in slowly.moves(walked.places) if one == question[1]][0]
        if word == "laps":
            return max(walked.nets.values())
        return slowly.total(walked)

    def far_ahead(self, walked, one, times):
        """The stand behind rounds: each other one overtaken so many times, one by one if these are few."""
        if times <= 20:
            for _ in range(times * (len(self.names) - 1)):
                walked = slowly.gone(walked, one, self.answer(("ahead", one), walked))
            return walked
        nets = dict(walked.nets)
        places = dict(walked.places)
        for other in self.names:
            if other != one:
                nets[one, other] += times
                nets[other, one] -= times
                places[other] -= times
                places[one] += times
        return slowly.Walked(places, nets, walked.distance + times * (len(self.names) - 1), walked.run)

    def behind(self, deed):
        """The stand and the watched questions behind a deed; what it is refused for, but for what is held."""
        walked, watched = self.past[-1]
        word = deed[0]
        if word in ("overtake", "round"):
            for name in deed[1:3] if word == "overtake" else deed[1:2]:
                if name not in self.names:
                    raise Refused("NoWalker", walker=name)
        if word == "overtake":
            one, other = deed[1:]
            if (one, other) not in slowly.moves(walked.places):
                raise Refused("NotBehind", one=one, other=other)
            if walked.nets[other, one] > 0:
                raise Refused("WasOvertaken", one=one, other=other)
            return slowly.gone(walked, one, other), watched
        if word == "round":
            for other in self.names:
                if other != deed[1] and walked.nets[other, deed[1]] > 0:
                    raise Refused("WasOvertaken", one=deed[1], other=other)
            return self.far_ahead(walked, deed[1], deed[2]), watched
        return walked, self.watched_behind(word, tuple(deed[1]), deed[1])

    def watched_behind(self, word, question, handed):
        watched = self.watched()
        known = [asked for asked, _ in watched]
        if word == "watch":
            if question in known:
                raise Refused("IsWatched", question=handed)
            return watched + [(question, False)]
        if word == "hold":
            if (question, True) in watched:
                raise Refused("IsWatched", question=handed)
            if question in known:
                return [(asked, held or asked == question) for asked, held in watched]
            return watched + [(question, True)]
        if question not in known:
            raise Refused("NotWatched", question=handed)
        return [(asked, held) for asked, held in watched if asked != question]

    def would(self, deed):
        walked, _ = self.behind(deed)
        told = [(question, self.answer(question), self.answer(question, walked)) for question, _ in self.watched()]
        return [each for each in told if each[1] != each[2]]

    def do(self, deed):
        changes = self.would(deed)
        for question, _, _ in changes:
            if (question, True) in self.watched():
                raise Refused("WouldChange", question=question)
        self.past.append(self.behind(deed))
        told = tuple(deed)
        if told[0] in ("watch", "hold", "free"):
            told = (told[0], tuple(told[1]))
        self.deeds_done.append(told)
        self.taken_back = []
        return changes

    def undo(self):
        if not self.deeds_done:
            return None
        deed = self.deeds_done.pop()
        self.taken_back.append((deed, self.past.pop()))
        return deed

    def again(self):
        if not self.taken_back:
            return None
        deed, state = self.taken_back.pop()
        self.deeds_done.append(deed)
        self.past.append(state)
        return deed

    def free_overtakings(self):
        found = []
        for one, other in slowly.by_path(self.names, slowly.moves(self.now().places)):
            try:
                changes = self.would(("overtake", one, other))
            except Refused:
                continue
            if not any((question, True) in self.watched() for question, _, _ in changes):
                found.append((one, other))
        return found

    def copy(self):
        other = PlainDesk(self.names)
        other.past = list(self.past)
        other.deeds_done = list(self.deeds_done)
        other.taken_back = list(self.taken_back)
        return other

    def at(self, number):
        other = PlainDesk(self.names)
        other.past = self.past[:number + 1]
        other.deeds_done = self.deeds_done[:number]
        return other
