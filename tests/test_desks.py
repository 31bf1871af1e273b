"""Section 22 of the document: the desk."""

import random
import unittest

import ringwalkers.errors as errors
import ringwalkers.refusals as refusals
from ringwalkers.desks import Desk
from ringwalkers.errors import BadMost, BadPath, NotBehind, NoWalker
from ringwalkers.paths import Path, first_stand
from ringwalkers.refusals import (
    BadDeed, BadGoal, BadQuestion, IsWatched, NoCount, NotWatched, WasOvertaken, WouldChange)
from ringwalkers.runs import run_end

from tests import slowly
from tests.anything import ANYTHING
from tests.plaindesk import PlainDesk, Refused
from tests.told import ToldCase

ABC = Path(["a", "b", "c"])
FIRST = {"a": 0, "b": 1, "c": 2}


def done(*deeds, names="abc"):
    """A desk behind these deeds."""
    desk = Desk(Path(list(names)))
    for deed in deeds:
        desk.do(deed)
    return desk


def state_of(desk):
    """All that a desk tells of itself."""
    return [desk.path().walkers(), desk.stand(), desk.watched(), desk.count(), desk.deeds(), again_of(desk)]


def again_of(desk):
    """What can be done again, asked of a copy."""
    other = desk.copy()
    told = []
    while True:
        deed = other.again()
        if deed is None:
            return told
        told.append(deed)


class DrawnDeeds(ToldCase):
    """Long drawn rows of deeds, each step compared with the plain desk."""

    def test_rows_of_deeds(self):
        for seed, many in enumerate([2, 2, 3, 3, 3, 4, 5, 6, 10]):
            for turn in range(4):
                self.go(random.Random(100 * seed + turn), slowly.many_names(many), 60)

    def go(self, chance, names, steps):
        desk, plain = Desk(Path(names)), PlainDesk(names)
        for _ in range(steps):
            self.step(chance, desk, plain, 0)
            self.compare(chance, desk, plain)

    def step(self, chance, desk, plain, depth):
        kind = chance.random()
        if kind < 0.1:
            self.assertTold(desk.undo(), plain.undo())
        elif kind < 0.18:
            self.assertTold(desk.again(), plain.again())
        elif kind < 0.24 and depth < 6:
            self.trial(chance, desk, plain, depth)
        else:
            self.deed(chance, desk, plain)

    def deed(self, chance, desk, plain):
        deed = self.drawn_deed(chance, plain)
        before = state_of(desk)
        try:
            expected = plain.would(deed)
        except Refused as refused:
            self.refused(desk.would, deed, refused)
            self.refused(desk.do, deed, refused)
            self.assertTold(state_of(desk), before)
            return
        self.assertTold(desk.would(deed), expected)
        self.assertTold(state_of(desk), before)
        try:
            expected = plain.do(deed)
        except Refused as refused:
            self.refused(desk.do, deed, refused)
            self.assertTold(state_of(desk), before)
            return
        self.assertTold(desk.do(deed), expected)

    def refused(self, work, deed, refused):
        error = getattr(refusals, refused.name, None) or getattr(errors, refused.name)
        if refused.name == "WouldChange":
            self.assertRefusedTelling(error, refused.things, work, deed)
        else:
            self.assertRefused(error, refused.things, work, deed)

    def drawn_deed(self, chance, plain):
        names = plain.names
        kind = chance.random()
        if kind < 0.45:
            pairs = slowly.moves(plain.now().places)
            pair = chance.choice(pairs) if chance.random() < 0.9 else (chance.choice(names), chance.choice(names))
            return ("overtake", *pair)
        if kind < 0.6:
            return ["round", chance.choice(names), chance.choice([1, 1, 2, 3, 10 ** 12, 10 ** 13 + 7])]
        word = chance.choice(["watch", "watch", "watch", "hold", "free"])
        question = self.drawn_question(chance, names)
        if word == "free" and plain.watched() and chance.random() < 0.8:
            question = chance.choice(plain.watched())[0]
        if len(plain.watched()) > 5:
            word = "free"
        return chance.choice([tuple, list])([word, chance.choice([tuple, list])(question)])

    def drawn_question(self, chance, names):
        one, other = chance.sample(names, 2)
        return chance.choice([("net", one, other), ("made", one), ("noted", one, chance.choice([1, 2, 10 ** 6])),
                              ("ahead", one), ("laps",), ("all",)])

    def trial(self, chance, desk, plain, depth):
        before = state_of(desk)
        inner = plain.copy()
        told = object()
        raised = KeyError("out")
        fails = chance.random() < 0.4

        def work(handed):
            self.assertIs(handed, desk)
            for _ in range(chance.randint(0, 4)):
                self.step(chance, desk, inner, depth + 1)
                self.compare(chance, desk, inner)
            if fails:
                raise raised
            return told

        if fails:
            with self.assertRaises(KeyError) as caught:
                desk.trial(work)
            self.assertIs(caught.exception, raised)
        else:
            self.assertIs(desk.trial(work), told)
        self.assertTold(state_of(desk), before)

    def compare(self, chance, desk, plain):
        self.assertTold(desk.path().walkers(), plain.names)
        self.assertTold(desk.stand(), plain.now().places)
        self.assertTold(desk.watched(), [(asked, plain.answer(asked), held) for asked, held in plain.watched()])
        self.assertTold(desk.count(), len(plain.deeds_done))
        self.assertTold(desk.deeds(), plain.deeds_done)
        self.assertTold(again_of(desk), [deed for deed, _ in plain.taken_back[::-1]])
        self.assertTold(desk.free_overtakings(), plain.free_overtakings())
        if not any(held for _, held in plain.watched()):
            self.assertNotEqual(desk.free_overtakings(), [])
        question = self.drawn_question(chance, plain.names)
        self.assertTold(desk.answer(question), plain.answer(question))
        number = chance.randint(0, desk.count())
        other, plain_other = desk.at(number), plain.at(number)
        self.assertTold(state_of(other), [plain.names, plain_other.now().places,
                                          [(asked, plain_other.answer(asked), held)
                                           for asked, held in plain_other.watched()],
                                          number, plain_other.deeds_done, []])
        same = plain_other.now().places == plain.now().places and plain_other.watched() == plain.watched()
        self.assertIs(desk == other, same)
        self.assertIs(desk == desk.copy(), True)


DEED_OF_NONE = ("overtake", "z", "no name")


class Deeds(ToldCase):
    def test_overtaking(self):
        desk = Desk(ABC)
        self.assertTold(desk.do(("overtake", "a", "b")), [])
        self.assertTold(desk.stand(), {"a": 1, "b": 0, "c": 2})
        self.assertTold(desk.deeds(), [("overtake", "a", "b")])
        self.assertRefused(NotBehind, {"one": "a", "other": "b"}, desk.do, ("overtake", "a", "b"))
        self.assertRefused(WasOvertaken, {"one": "b", "other": "a"}, desk.do, ("overtake", "b", "a"))
        self.assertRefused(NotBehind, {"one": "c", "other": "c"}, desk.do, ("overtake", "c", "c"))
        self.assertRefused(NoWalker, {"walker": "d"}, desk.do, ("overtake", "d", "e"))
        self.assertRefused(NoWalker, {"walker": "e"}, desk.do, ("overtake", "a", "e"))
        self.assertTold(desk.deeds(), [("overtake", "a", "b")])

    def test_rounds(self):
        for times in (1, 2, 10 ** 12, 10 ** 30):
            desk = done(("round", "b", times))
            self.assertTold(desk.stand(), {"a": -times, "b": 1 + 2 * times, "c": 2 - times})
            self.assertRefused(WasOvertaken, {"one": "c", "other": "b"}, desk.do, ("round", "c", 1))
            self.assertRefused(WasOvertaken, {"one": "a", "other": "b"}, desk.do, ("round", "a", times))
        desk = done(("overtake", "c", "a"), ("overtake", "b", "a"))
        self.assertRefused(WasOvertaken, {"one": "a", "other": "b"}, desk.do, ("round", "a", 1))
        self.assertRefused(NoWalker, {"walker": "d"}, desk.do, ("round", "d", 1))
        self.assertTold(desk.do(("round", "c", 1)), [])

    def test_no_deed(self):
        wrongs = [("overtake", "a"), ("overtake",), ("overtake", "a", "b", "c"), ("overtake", "a", 1),
                  ("overtake", "A", "b"), ("overtake", "a", ""), ("overtake", ["a"], "b"),
                  ("overtake", "a", "abcdefghi"), ("overtake", "1a", "b"), ("round", "a"), ("round", "a", 0),
                  ("round", "a", -1), ("round", "a", True), ("round", "a", "1"), ("round", 1, 1),
                  ("round", "a", None), ("round", "a", 1, 1), ("round", "a b", 1),
                  ("watch",), ("hold",), ("free",), ("watch", ("all",), ("laps",)), ("hold", 1, 2), ("Watch", ("all",)),
                  ("undo",), ("",), (None, "a", "b"), (("overtake",), "a", "b"), "overtake", ["overtake"], (), [],
                  {"overtake": 1}, (1, 2, 3), ("net", "a", "b"), ("all",), ("do", "a"), None, ABC, Desk(ABC)]
        for thing in wrongs + ANYTHING:
            desk = done(("round", "a", 1), ("hold", ("laps",)))
            self.assertRefused(BadDeed, {"thing": thing}, desk.do, thing)
            self.assertRefused(BadDeed, {"thing": thing}, desk.would, thing)
            self.assertEqual(desk.count(), 2)

    def test_lists_are_deeds(self):
        desk = Desk(ABC)
        question = ["net", "a", "b"]
        deed = ["hold", question]
        desk.do(deed)
        desk.do(["overtake", "b", "c"])
        self.assertRefusedTelling(WouldChange, {"question": ("net", "a", "b")}, desk.do, ["round", "b", 1])
        question[0] = "made"
        deed[0] = "free"
        self.assertTold(desk.deeds(), [("hold", ("net", "a", "b")), ("overtake", "b", "c")])
        self.assertTold(desk.watched(), [(("net", "a", "b"), 0, True)])

    def test_no_question(self):
        for thing in NO_QUESTIONS + ANYTHING:
            desk = Desk(ABC)
            for word in ("watch", "hold", "free"):
                self.assertRefused(BadQuestion, {"thing": thing}, desk.do, (word, thing))
                self.assertRefused(BadQuestion, {"thing": thing}, desk.would, [word, thing])
            self.assertRefused(BadQuestion, {"thing": thing}, desk.answer, thing)
            self.assertTold(desk.is_question(thing), False)
            self.assertTold(state_of(desk), state_of(Desk(ABC)))

    def test_watched_and_held(self):
        desk = Desk(ABC)
        question = ["made", "a"]
        self.assertTold(desk.do(("watch", question)), [])
        self.assertRefused(IsWatched, {"question": question}, desk.do, ("watch", question))
        self.assertRefused(IsWatched, {"question": question}, desk.would, ("watch", question))
        desk.do(("watch", ("laps",)))
        self.assertTold(desk.do(("overtake", "a", "b")), [(("made", "a"), 0, 1), (("laps",), 0, 1)])
        self.assertTold(desk.do(("hold", question)), [])
        self.assertTold(desk.watched(), [(("made", "a"), 1, True), (("laps",), 1, False)])
        self.assertRefused(IsWatched, {"question": question}, desk.do, ("hold", question))
        self.assertRefused(IsWatched, {"question": question}, desk.do, ("watch", question))
        self.assertRefusedTelling(WouldChange, {"question": ("made", "a")}, desk.do, ("overtake", "a", "c"))
        self.assertTold(desk.would(("overtake", "a", "c")), [(("made", "a"), 1, 2)])
        self.assertTold(desk.do(["overtake", "c", "b"]), [])
        self.assertTold(desk.do(("free", question)), [])
        self.assertRefused(NotWatched, {"question": question}, desk.do, ("free", question))
        self.assertRefused(NotWatched, {"question": question}, desk.would, ("free", question))
        self.assertTold(desk.watched(), [(("laps",), 1, False)])
        self.assertTold(desk.undo(), ("free", ("made", "a")))
        self.assertTold(desk.watched(), [(("made", "a"), 1, True), (("laps",), 1, False)])

    def test_the_first_held_one(self):
        desk = done(("watch", ("all",)), ("hold", ("laps",)), ("hold", ("made", "a")))
        self.assertRefusedTelling(WouldChange, {"question": ("laps",)}, desk.do, ("overtake", "a", "b"))
        desk.do(("hold", ("all",)))
        self.assertRefusedTelling(WouldChange, {"question": ("all",)}, desk.do, ("overtake", "a", "b"))
        self.assertRefused(NotBehind, {"one": "a", "other": "c"}, desk.do, ("overtake", "a", "c"))
        self.assertTold(desk.free_overtakings(), [])
        self.assertTold(desk.would(("round", "c", 3)), [(("all",), 0, 6), (("laps",), 0, 3)])

    def test_held_over_the_whole_deed_only(self):
        # By one overtaking another one is right ahead, by a whole round the same one again.
        desk = done(("hold", ("ahead", "a")))
        self.assertRefusedTelling(WouldChange, {"question": ("ahead", "a")}, desk.do, ("overtake", "a", "b"))
        self.assertTold(desk.do(("round", "a", 5)), [])

    def test_order_of_errors(self):
        desk = done(("overtake", "a", "b"), ("overtake", "a", "c"), ("hold", ("all",)))
        self.assertRefused(NotBehind, {"one": "b", "other": "a"}, desk.do, ("overtake", "b", "a"))
        self.assertRefused(WasOvertaken, {"one": "c", "other": "a"}, desk.do, ("overtake", "c", "a"))
        self.assertRefused(NoWalker, {"walker": "z"}, desk.do, ("overtake", "a", "z"))
        self.assertRefused(NoWalker, {"walker": "y"}, desk.do, ("overtake", "y", "z"))
        self.assertRefused(BadDeed, {"thing": DEED_OF_NONE}, desk.do, DEED_OF_NONE)
        self.assertRefused(NoWalker, {"walker": "z"}, desk.do, ("round", "z", 1))
        desk = done(("overtake", "a", "b"), ("hold", ("all",)), ("hold", ("ahead", "c")))
        self.assertRefused(WasOvertaken, {"one": "b", "other": "a"}, desk.do, ("overtake", "b", "a"))
        self.assertRefused(WasOvertaken, {"one": "b", "other": "a"}, desk.do, ("round", "b", 1))
        self.assertRefusedTelling(WouldChange, {"question": ("all",)}, desk.do, ("round", "a", 1))
        self.assertRefusedTelling(WouldChange, {"question": ("all",)}, desk.do, ("overtake", "c", "b"))


NO_QUESTIONS = [("net", "a"), ("net", "a", "a"), ("net", "a", "d"), ("net", "d", "a"), ("net", "a", "b", "c"),
                ("made",), ("made", "d"), ("made", "a", "b"), ("made", ["a"]), ("made", None), ("noted", "a"),
                ("noted", "a", 0), ("noted", "a", True), ("noted", "a", "1"), ("noted", "d", 1),
                ("noted", 1, "a"), ("noted", "a", 1, 1),
                ("ahead",), ("ahead", "d"), ("ahead", "a", "b"), ("laps", 1), ("all", "a"), ("Laps",), "laps", "all",
                ["lap"], (("laps",),), (None,), (1,), {"laps": 1}, {}, (), [], None, ("watch",)]


class Questions(ToldCase):
    def test_each_question(self):
        desk = done(("round", "b", 10 ** 6), ("overtake", "c", "a"))
        told = {("net", "b", "a"): 10 ** 6, ("net", "a", "b"): -10 ** 6, ("net", "c", "a"): 1,
                ("made", "b"): 2 * 10 ** 6, ("made", "c"): 1, ("made", "a"): 0,
                ("noted", "b", 1): 2, ("noted", "b", 7): 14, ("noted", "c", 9): 1,
                ("noted", "b", 10 ** 6): 2 * 10 ** 6, ("noted", "b", 10 ** 9): 2 * 10 ** 6, ("noted", "a", 3): 0,
                ("ahead", "a"): "c", ("ahead", "b"): "a", ("ahead", "c"): "b", ("laps",): 10 ** 6,
                ("all",): 2 * 10 ** 6 + 1}
        for question, answer in told.items():
            self.assertTold(desk.answer(question), answer)
            self.assertTold(desk.answer(list(question)), answer)
            self.assertTold(desk.is_question(question), True)
            self.assertTold(desk.is_question(list(question)), True)

    def test_most_is_no_error_of_its_own(self):
        with self.assertRaises(BadQuestion) as caught:
            Desk(ABC).answer(("noted", "a", 0))
        self.assertNotIsInstance(caught.exception, BadMost)


class Ways(ToldCase):
    def test_near_goals(self):
        for many, depth in ((2, 4), (3, 5), (4, 3), (5, 2)):
            names = slowly.names_of(many)
            near = slowly.explore(names, depth)
            earlier = slowly.earlier_keys(near)
            for reached, walked in near.items():
                if walked.distance > depth - 1:
                    continue
                desk = done(*[("overtake", one, other) for one, other in walked.run], names=names)
                for key, goal in near.items():
                    self.check(names, desk, walked, goal, reached in earlier[key])

    def check(self, names, desk, walked, goal, can):
        way = desk.way_to(goal.places)
        beyond = desk.gone_beyond(goal.places)
        self.assertEqual(way is None, not can)
        self.assertEqual(beyond is None, can)
        if can:
            self.assertTold(run_end(Path(names), walked.places, way), goal.places)
            nets = dict(walked.nets)
            for one, other in way:
                self.assertGreaterEqual(nets[one, other], 0)
                nets[one, other] += 1
                nets[other, one] -= 1
        else:
            pairs = [pair for pair in slowly.by_path(names, walked.nets)
                     if walked.nets[pair] > 0 and walked.nets[pair] > goal.nets[pair]]
            self.assertTold(beyond, pairs[0])

    def test_ten_walkers(self):
        names = slowly.many_names(10)
        desk = done(("round", names[0], 2), names=names)
        stand = desk.stand()
        goal = {name: stand[name] + (360 if name == names[0] else -40) for name in names}
        way = desk.way_to(goal)
        self.assertEqual(len(way), 360)
        self.assertTold(run_end(Path(names), stand, way), goal)
        self.assertTold(desk.gone_beyond(first_stand(Path(names))), (names[0], names[1]))
        self.assertTold(desk.way_to(first_stand(Path(names))), None)
        desk.do(("round", names[0], 10 ** 12))
        self.assertTold(desk.gone_beyond(goal), (names[0], names[1]))
        self.assertTold(desk.way_to(desk.stand()), [])

    def test_no_goal(self):
        desk = done(("overtake", "a", "b"))
        for thing in [{"a": 0, "b": 1, "c": 3}, {"a": 0, "b": 1}] + ANYTHING:
            self.assertRefused(BadGoal, {"goal": thing}, desk.way_to, thing)
            self.assertRefused(BadGoal, {"goal": thing}, desk.gone_beyond, thing)

    def test_the_same_way_each_time(self):
        goal = {"a": 4, "b": 0, "c": -1}
        way = Desk(ABC).way_to(goal)
        self.assertTold(Desk(Path(("a", "b", "c"))).way_to({"c": -1, "b": 0, "a": 4}), way)
        desk = done(("overtake", "a", "b"))
        desk.undo()
        self.assertTold(desk.way_to(goal), way)


class BackAndOn(ToldCase):
    def test_a_new_deed_ends_what_can_be_done_again(self):
        desk = done(("overtake", "a", "b"), ("watch", ("all",)), ("overtake", "a", "c"))
        self.assertTold(desk.undo(), ("overtake", "a", "c"))
        self.assertTold(desk.undo(), ("watch", ("all",)))
        self.assertTold(desk.again(), ("watch", ("all",)))
        self.assertRefused(NotBehind, {"one": "b", "other": "c"}, desk.do, ("overtake", "b", "c"))
        self.assertTold(desk.again(), ("overtake", "a", "c"))
        desk.undo()
        desk.do(("overtake", "c", "b"))
        self.assertTold(desk.again(), None)
        self.assertTold(desk.deeds(), [("overtake", "a", "b"), ("watch", ("all",)), ("overtake", "c", "b")])
        for deed in desk.deeds()[::-1]:
            self.assertTold(desk.undo(), deed)
        self.assertTold(desk.undo(), None)
        self.assertTold(desk.count(), 0)
        self.assertTold(desk.stand(), FIRST)

    def test_no_count(self):
        desk = done(("overtake", "a", "b"), ("watch", ("all",)), ("overtake", "a", "c"))
        desk.undo()
        for thing in [3, 4, -1, True, None, "1", [1], 10 ** 30, {}, ABC]:
            self.assertRefused(NoCount, {"number": thing}, desk.at, thing)
        for number in (0, 1, 2):
            self.assertEqual(desk.at(number).count(), number)
            self.assertTold(desk.at(number).again(), None)

    def test_copies_go_on_by_themselves(self):
        desk = done(("overtake", "a", "b"), ("watch", ("all",)))
        desk.undo()
        copy, there = desk.copy(), desk.at(1)
        self.assertTold(copy.again(), ("watch", ("all",)))
        self.assertTold(there.again(), None)
        there.do(("overtake", "a", "c"))
        copy.do(("round", "a", 1))
        self.assertTold(desk.stand(), {"a": 1, "b": 0, "c": 2})
        self.assertTold(desk.watched(), [])
        self.assertTold(desk.again(), ("watch", ("all",)))
        self.assertTold(desk.deeds(), [("overtake", "a", "b"), ("watch", ("all",))])
        desk.undo()
        desk.undo()
        self.assertTold(copy.count(), 3)
        self.assertTold(there.deeds(), [("overtake", "a", "b"), ("overtake", "a", "c")])

    def test_told_things_are_the_callers(self):
        desk = done(("watch", ("all",)), ("overtake", "a", "b"))
        desk.stand().clear()
        desk.watched().clear()
        desk.deeds().clear()
        desk.free_overtakings().clear()
        desk.path().walkers().clear()
        desk.do(("overtake", "a", "c")).clear()
        self.assertTold(desk.watched(), [(("all",), 2, False)])
        self.assertTold(desk.deeds(), [("watch", ("all",)), ("overtake", "a", "b"), ("overtake", "a", "c")])
        self.assertTold(desk.stand(), {"a": 2, "b": 0, "c": 1})

    def test_trials_within_trials(self):
        desk = done(("hold", ("laps",)))
        before = state_of(desk)
        depths = []

        def work(handed):
            depths.append(handed.count())
            handed.undo()
            if len(depths) < 6:
                handed.do(("watch", ("made", "abc"[len(depths) % 3])))
                inner = state_of(handed)
                self.assertEqual(handed.trial(work), "out")
                self.assertTold(state_of(handed), inner)
            return "out"

        self.assertEqual(desk.trial(work), "out")
        self.assertEqual(len(depths), 6)
        self.assertTold(state_of(desk), before)

    def test_a_trial_that_is_refused(self):
        desk = done(("overtake", "a", "b"), ("overtake", "a", "c"))
        desk.undo()
        before = state_of(desk)

        def work(handed):
            handed.do(("round", "a", 1))
            handed.do(("overtake", "b", "a"))

        with self.assertRaises(WasOvertaken):
            desk.trial(work)
        self.assertTold(state_of(desk), before)
        self.assertTold(desk.trial(lambda handed: handed.undo()), ("overtake", "a", "b"))
        self.assertTold(desk.again(), ("overtake", "a", "c"))

    def test_work_is_called_once(self):
        desk = done(("overtake", "a", "b"))
        called = []
        self.assertIsNone(desk.trial(called.append))
        self.assertEqual(len(called), 1)
        self.assertIs(called[0], desk)

    def test_what_work_returns_is_not_looked_at(self):
        for thing in ANYTHING:
            self.assertIs(Desk(ABC).trial(lambda handed: thing), thing)
        desk = Desk(ABC)
        self.assertIs(desk.trial(lambda handed: handed), desk)


class Equal(ToldCase):
    def test_what_counts(self):
        desk = done(("overtake", "a", "b"), ("watch", ("all",)), ("hold", ("laps",)))
        same = done(("overtake", "a", "b"), ("watch", ["all"]), ("watch", ["made", "b"]), ("hold", ["laps"]),
                    ("free", ("made", "b")))
        self.assertIs(desk == same, True)
        self.assertIs(desk != same, False)
        others = [done(("overtake", "a", "b"), ("hold", ("laps",)), ("watch", ("all",))),
                  done(("overtake", "a", "b"), ("watch", ("all",)), ("watch", ("laps",))),
                  done(("overtake", "b", "c"), ("watch", ("all",)), ("hold", ("laps",))),
                  done(("overtake", "a", "b"), ("watch", ("all",))), Desk(ABC)]
        for other in others + ANYTHING:
            self.assertIs(desk == other, False)
        self.assertIs(Desk(Path(["a", "b"])) == Desk(Path(["b", "a"])), False)
        same_places = done(("overtake", "a", "b"), names="ab")
        self.assertTold(same_places.stand(), {"a": 1, "b": 0})
        self.assertIs(same_places == Desk(Path(["b", "a"])), False)
        self.assertIs(Desk(Path(["a", "b"])) == Desk(Path(("a", "b"))), True)
        back = done(("round", "b", 3))
        back.undo()
        self.assertIs(back == Desk(ABC), True)
        self.assertIs(Path(["a", "b"]) == Desk(Path(["a", "b"])), False)

    def test_no_path(self):
        for thing in ANYTHING:
            if not isinstance(thing, Path):
                self.assertRefused(BadPath, {"thing": thing}, Desk, thing)
        self.assertRefused(BadPath, {"thing": None}, Desk, path=None)

    def test_parameters_by_name(self):
        desk = Desk(path=ABC)
        self.assertIs(desk.path() == ABC, True)
        self.assertTold(desk.would(deed=("overtake", "a", "b")), [])
        self.assertTold(desk.do(deed=("overtake", "a", "b")), [])
        self.assertTold(desk.is_question(thing=("all",)), True)
        self.assertTold(desk.answer(question=("all",)), 1)
        self.assertTold(desk.way_to(goal=desk.stand()), [])
        self.assertTold(desk.gone_beyond(goal=FIRST), ("a", "b"))
        self.assertTold(desk.at(number=0).stand(), FIRST)
        self.assertTold(desk.trial(work=lambda handed: handed.count()), 1)


class Example(ToldCase):
    def test_the_documents(self):
        desk = Desk(ABC)
        desk.do(("overtake", "a", "b"))
        desk.do(("round", "a", 2))
        self.assertTold(desk.stand(), {"a": 5, "b": -2, "c": 0})
        self.assertTold([desk.answer(("net", *pair)) for pair in ("ab", "ac", "bc")], [3, 2, 0])
        self.assertTold(desk.answer(("made", "a")), 5)
        self.assertTold(desk.answer(("laps",)), 3)
        self.assertTold(desk.answer(("ahead", "a")), "c")
        self.assertRefused(WasOvertaken, {"one": "b", "other": "a"}, desk.do, ("overtake", "b", "a"))
        self.assertRefused(NotBehind, {"one": "a", "other": "b"}, desk.do, ("overtake", "a", "b"))
        desk.do(("hold", ("laps",)))
        self.assertTold(desk.free_overtakings(), [("a", "c"), ("c", "b")])
        self.assertTold(desk.would(("round", "a", 1)), [(("laps",), 3, 4)])
        self.assertRefusedTelling(WouldChange, {"question": ("laps",)}, desk.do, ("round", "a", 1))
        self.assertTold(desk.gone_beyond({"a": 4, "b": 0, "c": -1}), ("a", "b"))
        self.assertTold(desk.way_to({"a": 7, "b": -3, "c": -1}), [("a", "c"), ("a", "b")])


if __name__ == "__main__":
    unittest.main()
