"""Section 23 of the document: texts of desks."""

import random
import re
import unittest

from ringwalkers.desks import Desk
from ringwalkers.desktexts import read_desk, write_desk
from ringwalkers.errors import BadPath
from ringwalkers.paths import Path
from ringwalkers.refusals import BadDesk, BadText, WouldChange

from tests import slowly
from tests.anything import ANYTHING
from tests.told import ToldCase

ABC = Path(["a", "b", "c"])
LINES = ["walker a 5", "walker b -2", "walker c 0", "hold laps", "watch net a b", "watch noted c 12", "hold ahead b",
         "watch made c", "watch all"]
NAME = "[a-z][a-z0-9]{0,7}"
INTEGER = "(0|-?[1-9][0-9]{0,18})"
WALKER = re.compile("walker ({}) {}".format(NAME, INTEGER))
ASKED = "net {0} {0}|made {0}|ahead {0}|laps|all|noted {0} [1-9][0-9]{{0,18}}".format(NAME)
QUESTION = re.compile("(watch|hold) ({})".format(ASKED))


def fault_of(text):
    """The number of the first line that cannot stand where it does, None if it is a desk's text: read line by line."""
    lines = text.split("\n")
    ended = lines[-1] == ""
    if ended:
        lines.pop()
    places, asked = {}, []
    for number, line in enumerate(lines, 1):
        walker, question = WALKER.fullmatch(line), QUESTION.fullmatch(line)
        if walker:
            if walker[1] in places or asked:
                return number
            places[walker[1]] = int(walker[2])
        elif question:
            words = question[2].split(" ")
            walkers = [word for word in words[1:] if word[0].isalpha()]
            if not is_whole(places) or not set(walkers) <= set(places) or len(set(walkers)) < len(walkers):
                return number
            if question[2] in asked:
                return number
            asked.append(question[2])
        else:
            return number
    if not ended:
        return len(lines)
    return None if is_whole(places) else len(lines) + 1


def is_whole(places):
    many = len(places)
    rests = {place % many for place in places.values()}
    return many > 1 and len(rests) == many and sum(places.values()) == sum(range(many))


def drawn_desk(chance, names, deeds):
    desk = Desk(Path(names))
    for _ in range(deeds):
        one, other = chance.sample(names, 2)
        question = chance.choice([("net", one, other), ("made", one), ("noted", one, chance.choice([1, 7, 10 ** 6])),
                                  ("ahead", one), ("laps",), ("all",)])
        deed = chance.choice([("overtake", one, other), ("round", one, chance.choice([1, 5, 10 ** 12])),
                              ("watch", question), ("hold", list(question)), ("free", question)])
        try:
            desk.do(deed)
        except ValueError:
            continue
    return desk


class Written(ToldCase):
    def test_drawn_desks(self):
        chance = random.Random(230)
        for many in (2, 3, 4, 7, 10):
            for _ in range(12):
                names = chance.sample(slowly.many_names(10), many)
                desk = drawn_desk(chance, names, chance.randint(0, 60))
                lines = ["walker {} {}".format(name, desk.stand()[name]) for name in names]
                for question, _, held in desk.watched():
                    word = "hold" if held else "watch"
                    lines.append(" ".join([word] + [str(part) for part in question]))
                text = "".join(line + "\n" for line in lines)
                self.assertTold(write_desk(desk), text)
                self.assertIsNone(fault_of(text))
                self.check_read(desk, read_desk(text))

    def check_read(self, desk, told):
        self.assertIs(type(told), Desk)
        self.assertTrue(told == desk)
        self.assertTold(told.path(), desk.path())
        self.assertTold(told.stand(), desk.stand())
        self.assertTold(told.watched(), desk.watched())
        self.assertTold((told.count(), told.deeds(), told.undo(), told.again()), (0, [], None, None))
        self.assertTold(told.at(0).stand(), desk.stand())
        self.assertTold(write_desk(told), write_desk(desk))
        self.assertTold(told.free_overtakings(), desk.free_overtakings())

    def test_a_read_desk_goes_on(self):
        text = "walker a 5\nwalker b -2\nwalker c 0\nhold laps\nwatch net a b\n"
        desk, other = read_desk(text), read_desk(text)
        self.assertTold(desk.do(("overtake", "a", "c")), [])
        self.assertTold(desk.stand(), {"a": 6, "b": -2, "c": -1})
        self.assertRefusedTelling(WouldChange, {"question": ("laps",)}, desk.do, ("overtake", "a", "b"))
        self.assertTold(desk.do(("free", ("laps",))), [])
        self.assertTold(desk.do(("overtake", "a", "b")), [(("net", "a", "b"), 3, 4)])
        self.assertTold(other.stand(), {"a": 5, "b": -2, "c": 0})
        self.assertTold([desk.undo(), desk.undo(), desk.undo()],
                        [("overtake", "a", "b"), ("free", ("laps",)), ("overtake", "a", "c")])
        self.assertTrue(desk == other)

    def test_greatest_integers(self):
        far = 10 ** 19 - 1
        text = "walker a {}\nwalker b {}\nwatch noted b {}\n".format(far, 1 - far, far)
        self.assertTold(write_desk(read_desk(text)), text)
        self.assertRefused(BadText, {"line": 1}, read_desk, text.replace(str(far), str(far + 1)))
        self.assertRefused(BadText, {"line": 3}, read_desk, text.replace("b {}".format(far), "b {}".format(far + 1)))

    def test_any_object(self):
        for thing in ANYTHING:
            self.assertRefused(BadDesk, {"thing": thing}, write_desk, thing)


class Read(ToldCase):
    def check(self, text):
        fault = fault_of(text)
        if fault is None:
            self.assertTold(write_desk(read_desk(text)), text)
        else:
            self.assertRefused(BadText, {"line": fault}, read_desk, text)
        return fault

    def test_bent_sign_by_sign(self):
        text = "".join(line + "\n" for line in LINES)
        self.assertIsNone(self.check(text))
        found = set()
        for index in range(len(text) + 1):
            found.add(self.check(text[:index]))
            found.add(self.check(text[:index] + text[index + 1:]))
            for sign in "\n -0159abcwl_A\t\r+":
                found.add(self.check(text[:index] + sign + text[index:]))
                found.add(self.check(text[:index] + sign + text[index + 1:]))
        self.assertEqual(found - {None}, set(range(1, len(LINES) + 2)))

    def test_bent_line_by_line(self):
        chance = random.Random(231)
        more = LINES + ["walker d 3", "walker a 0", "walker b 1", "watch laps", "hold all", "watch net b a", "watch",
                        "hold net a a", "watch noted a 0", "watch noted a -1", "watch noted a 01", "watch noted a",
                        "watch net a d", "hold  all", " hold all", "hold all ", "", "watch made", "watch ahead d",
                        "free all", "walker", "walker c", "walker c -0", "walker c 00", "walker c +1", "walker 1c 1",
                        "walker c 1 ", "Walker c 1", "walker abcdefghi 1", "walker c 1_0",
                        "watch laps a", "watch all 1", "watch question", "hold",
                        "walker c 12345678901234567890", "walker c -12345678901234567890"]
        counts = {}
        for _ in range(6000):
            lines = chance.sample(LINES, chance.randint(0, 6)) if chance.random() < 0.3 else list(LINES)
            for _ in range(chance.randint(0, 3)):
                index = chance.randint(0, len(lines))
                kind = chance.random()
                if kind < 0.4:
                    lines.insert(index, chance.choice(more))
                elif kind < 0.7:
                    lines[index:index + 1] = []
                else:
                    lines[index:index + 2] = lines[index:index + 2][::-1]
            end = chance.choice(["\n", "\n", "\n", "", "\n\n"])
            fault = self.check("\n".join(lines) + end)
            counts[fault] = counts.get(fault, 0) + 1
        self.assertGreater(min(counts.get(fault, 0) for fault in [None] + list(range(1, 10))), 20)

    def test_texts_that_end_too_early(self):
        for text, line in (("", 1), ("\n", 1), ("walker a 0\n", 2), ("walker a 0", 1), ("walker a 0\nwalker b 1", 2),
                           ("walker a 0\nwalker b 0\n", 3), ("walker a 0\nwatch all\n", 2), ("watch all\n", 1),
                           ("walker a 0\nwalker b 2\nwalker c 1\nwatch al", 4), ("walker a 0\nwalker b 1\n\n", 3),
                           ("walker a 1\nwalker b 1\nwalker c 1\n", 4), ("walker a 0\nwalker b 1\nwalker c 2", 3),
                           ("walker a 0\nwalker b 3\nwatch all", 3), ("walker a 0\nwalker b 3\nwalker a 1", 3)):
            self.assertEqual(fault_of(text), line)
            self.assertRefused(BadText, {"line": line}, read_desk, text)

    def test_integers_as_other_figures(self):
        # Figures that Python would read, but does not write.
        for figures in ("\u0663", "\uff13", "1_0", " 1", "1.0", "\u00b2"):
            self.assertRefused(BadText, {"line": 1}, read_desk, "walker a {}\nwalker b 1\n".format(figures))
        self.assertRefused(BadText, {"line": 1}, read_desk, "walker \u00e4 0\nwalker b 1\n")
        self.assertRefused(BadText, {"line": 1}, read_desk, "walker\u00a0a 0\nwalker b 1\n")

    def test_any_object(self):
        for thing in ANYTHING:
            if not isinstance(thing, str):
                self.assertRefused(BadText, {"line": 0}, read_desk, thing)
            else:
                self.check(thing)

    def test_long_texts(self):
        names = slowly.many_names(20)
        path = Path(names)
        desk = Desk(path)
        for one, other in slowly.all_pairs(names)[:300]:
            desk.do(("watch", ["net", one, other]))
        text = write_desk(desk)
        self.assertGreater(len(text), 4000)
        self.assertTrue(read_desk(text) == desk)
        self.check(text + "watch net w0 w1\n")


class Example(ToldCase):
    def test_the_documents(self):
        desk = Desk(ABC)
        desk.do(("overtake", "a", "b"))
        desk.do(("round", "a", 2))
        desk.do(("hold", ("laps",)))
        text = "walker a 5\nwalker b -2\nwalker c 0\nhold laps\n"
        self.assertTold(write_desk(desk), text)
        self.assertTrue(read_desk(text) == desk)
        self.assertRefused(BadText, {"line": 4}, read_desk, text.replace("walker c 0", "walker c 1"))
        self.assertRefused(BadText, {"line": 4}, read_desk, text.replace("hold laps", "hold net a a"))
        self.assertRefused(BadPath, {"thing": text}, Desk, text)


if __name__ == "__main__":
    unittest.main()
