"""What the document promises over several files at once."""

import itertools
import random
import unittest

from ringwalkers.againandagain import again, and_then, undone
from ringwalkers.callers import run_chosen, run_to_notes, run_to_numbers
from ringwalkers.capped import least_stand, run_of_noted
from ringwalkers.commons import earlier_ones, first_common, is_earlier, last_common, to_common
from ringwalkers.counted import count_stands
from ringwalkers.desks import Desk
from ringwalkers.desktexts import read_desk, write_desk
from ringwalkers.drawnsteps import drawn_run, further_on
from ringwalkers.errors import BadPath
from ringwalkers.fewbetween import fewest_between
from ringwalkers.halftold import stand_of_mixed, stand_without
from ringwalkers.indoubt import wrong_nets, wrong_numbers, wrong_pairs
from ringwalkers.joinings import joined, with_total
from ringwalkers.lapcounts import count_within, stands_within
from ringwalkers.laps import is_within, leads, most_laps
from ringwalkers.madenumbers import lists_fault, numbers_made, numbers_suffered, stand_of_made, stand_of_suffered
from ringwalkers.moreleft import is_made_run, made_run, numbers_behind
from ringwalkers.netnumbers import nets_of, stand_of_nets
from ringwalkers.netspans import fits, net_bounds, place_span, stand_within
from ringwalkers.notebounds import nets_noted
from ringwalkers.notes import noted, notes, notes_of_noted
from ringwalkers.numbered import stand_at, stand_number
from ringwalkers.observers import fewest_observers, knows_all, tells_all
from ringwalkers.paths import Path, first_stand, going_round, net, right_ahead, turned
from ringwalkers.photos import laps_of, overtakings_of, photo_of, stand_of_laps
from ringwalkers.pricelists import price_between
from ringwalkers.priceorders import cheapest_in_order
from ringwalkers.priceweights import cheapest
from ringwalkers.runs import blocks_end, is_one_way, run_end
from ringwalkers.shortestruns import fewest, is_between, is_shortest, shortest_run, stand_after
from ringwalkers.shownotes import are_notes, last_stand, net_span
from ringwalkers.steps import count_runs, runs_between
from ringwalkers.tables import in_all, of_some, stand_of_table, table, with_one_more
from ringwalkers.teams import begun_with, gathered, spread
from ringwalkers.views import place_by, stand_seen, view
from ringwalkers.walks import shown, stand_then, walk_to
from ringwalkers.withincounts import count_fits, spans_of

from tests import slowly
from tests.anything import ANYTHING
from tests.calls import CALLS
from tests.told import ToldCase


def near_scenes():
    """Small paths with near stands, some of the farthest ones among them."""
    for names, near in slowly.small_paths():
        for walked in near[:30] + near[-15:]:
            yield Path(names), walked.places


def scenes():
    """The same, and paths with stands far off."""
    yield from near_scenes()
    for many in (2, 3, 11, 20):
        names = slowly.many_names(many)
        laps = [0] + [(-1) ** index * (10 ** 12 + index) for index in range(many - 1)]
        yield Path(names), slowly.far_stand(names, laps)


class OneStand(ToldCase):
    """A stand told back from all that tells it."""

    def test_table_and_numbers(self):
        for path, stand in scenes():
            nets = table(path, stand)
            made, suffered = numbers_made(path, stand), numbers_suffered(path, stand)
            self.assertTold(stand_of_table(path, nets), stand)
            self.assertTold(stand_of_made(path, made), stand)
            self.assertTold(stand_of_suffered(path, suffered), stand)
            self.assertTold(stand_of_nets(path, nets_of(path, stand)), stand)
            self.assertTold(nets_of(path, stand), {name: made[name] - suffered[name] for name in made})
            self.assertTold(lists_fault(path, made, suffered), None)
            self.assertEqual(sum(made.values()), sum(suffered.values()))
            self.assertTold(in_all(path, stand), sum(made.values()))
            self.assertTold(fewest(path, first_stand(path), stand), in_all(path, stand))
            self.assertTold(max(nets.values()), most_laps(path, stand))

    def test_in_doubt_and_half_told(self):
        for path, stand in scenes():
            made, suffered = numbers_made(path, stand), numbers_suffered(path, stand)
            self.assertTold(wrong_numbers(path, made, suffered), [])
            self.assertTold(wrong_nets(path, nets_of(path, stand)), [])
            self.assertTold(wrong_pairs(path, table(path, stand)), [])
            for name in path.walkers():
                part = {other: (made[other], suffered[other]) for other in made if other != name}
                self.assertTold(stand_without(path, part), stand)

    def test_mixed(self):
        for path, stand in near_scenes():
            made, nets = numbers_made(path, stand), nets_of(path, stand)
            for index in range(len(made) + 1):
                some = path.walkers()[:index]
                rest = {name: nets[name] for name in nets if name not in some}
                self.assertTold(stand_of_mixed(path, {name: made[name] for name in some}, rest), stand)

    def test_photo_view_and_walk(self):
        for path, stand in scenes():
            self.assertTold(stand_of_laps(path, photo_of(path, stand), laps_of(path, stand)), stand)
            for name in path.walkers()[:3]:
                seen, row = view(path, stand, name), going_round(path, stand, name)
                self.assertTold(stand_seen(path, name, seen, row[1:]), stand)
                self.assertTold(place_by(path, name, seen), stand[name])
                self.assertTold(row[1], right_ahead(path, stand, name))
                self.assertTold([further_on(path, stand, name, other) for other in row[1:]], list(range(1, len(row))))
            walk = walk_to(path, stand)
            begin, end = shown(path, walk, stand)
            self.assertTrue(begin is None or begin[0] < begin[1])
            self.assertTrue(end is None or end[0] >= end[1])
            self.assertTold(stand_then(path, walk, 1), stand)

    def test_spans_and_observers(self):
        for path, stand in scenes():
            spans = spans_of(path, [stand])
            self.assertTold(stand_within(path, spans), stand)
            self.assertTold(fits(path, spans, stand), True)
            for name in path.walkers()[:3]:
                self.assertTold(place_span(path, spans, name), (stand[name], stand[name]))
            lot = fewest_observers(path, stand)
            self.assertTold(knows_all(path, stand, lot), True)
            self.assertTold(tells_all(path, stand, lot[:1], list(itertools.combinations(path.walkers(), 2))), True)
            # What the views of observers say, as spans, leaves this stand alone.
            seen = {(one, other): (number, number) for one in lot for other, number in view(path, stand, one).items()}
            self.assertTold(stand_within(path, seen), stand)

    def test_numbered(self):
        for path, stand in near_scenes():
            total = in_all(path, stand)
            number = stand_number(path, stand)
            self.assertTold(stand_at(path, total, number), stand)
            self.assertLess(number, count_stands(path, total))

    def test_notes_that_are_great_enough(self):
        for path, stand in near_scenes():
            most = most_laps(path, stand) + 1
            told = notes(path, stand, most)
            self.assertTold(noted(path, stand, most), numbers_made(path, stand))
            self.assertTold(are_notes(path, told, most), True)
            self.assertTold(last_stand(path, told, most), stand)
            self.assertTold(least_stand(path, numbers_made(path, stand), most), stand)
            self.assertTold(nets_noted(told), table(path, stand))

    def test_other_paths(self):
        for path, stand in scenes():
            back, turned_stand = turned(path, stand)
            self.assertTold(turned(back, turned_stand), (path, stand))
            self.assertEqual(numbers_made(back, turned_stand), numbers_suffered(path, stand))
            names = path.walkers()
            self.assertTold(of_some(path, stand, names), (path, stand))
            self.assertTold(spread(path, stand, {name: [name] for name in names}), (path, stand))
            self.assertTold(gathered(path, stand, [[name] for name in names]), (path, stand))
            for name in names[:3]:
                path_begun, begun = begun_with(path, stand, name)
                self.assertEqual(table(path_begun, begun), table(path, stand))
                self.assertEqual(numbers_made(path_begun, begun), numbers_made(path, stand))

    def test_again_and_undone(self):
        for path, stand in scenes():
            back = undone(path, stand)
            self.assertTold(and_then(path, stand, back), first_stand(path))
            self.assertTold(and_then(path, back, stand), first_stand(path))
            self.assertTold(in_all(path, back), in_all(path, stand))
            self.assertTold(and_then(path, stand, stand), again(path, stand, 2))


class Ways(ToldCase):
    """Runs between stands, told by several files."""

    def test_shortest_runs(self):
        for path, stand in scenes():
            begin = first_stand(path)
            blocks = shortest_run(path, begin, stand)
            self.assertTold(blocks_end(path, begin, blocks), stand)
            self.assertTold(is_shortest(path, begin, stand, blocks), True)
            half = stand_after(path, begin, stand, in_all(path, stand) // 2)
            self.assertTold(in_all(path, half), in_all(path, stand) // 2)
            self.assertTold(is_between(path, begin, stand, half), True)
            self.assertTold(is_earlier(path, half, stand), True)
            prices = {pair: 1 for pair in table(path, stand)}
            self.assertTold(price_between(path, prices, half, stand), fewest(path, half, stand))

    def test_runs_of_all_kinds(self):
        chance = random.Random(300)
        for path, stand in near_scenes():
            begin = first_stand(path)
            made = numbers_made(path, stand)
            if in_all(path, stand) > 30:
                continue
            most = most_laps(path, stand) + 1
            runs = [made_run(path, made), Desk(path).way_to(stand), run_of_noted(path, made, most),
                    run_to_numbers(path, made, lambda stand, may_come: chance.choice(may_come)),
                    run_to_notes(path, made, most, lambda stand, may_come: chance.choice(may_come))]
            for run in runs:
                self.assertTold(run_end(path, begin, run), stand)
                self.assertTold(is_one_way(path, run), True)
                self.assertTold(is_made_run(path, made, run), True)
                self.assertEqual(len(run), in_all(path, stand))
                self.assertTold(is_shortest(path, begin, stand, [(run, 1)] if run else []), True)

    def test_counted_runs(self):
        for path, stand in near_scenes():
            if in_all(path, stand) <= 4:
                begin = first_stand(path)
                self.assertTold(count_runs(path, begin, stand), len(runs_between(path, begin, stand)))
                back, turned_stand = turned(path, stand)
                self.assertTold(count_runs(back, turned(path, begin)[1], turned_stand), count_runs(path, begin, stand))
                earlier = earlier_ones(path, stand)
                self.assertTold(earlier[-1], stand)
                self.assertTrue(all(is_earlier(path, each, stand) for each in earlier))

    def test_photos(self):
        for path, stand in near_scenes():
            begin = first_stand(path)
            photo, later = photo_of(path, begin), photo_of(path, stand)
            few = fewest_between(path, photo, later)
            self.assertTold(overtakings_of(path, photo, nets_of(path, stand)), in_all(path, stand))
            self.assertLessEqual(few, in_all(path, stand))
            self.assertEqual((in_all(path, stand) - few) % 2, 0)


class Along(ToldCase):
    """All that tells of one stand, along drawn runs."""

    def test_by_overtakings(self):
        chance = random.Random(301)
        for many in (2, 3, 4, 6):
            path = Path(slowly.names_of(many))
            for _ in range(6):
                self.go(chance, path, first_stand(path), 25)

    def go(self, chance, path, stand, steps):
        desk, texts = Desk(path), []
        for question in (("laps",), ("all",), ("made", path.walkers()[0]), ("noted", path.walkers()[1], 2)):
            desk.do(("watch", question))
        run = run_chosen(path, stand, lambda stand, may_come: chance.choice(may_come), steps)
        for one, other in run:
            made = numbers_made(path, stand)
            stand = run_end(path, stand, [(one, other)])
            self.assertTold(numbers_behind(path, made, one, other), numbers_made(path, stand))
            desk.do(("overtake", one, other))
            self.check_desk(path, stand, desk)
            texts.append(write_desk(desk))
        for text in texts[::-1]:
            self.assertTold(write_desk(desk), text)
            self.assertTrue(read_desk(text) == desk)
            desk.undo()

    def check_desk(self, path, stand, desk):
        names = path.walkers()
        self.assertTold(desk.stand(), stand)
        self.assertTold(desk.answer(("laps",)), most_laps(path, stand))
        self.assertTold(desk.answer(("all",)), in_all(path, stand))
        for name in names:
            self.assertTold(desk.answer(("made", name)), numbers_made(path, stand)[name])
            self.assertTold(desk.answer(("ahead", name)), right_ahead(path, stand, name))
            self.assertTold(desk.answer(("noted", name, 2)), noted(path, stand, 2)[name])
        for one, other in slowly.all_pairs(names):
            self.assertTold(desk.answer(("net", one, other)), net(path, stand, one, other))

    def test_by_draws(self):
        chance = random.Random(302)
        for path, stand in near_scenes():
            run, end = drawn_run(path, stand, 12, chance.randrange)
            self.assertTold(run_end(path, stand, run), end)
            self.assertLessEqual(fewest(path, stand, end), 12)
            self.assertEqual(fewest(path, stand, end) % 2, 0)
            desk = Desk(path)
            if fewest(path, first_stand(path), stand) < 30:
                for pair in desk.way_to(stand):
                    desk.do(("overtake",) + pair)
                self.assertTold(desk.stand(), stand)


class SeveralStands(ToldCase):
    def test_common_ones(self):
        chance = random.Random(303)
        for names, near in slowly.small_paths():
            path = Path(names)
            for _ in range(60):
                stands = [walked.places for walked in chance.choices(near, k=chance.randint(1, 4))]
                last = last_common(path, stands)
                later = first_common(path, stands)
                spans = spans_of(path, stands)
                for stand in stands:
                    self.assertTold(is_earlier(path, last, stand), True)
                    self.assertTold(fits(path, spans, stand), True)
                    if later is not None:
                        self.assertTold(is_earlier(path, stand, later), True)
                if later is not None:
                    counts = [fewest(path, stand, later) for stand in stands]
                    self.assertTold(to_common(path, stands), counts)
                    self.assertTold(last_common(path, [later] + stands), last)

    def test_notes(self):
        for most, (path, stand) in itertools.product((1, 2), near_scenes()):
            told = notes(path, stand, most)
            numbers = noted(path, stand, most)
            self.assertTold(notes_of_noted(path, numbers, most), told)
            least = least_stand(path, numbers, most)
            self.assertTold(is_earlier(path, least, stand), True)
            self.assertTold(notes(path, least, most), told)
            last = last_stand(path, told, most)
            if last is not None:
                self.assertTold(is_earlier(path, stand, last), True)
            for one, other in slowly.all_pairs(path.walkers()):
                low, high = net_span(path, told, most, one, other)
                now = net(path, stand, one, other)
                self.assertTrue((low is None or low <= now) and (high is None or now <= high))

    def test_laps_and_spans(self):
        for many, laps in ((2, 2), (3, 1), (3, 2), (4, 1)):
            names = slowly.names_of(many)
            path = Path(names)
            spans = {pair: (-laps, laps) for pair in itertools.combinations(names, 2)}
            self.assertTold(count_fits(path, spans), count_within(path, laps))
            for stand in stands_within(path, laps):
                self.assertTold(is_within(path, stand, laps), True)
                self.assertTold(fits(path, spans, stand), True)
                self.assertLess(max(leads(path, stand).values()), many * (laps + 1))

    def test_prices_and_spans(self):
        chance = random.Random(304)
        for path, stand in near_scenes():
            names = path.walkers()
            prices = {pair: chance.randint(1, 4) for pair in table(path, stand)}
            wishes = [(one, other, number) for (one, other), number in table(path, stand).items()]
            order = going_round(path, stand, names[-1])
            price = price_between(path, prices, first_stand(path), stand)
            # With all nets wished for there is this stand alone.
            self.assertTold(cheapest_in_order(path, prices, order, wishes), (price, stand))
            if len(names) < 5:
                self.assertTold(cheapest(path, prices, wishes), (price, stand))
            some = wishes[::3]
            told, found = cheapest_in_order(path, prices, order, some)
            self.assertLessEqual(told, price)
            spans = {(one, other): (least, None) for one, other, least in some}
            self.assertTold(fits(path, spans, found), True)
            for one, other, least in some:
                self.assertGreaterEqual(net_bounds(path, spans, one, other)[0], least)

    def test_newcomers(self):
        for path, stand in scenes():
            for total in (-3, 0, 8):
                longer, told = with_total(path, stand, "new", total)
                nets = {name: net(longer, told, "new", name) for name in path.walkers()}
                self.assertEqual(sum(nets.values()), total)
                self.assertTold(with_one_more(path, stand, "new", nets), (longer, told))
                seen = view(longer, told, "new")
                self.assertTold(seen, nets)

    def test_paths_joined(self):
        for path, stand in near_scenes():
            names = path.walkers()
            if len(names) < 4:
                continue
            first, begun = of_some(path, stand, names[:2])
            second, other = of_some(path, stand, names[2:])
            sums = {name: sum(net(path, stand, name, each) for each in names[2:]) for name in names[:2]}
            self.assertTold(joined(first, begun, second, other, sums), stand)


class Paths(ToldCase):
    def test_what_is_no_path_is_refused_ahead_of_all_else(self):
        for call in CALLS:
            paths = [name for name in call.arguments if name in ("path", "first", "second")]
            for thing in ANYTHING[::3] + [[], {"a": 0}]:
                if paths and not isinstance(thing, Path):
                    with self.subTest(function=call.name()):
                        arguments = {name: None for name in call.arguments}
                        arguments[paths[0]] = thing
                        self.assertRefused(BadPath, {"thing": thing}, call.function, **arguments)


if __name__ == "__main__":
    unittest.main()
