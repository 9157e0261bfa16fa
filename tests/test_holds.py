"""What holds, a to e, over lines of all 23 calls."""

import unittest
from fractions import Fraction
from random import Random

from lines import NAMES, SMALL, TOP, answered, begun, last, on

CHANGING = ("begin", "ship", "fill", "dump", "pour", "change")
EDGES = (0, 1, 2, 3, 4, 59, 60, 61, 199, 200, 201, 1999, 2000, 2001, 10000, 10001, 100000, 100001, TOP - 1, TOP)
SIZES = (0, 1, 2, 3, 4, 5, 6, 18, 19, 20, 21, 22)
COUNTS = dict(zip(NAMES, (0, 6, 2, 1, 2, 3, 1, 1, 2, 1, 1, 2, 3, 3, 2, 2, 1, 1, 0, 2, 1, 0, 0)))
LINES = 150


def any_ship(chance):
    """A ship that is as told, most often a small one that is soon full, or soon too heavy."""
    return ("ship", chance.choice((1, 5, 10, 40, 300, 10000)), chance.choice((1, 100, 20000)),
            chance.choice((3, 9, 15, 40, 700, 20000)), chance.choice((1, 3, 8, 200)), chance.choice((1, 20, 47, 60)),
            chance.choice((0, 3, 7, 10)))


def any_table(chance):
    """A table of drafts, most often one as told."""
    if chance.random() < 0.3:
        return [chance.choice((0, 5, 100, 60000, 60001, 65535)) for place in range(chance.choice(SIZES))]
    pairs = chance.randint(2, 10)
    weights = sorted(chance.sample(range(0, 60001), pairs))
    depths = sorted(chance.choices(range(0, 60001), k=pairs))
    return [number for pair in zip(weights, depths) for number in pair]


def any_call(chance):
    """A call, most often one that is not refused."""
    name = chance.choice(NAMES[1:] + ("fill",) * 8 + ("dump", "pour", "change"))
    if name == "ship" and chance.random() < 0.7:
        return any_ship(chance)
    numbers = [chance.randint(1, 20) if chance.random() < 0.7 else chance.choice(EDGES) for k in range(COUNTS[name])]
    if numbers and name != "ship" and chance.random() < 0.9:
        numbers[0] = chance.randint(0, 1)
    if name == "draft":
        numbers.append(any_table(chance))
    return (name, *numbers)


def any_calls(seed, count):
    """So many calls behind a begin and two ships; the same for the same seed."""
    chance = Random(seed)
    return [("begin",), any_ship(chance), any_ship(chance)] + [any_call(chance) for k in range(count)]


def looks(s):
    """Calls that together tell all that the object keeps of a ship, and of all."""
    return (("load", s), ("weight", s), ("look", s), ("wet", s), ("longest", s), ("sums",), ("state",), ("fullest",))


SEEN = looks(0) + looks(1)


def with_looks(calls):
    """Each call's answer, with what is seen before it and behind it."""
    line = []
    for call in calls:
        line.extend((call,) + SEEN)
    given = answered(*line)
    step = 1 + len(SEEN)
    rows = [(given[at], given[at + 1:at + step]) for at in range(0, len(given), step)]
    before = [[-11]] * len(SEEN)
    told = []
    for call, (answer, behind) in zip(calls, rows):
        told.append((call, answer, before, behind))
        before = behind
    return told


class TestWhatHolds(unittest.TestCase):
    @classmethod
    def setUpClass(cls):
        cls.told = [row for seed in range(LINES) for row in with_looks(any_calls(seed, 11))]

    def test_a_never_more_than_room_nor_than_it_may_carry(self):
        filled = 0
        for call, answer, before, behind in self.told:
            for place in (0, len(SEEN) // 2):
                load, weight, look = behind[place:place + 3]
                if load[0] < 0:
                    continue
                filled += load[0] > 0
                with self.subTest(call=call, load=load, look=look):
                    self.assertLessEqual(load[1] + load[2], look[0] * 100)
                    self.assertLessEqual((load[1] * 265 + load[2] * 102) // 100, look[2] * 100)
                    self.assertEqual(weight, [(load[1] * 265 + load[2] * 102) // 10000, weight[0] + look[1], look[2]])
                    self.assertGreaterEqual(min(load), 0)
                    self.assertLessEqual(load[0], 200)
        self.assertGreater(filled, 200)

    def test_b_sand_is_told_of(self):
        fills = 0
        for call, answer, before, behind in self.told:
            if call[0] != "fill" or answer[0] < 0:
                continue
            fills += 1
            place = call[1] * len(SEEN) // 2
            was, now, look = before[place], behind[place], behind[place + 2]
            came = call[2] * look[3] * look[4]
            with self.subTest(call=call, was=was, look=look):
                self.assertEqual(now[1] + now[4], was[1] + was[4] + came)
                self.assertGreaterEqual(now[1], was[1])
                self.assertEqual(now[0], was[0] + call[2])
                self.assertEqual(answer, [now[1] // 100, now[2] // 100, now[3]])
        self.assertGreater(fills, 100)

    def test_b_what_is_dumped_is_carried(self):
        dumps = 0
        for call, answer, before, behind in self.told:
            if call[0] != "dump" or answer[0] < 0:
                continue
            dumps += 1
            sums, state = SEEN.index(("sums",)), SEEN.index(("state",))
            sand = answer[0] * 100 + answer[1]
            was = before[sums]
            now = list(before[state])
            now[1 + 2 * call[1]] += 1
            now[2 + 2 * call[1]] += sand
            with self.subTest(call=call, was=was):
                self.assertEqual(sand, before[call[1] * len(SEEN) // 2][1])
                self.assertEqual(behind[sums], [0, was[1] + 1, was[2] + sand, was[3] - sand])
                self.assertEqual(behind[state], now)
        self.assertGreater(dumps, 15)

    def test_sums_are_those_of_state(self):
        for call, answer, before, behind in self.told:
            sums, state = behind[SEEN.index(("sums",))], behind[SEEN.index(("state",))]
            if sums != [-11]:
                self.assertEqual(sums[:3], [0, sum(state[1::2]), sum(state[2::2])])
                self.assertEqual(len(state), 1 + 2 * state[0])

    def test_e_what_is_refused_and_looking_changes_nothing(self):
        refused = set()
        looked = set()
        for call, answer, before, behind in self.told:
            if answer[0] < 0:
                self.assertEqual(len(answer), 1)
                self.assertIn(answer[0], (-2, -6, -11, -12, -16, -22, -28, -33, -41))
                refused.add(call[0])
            elif call[0] not in CHANGING:
                self.assertGreaterEqual(min(answer), 0)
                looked.add(call[0])
            else:
                continue
            with self.subTest(call=call, answer=answer):
                self.assertEqual(behind, before)
        self.assertEqual(looked, set(NAMES) - set(CHANGING))
        self.assertLessEqual({"ship", "fill", "dump", "pour", "change", "wet", "draft", "reaches"}, refused)

    def test_e_left_out_the_others_answer_the_same(self):
        for seed in range(LINES):
            calls = any_calls(seed, 60)
            given = answered(*calls)
            kept = [(call, answer) for call, answer in zip(calls, given) if answer[0] >= 0 and call[0] in CHANGING]
            with self.subTest(seed=seed):
                self.assertEqual(answered(*[call for call, answer in kept]), [answer for call, answer in kept])


SHIPS = tuple(
    ("ship", room, 50, most, flow, solid, loss)
    for room in (1, 60, 2500)
    for most in (3, 70, 20000)
    for flow, solid in ((1, 1), (3, 20), (200, 60))
    for loss in (0, 3, 10)
)


class TestFromEmpty(unittest.TestCase):
    def test_c_no_other_minute_gives_more(self):
        for ship in SHIPS:
            for rest in (1, 7, 2000):
                longest, best, trips = on(ship, ("longest", 0), ("best", 0, rest), ("trips", 0, rest, 100000))
                rates = on(ship, *[("rate", 0, n, rest) for n in range(longest[0] + 1)])
                exact = [whole + Fraction(left, n + rest) for n, (whole, left) in enumerate(rates)]
                with self.subTest(ship=ship, rest=rest):
                    self.assertEqual(best[0], exact.index(max(exact)))
                    self.assertEqual(best[2], rates[best[0]][0])
                    self.assertEqual(exact[best[0]], Fraction(best[1] * 60, best[0] + rest))
                    count = 100000 // (best[0] + rest)
                    self.assertEqual(trips, [count, count * best[1], best[0]])

    def test_c_what_is_longer_away_stops_no_sooner(self):
        for ship in SHIPS:
            minutes = [given[2] for given in on(ship, *[("trips", 0, rest, 1) for rest in range(1, 2001, 9)])]
            with self.subTest(ship=ship):
                self.assertEqual(minutes, sorted(minutes))

    def test_b_with_each_minute_of_overflow_no_more_stays(self):
        for ship in SHIPS:
            kept = [given[0] for given in on(ship, *[("keeps", 0, k) for k in range(201)])]
            with self.subTest(ship=ship):
                self.assertEqual(kept, [max(0, 100 - k * ship[6]) for k in range(201)])

    def test_lost_is_what_after_tells(self):
        for ship in SHIPS:
            loads = on(ship, *[("after", 0, n) for n in range(1, 201)])
            lost = on(ship, *[("lost", 0, n) for n in range(1, 201)])
            for n, (load, given) in enumerate(zip(loads, lost), start=1):
                with self.subTest(ship=ship, n=n):
                    self.assertEqual(given, [load[3] * 1000 // (n * ship[4] * ship[5]), load[3]])

    def test_reaches_is_the_first_that_after_tells(self):
        for ship in SHIPS:
            longest = last(ship, ("longest", 0))[0]
            sand = [given[0] for given in on(ship, *[("after", 0, n) for n in range(longest + 1)])]
            for n in (0, 1, 2, 10, 60, 61, 500, 2500, 10000):
                first = next((minute for minute, there in enumerate(sand) if there >= n * 100), -33)
                with self.subTest(ship=ship, n=n):
                    self.assertEqual(last(ship, ("reaches", 0, n)), [first])

    def test_d_filled_in_two_goes_it_is_as_in_one(self):
        seen = (("load", 0), ("weight", 0), ("wet", 0), ("fullest",), ("sums",), ("draft", 0, [0, 0, 60000, 60000]))
        for ship in SHIPS:
            longest = last(ship, ("longest", 0))[0]
            for n in [n for n in (2, 3, 20, 199, 200) if n <= longest]:
                one = on(ship, ("fill", 0, n), *seen)
                for first in sorted({1, n // 2, n - 1}):
                    with self.subTest(ship=ship, n=n, first=first):
                        self.assertEqual(on(ship, ("fill", 0, first), ("fill", 0, n - first), *seen)[1:], one)

    def test_d_heavier_it_lies_no_higher(self):
        table = [0, 3, 60, 3, 61, 50, 200, 200, 30000, 60000]
        for ship in SHIPS:
            longest = last(ship, ("longest", 0))[0]
            given = on(ship, ("draft", 0, table), *[("fill", 0, 1), ("draft", 0, table)] * min(longest, 60))
            depths = [depth[0] for depth in given[::2]]
            with self.subTest(ship=ship):
                self.assertEqual(depths, sorted(depths))
                self.assertEqual(depths[0], 3)


class TestNothingIsRaised(unittest.TestCase):
    def test_any_numbers(self):
        chance = Random(2)
        for name in NAMES:
            for k in range(120):
                numbers = [chance.choice(EDGES) for place in range(COUNTS[name])]
                row = [[chance.choice((0, 100, 60000, 60001, 65535))] * chance.choice((0, 3, 4, 20, 1000))]
                call = (name, *numbers, *(row if name == "draft" else []))
                with self.subTest(call=call):
                    for line in ((call,), (("begin",), call), (("begin",), SMALL, call),
                                 (("begin",), SMALL, ("fill", 0, 5), (name, *([0] * (COUNTS[name] > 0)), *call[2:]))):
                        given = answered(*line)
                        self.assertEqual(len(given), len(line))

    def test_256_calls(self):
        for seed in range(20):
            with self.subTest(seed=seed):
                self.assertEqual(len(answered(*any_calls(seed, 253))), 256)

    def test_every_call_does_something_where_it_can(self):
        calls = (("fill", 0, 5), ("rate", 0, 4, 3), ("trips", 0, 3, 18), ("keeps", 0, 1), ("lost", 0, 4), ("wet", 0),
                 ("draft", 0, [100, 5, 128, 33]), ("fullest",), ("reaches", 0, 3), ("look", 0), ("sums",), ("state",),
                 ("best", 0, 3), ("longest", 0), ("full", 0), ("after", 0, 4), ("pour", 0, 3), ("weight", 0),
                 ("load", 0), ("dump", 0), ("change", 0, 5, 40), ("look", 0), ("sums",), ("state",), ("begin",))
        self.assertEqual(begun(SMALL, *calls), [
            [0], [2, 7, 2], [2005, 5], [2, 648, 6], [90], [25, 6], [718], [19], [0, 282, 10], [6],
            [10, 100, 20000, 3, 20, 10], [0, 0, 0, 282], [1, 0, 0], [6, 324, 2160], [200], [4], [234, 766, 1, 6, 1],
            [4], [11, 111, 20000], [5, 282, 418, 2, 18], [2, 82], [3], [10, 100, 20000, 5, 40, 10], [0, 1, 282, 0],
            [1, 1, 282], [0]])


if __name__ == "__main__":
    unittest.main()
