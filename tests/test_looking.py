"""The calls that only look: load, weight (promise 2), after, full, longest (promise 3), best (promise 4)."""

import unittest
from fractions import Fraction

from lines import SMALL, TOP, begun, last, on


class TestLoad(unittest.TestCase):
    def test_empty(self):
        self.assertEqual(last(SMALL, ("load", 0)), [0, 0, 0, 0, 0])

    def test_filled(self):
        self.assertEqual(last(SMALL, ("fill", 0, 2), ("load", 0)), [2, 120, 480, 0, 0])
        self.assertEqual(last(SMALL, ("fill", 0, 5), ("load", 0)), [5, 282, 718, 2, 18])

    def test_of_the_ship_that_is_named(self):
        given = begun(SMALL, SMALL, ("fill", 0, 1), ("fill", 1, 5), ("load", 0), ("load", 1))
        self.assertEqual(given[4:], [[1, 60, 240, 0, 0], [5, 282, 718, 2, 18]])


class TestWeight(unittest.TestCase):
    def test_empty(self):
        self.assertEqual(last(("ship", 10, 77, 55, 3, 20, 10), ("weight", 0)), [0, 77, 55])

    def test_rounded_down_to_tons(self):
        # 4.038, 8.076, 12.114 tons, and then 14.01.
        for n, tons in ((1, 4), (2, 8), (3, 12), (4, 14)):
            with self.subTest(n=n):
                self.assertEqual(last(SMALL, ("fill", 0, n), ("weight", 0)), [tons, tons + 100, 20000])

    def test_whole_tons(self):
        self.assertEqual(last(("ship", 1000, 9, 367, 100, 50, 0), ("fill", 0, 2), ("weight", 0)), [367, 376, 367])

    def test_sand_and_water_each_weigh_their_own(self):
        # 0.10 of sand and 0.90 of water weigh 1.183.
        self.assertEqual(last(("ship", 1, 5, 6, 1, 10, 0), ("fill", 0, 1), ("weight", 0)), [1, 6, 6])
        # 1.00 of sand and 4.00 of water weigh 6.73, and 2.65 without the water.
        ship = ("ship", 10, 100, 20000, 5, 20, 10)
        self.assertEqual(on(ship, ("fill", 0, 1), ("weight", 0), ("pour", 0, 4), ("weight", 0))[1::2],
                         [[6, 106, 20000], [2, 102, 20000]])

    def test_all_sand(self):
        ship = ("ship", 1, 100, 20000, 1, 60, 0)
        self.assertEqual(last(ship, ("fill", 0, 2), ("weight", 0)), [2, 102, 20000])


class TestAfter(unittest.TestCase):
    def test_no_minute(self):
        self.assertEqual(last(SMALL, ("after", 0, 0)), [0, 0, 0, 0, 1])

    def test_minutes(self):
        given = on(SMALL, *[("after", 0, n) for n in (1, 3, 4, 5, 12)])
        self.assertEqual(given, [[60, 240, 0, 0, 1], [180, 720, 0, 0, 1], [234, 766, 1, 6, 1], [282, 718, 2, 18, 1],
                                 [450, 550, 9, 270, 1]])

    def test_200_minutes(self):
        self.assertEqual(on(SMALL, ("after", 0, 200), ("after", 0, 201), ("after", 0, TOP)),
                         [[450, 550, 197, 11550, 1], [-22], [-22]])

    def test_from_empty_whatever_is_in_it(self):
        self.assertEqual(on(SMALL, ("fill", 0, 9), ("pour", 0, 2), ("after", 0, 4))[2], [234, 766, 1, 6, 1])

    def test_whether_it_may_be_so_or_not(self):
        ship = ("ship", 10, 100, 8, 3, 20, 10)
        self.assertEqual(on(ship, ("after", 0, 1), ("after", 0, 2), ("after", 0, 4)),
                         [[60, 240, 0, 0, 1], [120, 480, 0, 0, 0], [234, 766, 1, 6, 0]])

    def test_as_heavy_as_it_may(self):
        self.assertEqual(last(("ship", 1000, 1, 367, 100, 50, 0), ("after", 0, 2)), [10000, 10000, 0, 0, 1])
        self.assertEqual(last(("ship", 1000, 1, 366, 100, 50, 0), ("after", 0, 2)), [10000, 10000, 0, 0, 0])
        self.assertEqual(last(("ship", 100, 1, 19, 5, 54, 0), ("after", 0, 2)), [540, 460, 0, 0, 1])

    def test_it_tells_what_fill_does(self):
        for n in range(1, 31):
            with self.subTest(n=n):
                given = on(SMALL, ("fill", 0, n), ("load", 0), ("after", 0, n))
                self.assertEqual(given[1][1:] + [1], given[2])


class TestFull(unittest.TestCase):
    def test_first_overflow(self):
        self.assertEqual(last(SMALL, ("full", 0)), [4])

    def test_just_full_is_not_yet_overflow(self):
        self.assertEqual(last(("ship", 9, 100, 20000, 3, 20, 10), ("full", 0)), [4])
        self.assertEqual(last(("ship", 8, 100, 20000, 3, 20, 10), ("full", 0)), [3])

    def test_in_the_first_minute(self):
        self.assertEqual(last(("ship", 1, 100, 20000, 2, 20, 10), ("full", 0)), [1])
        self.assertEqual(last(("ship", 1, 100, 20000, 1, 20, 10), ("full", 0)), [2])

    def test_not_within_200_minutes(self):
        self.assertEqual(last(("ship", 199, 100, 20000, 1, 20, 10), ("full", 0)), [200])
        self.assertEqual(last(("ship", 200, 100, 20000, 1, 20, 10), ("full", 0)), [-33])
        self.assertEqual(last(("ship", 10000, 100, 20000, 1, 20, 10), ("full", 0)), [-33])

    def test_whether_it_may_be_so_or_not(self):
        self.assertEqual(last(("ship", 10, 100, 1, 3, 20, 10), ("full", 0)), [4])

    def test_from_empty_whatever_is_in_it(self):
        self.assertEqual(last(SMALL, ("fill", 0, 9), ("full", 0)), [4])


class TestLongest(unittest.TestCase):
    def test_200_at_most(self):
        self.assertEqual(last(SMALL, ("longest", 0)), [200])

    def test_too_heavy_before_it_is_full(self):
        for most, n in ((4, 0), (5, 1), (8, 1), (9, 2), (12, 2), (13, 3)):
            with self.subTest(most=most):
                self.assertEqual(last(("ship", 10, 100, most, 3, 20, 10), ("longest", 0)), [n])

    def test_too_heavy_while_it_overflows(self):
        self.assertEqual(last(("ship", 10, 100, 14, 3, 20, 10), ("longest", 0)), [3])
        self.assertEqual(last(("ship", 10, 100, 15, 3, 20, 10), ("longest", 0)), [5])
        # Behind 9 minutes it weighs 16.94 tons, behind 10 minutes 17.24, in the end 17.53.
        self.assertEqual(last(("ship", 10, 100, 17, 3, 20, 10), ("longest", 0)), [9])
        self.assertEqual(last(("ship", 10, 100, 18, 3, 20, 10), ("longest", 0)), [200])

    def test_as_heavy_as_it_may(self):
        self.assertEqual(last(("ship", 1000, 1, 367, 100, 50, 0), ("longest", 0)), [2])
        self.assertEqual(last(("ship", 1000, 1, 366, 100, 50, 0), ("longest", 0)), [1])
        self.assertEqual(last(("ship", 100, 1, 19, 5, 54, 0), ("longest", 0)), [2])

    def test_199_and_200(self):
        # Each minute weighs 1.0363 tons: 199 of them 206.22, 200 of them 207.26.
        self.assertEqual(last(("ship", 300, 1, 207, 1, 1, 0), ("longest", 0)), [199])
        self.assertEqual(last(("ship", 300, 1, 208, 1, 1, 0), ("longest", 0)), [200])

    def test_from_empty_whatever_is_in_it(self):
        self.assertEqual(last(("ship", 10, 100, 15, 3, 20, 10), ("fill", 0, 4), ("longest", 0)), [5])


class TestBest(unittest.TestCase):
    def test_best(self):
        # The sand from empty on: 60, 120, 180, 234, 282, 324, 360, 390, 414, 432, 444, 450 and no more.
        self.assertEqual(last(SMALL, ("best", 0, 2)), [6, 324, 2430])
        self.assertEqual(last(SMALL, ("best", 0, 30)), [11, 444, 649])

    def test_a_minute_besides(self):
        self.assertEqual(last(SMALL, ("best", 0, 1)), [5, 282, 2820])

    def test_of_two_as_good_the_least(self):
        # 324 in 9 minutes is as much as 360 in 10.
        self.assertEqual(last(SMALL, ("best", 0, 3)), [6, 324, 2160])

    def test_far_away(self):
        self.assertEqual(last(SMALL, ("best", 0, 2000)), [12, 450, 13])

    def test_rest_from_1_to_2000(self):
        for rest in (0, 2001, TOP):
            with self.subTest(rest=rest):
                self.assertEqual(last(SMALL, ("best", 0, rest)), [-22])

    def test_never_too_heavy(self):
        self.assertEqual(last(("ship", 10, 100, 8, 3, 20, 10), ("best", 0, 2)), [1, 60, 1200])
        self.assertEqual(last(("ship", 10, 100, 15, 3, 20, 10), ("best", 0, 2000)), [5, 282, 8])

    def test_where_not_one_minute_is_allowed(self):
        self.assertEqual(last(("ship", 10, 100, 4, 3, 20, 10), ("best", 0, 1)), [0, 0, 0])

    def test_200_minutes(self):
        self.assertEqual(last(("ship", 10000, 1, 20000, 1, 1, 0), ("best", 0, 1)), [200, 200, 59])
        self.assertEqual(last(("ship", 300, 1, 207, 1, 1, 0), ("best", 0, 1)), [199, 199, 59])

    def test_compared_exactly(self):
        # Rounded down to an hour 199 in 2199 minutes is 5 as well, yet it is less.
        self.assertEqual(last(("ship", 10000, 1, 20000, 1, 1, 0), ("best", 0, 2000)), [200, 200, 5])

    def test_from_empty_whatever_is_in_it(self):
        self.assertEqual(last(SMALL, ("fill", 0, 9), ("pour", 0, 1), ("best", 0, 3)), [6, 324, 2160])


SHIPS = tuple(
    ("ship", room, 50, most, flow, solid, loss)
    for room in (1, 7, 60, 2500)
    for most in (3, 70, 3000, 20000)
    for flow, solid in ((1, 1), (3, 20), (11, 37), (200, 60))
    for loss in (0, 3, 10)
)


def from_empty(ship):
    """The answers of after for 0 to 200 minutes."""
    return on(ship, *[("after", 0, n) for n in range(201)])


class TestWhatHolds(unittest.TestCase):
    def test_minutes_from_empty(self):
        for ship in SHIPS:
            room, most, flow, solid = ship[1] * 100, ship[3] * 100, ship[4], ship[5]
            stayed = [flow * solid]
            before = [0, 0, 0, 0, 1]
            for n, now in enumerate(from_empty(ship)):
                sand, water, overflow, gone, allowed = now
                with self.subTest(ship=ship, n=n):
                    self.assertLessEqual(sand + water, room)
                    self.assertEqual(sand + gone, n * flow * solid)
                    self.assertGreaterEqual(sand, before[0])
                    self.assertEqual(allowed, int((265 * sand + 102 * water) // 100 <= most))
                    if overflow > before[2]:
                        self.assertEqual((overflow, sand + water), (before[2] + 1, room))
                        self.assertLessEqual(sand - before[0], stayed[-1])
                        stayed.append(sand - before[0])
                before = now

    def test_full_and_longest_are_as_after_tells(self):
        for ship in SHIPS:
            loads = from_empty(ship)
            full = next(([n] for n, load in enumerate(loads) if load[2]), [-33])
            longest = next((n - 1 for n, load in enumerate(loads) if not load[4]), 200)
            with self.subTest(ship=ship):
                self.assertEqual(on(ship, ("full", 0), ("longest", 0)), [full, [longest]])

    def test_no_other_minute_gives_more_and_farther_stops_no_sooner(self):
        for ship in SHIPS:
            loads = from_empty(ship)
            longest = last(ship, ("longest", 0))[0]
            sooner = 0
            for rest in (1, 2, 3, 10, 59, 60, 400, 2000):
                parts = [Fraction(load[0], n + rest) for n, load in enumerate(loads[:longest + 1])]
                n = parts.index(max(parts))
                with self.subTest(ship=ship, rest=rest):
                    self.assertEqual(last(ship, ("best", 0, rest)), [n, loads[n][0], loads[n][0] * 60 // (n + rest)])
                    self.assertGreaterEqual(n, sooner)
                sooner = n

    def test_filled_just_as_long_as_longest_tells(self):
        for ship in SHIPS:
            longest = last(ship, ("longest", 0))[0]
            with self.subTest(ship=ship):
                if longest < 200:
                    self.assertEqual(last(ship, ("fill", 0, longest + 1)), [-41])
                if longest > 0:
                    self.assertGreaterEqual(last(ship, ("fill", 0, longest))[0], 0)


if __name__ == "__main__":
    unittest.main()
