"""draft (promise 2): which tables are as told, which weights are in one, and how deep the ship lies."""

import unittest
from fractions import Fraction

from lines import SMALL, TOP, begun, last, on

# SMALL weighs 100 tons empty, and behind 1 to 4 minutes 104, 108, 112 and 114.
FROM_100_TO_114 = [100, 5, 108, 9, 114, 11]


def lying(table, minutes=0):
    """What draft answers of SMALL behind so many minutes."""
    fills = [("fill", 0, minutes)] if minutes else []
    return last(SMALL, *fills, ("draft", 0, table))


def steps(pairs, first=100):
    """A right table of so many pairs, from a first weight on."""
    return [number for step in range(pairs) for number in (first + step, 7 + step)]


class TestDepth(unittest.TestCase):
    def test_a_weight_of_the_table(self):
        self.assertEqual(lying(FROM_100_TO_114), [5])
        self.assertEqual(lying(FROM_100_TO_114, 2), [9])
        self.assertEqual(lying(FROM_100_TO_114, 4), [11])

    def test_each_weight_of_a_long_table(self):
        table = [number for step in range(10) for number in (100 + 3 * step, 1000 + step * step)]
        for step in range(10):
            ship = ("ship", 10, 100 + 3 * step, 20000, 3, 20, 10)
            with self.subTest(step=step):
                self.assertEqual(last(ship, ("draft", 0, table)), [1000 + step * step])

    def test_between_two_weights_evenly(self):
        self.assertEqual(lying(FROM_100_TO_114, 1), [7])
        self.assertEqual(lying([90, 0, 110, 1000]), [500])

    def test_rounded_down(self):
        # Of 3 the ship lies 4, 8 and 9 tenths deeper: 6.2, 7.4 and 7.7.
        for empty, depth in ((104, 6), (108, 7), (109, 7), (110, 8)):
            ship = ("ship", 10, empty, 20000, 3, 20, 10)
            with self.subTest(empty=empty):
                self.assertEqual(last(ship, ("draft", 0, [100, 5, 110, 8])), [depth])

    def test_rounded_once_and_only_down(self):
        self.assertEqual(lying([0, 0, 60000, 59999]), [99])
        self.assertEqual(lying([0, 0, 60000, 60000]), [100])
        self.assertEqual(lying([99, 0, 60000, 59900]), [0])
        self.assertEqual(lying([99, 1, 101, 60000]), [30000])

    def test_whole_tons_are_looked_for(self):
        # Behind a minute it weighs 104.038 tons, in whole ones 104.
        self.assertEqual(lying([0, 0, 104, 52], 1), [52])
        self.assertEqual(lying([104, 3, 105, 60000], 1), [3])

    def test_depths_that_are_alike(self):
        self.assertEqual(lying([99, 5, 101, 5]), [5])
        self.assertEqual(lying([0, 0, 1, 0]), [-33])

    def test_water_poured_out_is_not_weighed(self):
        table = [0, 0, 200, 200]
        given = on(SMALL, ("fill", 0, 4), ("draft", 0, table), ("pour", 0, 7), ("draft", 0, table), ("dump", 0),
                   ("draft", 0, table))
        self.assertEqual(given[1::2], [[114], [106], [100]])

    def test_of_the_ship_that_is_named(self):
        other = ("ship", 10, 150, 20000, 3, 20, 10)
        given = begun(SMALL, other, ("draft", 0, [0, 0, 200, 200]), ("draft", 1, [0, 0, 200, 200]))
        self.assertEqual(given[2:], [[100], [150]])

    def test_as_deep_as_by_fractions(self):
        table = [90, 3, 101, 4, 105, 4, 106, 50, 113, 61]
        for empty in range(90, 114):
            at = next(place for place in range(2, 10, 2) if empty <= table[place])
            low, depth, high, deeper = table[at - 2:at + 2]
            exact = depth + Fraction((empty - low) * (deeper - depth), high - low)
            ship = ("ship", 10, empty, 20000, 3, 20, 10)
            with self.subTest(empty=empty):
                self.assertEqual(last(ship, ("draft", 0, table)), [int(exact)])

    def test_heavier_it_lies_no_higher(self):
        for table in (FROM_100_TO_114, [90, 3, 101, 4, 105, 4, 106, 50, 117, 61], [0, 7, 60000, 7]):
            before = 0
            for empty in range(100, 115):
                ship = ("ship", 10, empty, 20000, 3, 20, 10)
                depth = last(ship, ("draft", 0, table))[0]
                with self.subTest(table=table, empty=empty):
                    self.assertGreaterEqual(depth, before)
                before = depth

    def test_filled_longer_it_lies_no_higher(self):
        calls = [("draft", 0, [0, 0, 200, 60000])] + [("fill", 0, 1), ("draft", 0, [0, 0, 200, 60000])] * 20
        depths = [given[0] for given in on(SMALL, *calls)[::2]]
        self.assertEqual(depths, sorted(depths))
        self.assertEqual((depths[0], depths[4], depths[20]), (30000, 34200, 35100))


class TestNotKnown(unittest.TestCase):
    def test_lighter_than_the_first(self):
        self.assertEqual(lying([101, 5, 110, 8]), [-33])
        self.assertEqual(lying([100, 5, 110, 8]), [5])

    def test_heavier_than_the_last(self):
        self.assertEqual(lying([90, 5, 99, 8]), [-33])
        self.assertEqual(lying([90, 5, 100, 8]), [8])
        self.assertEqual(lying(FROM_100_TO_114[:4], 3), [-33])

    def test_the_greatest_ship(self):
        ship = ("ship", 10000, 20000, 20000, 200, 1, 0)
        given = on(ship, ("fill", 0, 50), ("weight", 0), ("draft", 0, [0, 0, 60000, 60000]),
                   ("draft", 0, [0, 0, 30362, 1]), ("draft", 0, [0, 0, 30363, 1]))
        self.assertEqual(given[1:], [[10363, 30363, 20000], [30363], [-33], [1]])


class TestNotAsTold(unittest.TestCase):
    def test_how_many_numbers(self):
        for size in (4, 6, 8, 18, 20):
            with self.subTest(size=size):
                self.assertEqual(lying(steps(size // 2)), [7])
        for size in (0, 1, 2, 3, 5, 7, 19, 21, 22, 23, 24, 999, 1000):
            with self.subTest(size=size):
                self.assertEqual(lying(steps(500)[:size]), [-22])

    def test_60000_at_most(self):
        for right in ([100, 5, 60000, 8], [100, 5, 110, 60000], [100, 60000, 110, 60000], [100, 5, 60000, 60000]):
            with self.subTest(table=right):
                self.assertGreaterEqual(lying(right)[0], 5)
        for above in (60001, 65535):
            for wrong in ([100, 5, above, 8], [100, 5, 110, above], [100, above, 110, above],
                          [100, 5, 110, 8, 120, above], [100, 5, 110, 8, above, 9], [above, 5, above, 8]):
                with self.subTest(table=wrong):
                    self.assertEqual(lying(wrong), [-22])

    def test_weights_rise(self):
        for wrong in ([100, 5, 100, 5], [100, 5, 100, 8], [100, 5, 99, 8], [90, 5, 100, 6, 100, 7],
                      [90, 5, 110, 6, 109, 7], [90, 1, 91, 1, 91, 1, 110, 1], steps(9) + [108, 16],
                      steps(9) + [100, 90]):
            with self.subTest(table=wrong):
                self.assertEqual(lying(wrong), [-22])

    def test_depths_never_fall(self):
        for wrong in ([100, 5, 110, 4], [100, 5, 110, 0], [90, 5, 100, 9, 110, 8], [90, 5, 91, 4, 110, 8],
                      steps(9) + [109, 14]):
            with self.subTest(table=wrong):
                self.assertEqual(lying(wrong), [-22])
        for right in ([100, 5, 110, 5], [100, 0, 110, 0], steps(9) + [109, 15]):
            with self.subTest(table=right):
                self.assertEqual(lying(right), [right[1]])

    def test_comes_ahead_of_not_known(self):
        for wrong in ([], [1, 1], [1, 1, 2], [200, 5, 190, 8], [200, 5, 210, 4], [200, 5, 60001, 8], steps(11, 300)):
            with self.subTest(table=wrong):
                self.assertEqual(lying(wrong), [-22])

    def test_no_such_ship_comes_first(self):
        for s in (1, TOP):
            for table in ([], [1, 1, 2, 2], [100, 5, 110, 8], [65535] * 1000):
                with self.subTest(s=s, size=len(table)):
                    self.assertEqual(last(SMALL, ("draft", s, table)), [-2])

    def test_the_calls_behind_a_wrong_table_are_read(self):
        for table in ([], [17], [17, 0, 1], [65535] * 1000):
            with self.subTest(size=len(table)):
                self.assertEqual(on(SMALL, ("draft", 0, table), ("full", 0)), [[-22], [4]])


if __name__ == "__main__":
    unittest.main()
