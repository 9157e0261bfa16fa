"""The calls of promise 4 but best: rate, trips, look, sums, state."""

import unittest

from lines import SMALL, TOP, begun, last, on

# Not one minute of it is allowed.
TOO_HEAVY = ("ship", 10, 100, 4, 3, 20, 10)


class TestRate(unittest.TestCase):
    def test_an_hour_and_what_remains(self):
        # The sand from empty on: 60, 120, 180, 234, 282, 324, 360, 390, 414, 432, 444, 450 and no more.
        for n, rest, rate in ((3, 2, [2160, 0]), (4, 3, [2005, 5]), (12, 2000, [13, 844]), (1, 1, [1800, 0])):
            with self.subTest(n=n, rest=rest):
                self.assertEqual(last(SMALL, ("rate", 0, n, rest)), rate)

    def test_no_minute(self):
        self.assertEqual(on(SMALL, ("rate", 0, 0, 1), ("rate", 0, 0, 2000)), [[0, 0], [0, 0]])

    def test_200_minutes(self):
        self.assertEqual(on(SMALL, ("rate", 0, 200, 1), ("rate", 0, 200, 2000)), [[134, 66], [12, 600]])

    def test_out_of_range(self):
        for n, rest in ((201, 1), (TOP, 1), (1, 0), (1, 2001), (1, TOP), (0, 0), (201, 0), (TOP, TOP)):
            with self.subTest(n=n, rest=rest):
                self.assertEqual(last(SMALL, ("rate", 0, n, rest)), [-22])

    def test_whether_it_may_be_so_or_not(self):
        self.assertEqual(last(TOO_HEAVY, ("rate", 0, 4, 3)), [2005, 5])

    def test_from_empty_whatever_is_in_it(self):
        self.assertEqual(last(SMALL, ("fill", 0, 9), ("pour", 0, 1), ("rate", 0, 4, 3)), [2005, 5])

    def test_at_the_best_minute_as_best_tells(self):
        for rest in (1, 2, 3, 30, 2000):
            minute, sand, rate = last(SMALL, ("best", 0, rest))
            with self.subTest(rest=rest):
                self.assertEqual(last(SMALL, ("rate", 0, minute, rest)), [rate, sand * 60 - rate * (minute + rest)])


class TestTrips(unittest.TestCase):
    def test_whole_trips(self):
        # Stopped behind 6 minutes with 324, where 3 are besides: a trip takes 9.
        for day, trips in ((0, 0), (8, 0), (9, 1), (10, 1), (17, 1), (18, 2), (100000, 11111)):
            with self.subTest(day=day):
                self.assertEqual(last(SMALL, ("trips", 0, 3, day)), [trips, 324 * trips, 6])

    def test_a_minute_besides(self):
        self.assertEqual(on(SMALL, ("trips", 0, 1, 5), ("trips", 0, 1, 6), ("trips", 0, 1, 100000)),
                         [[0, 0, 5], [1, 282, 5], [16666, 4699812, 5]])

    def test_far_away(self):
        self.assertEqual(on(SMALL, ("trips", 0, 2000, 2011), ("trips", 0, 2000, 100000)),
                         [[0, 0, 12], [49, 22050, 12]])

    def test_out_of_range(self):
        for rest, day in ((0, 1), (2001, 1), (TOP, 1), (1, 100001), (1, TOP), (0, 0), (0, 100001), (2001, TOP)):
            with self.subTest(rest=rest, day=day):
                self.assertEqual(last(SMALL, ("trips", 0, rest, day)), [-22])

    def test_never_too_heavy(self):
        self.assertEqual(last(("ship", 10, 100, 8, 3, 20, 10), ("trips", 0, 2, 10)), [3, 180, 1])

    def test_where_not_one_minute_is_allowed(self):
        self.assertEqual(on(TOO_HEAVY, ("trips", 0, 3, 100), ("trips", 0, 1, 100000)), [[33, 0, 0], [100000, 0, 0]])

    def test_200_minutes(self):
        ship = ("ship", 10000, 1, 20000, 1, 1, 0)
        self.assertEqual(on(ship, ("trips", 0, 1, 200), ("trips", 0, 1, 402)), [[0, 0, 200], [2, 400, 200]])

    def test_the_most_sand_that_there_can_be(self):
        ship = ("ship", 10000, 1, 20000, 200, 60, 0)
        minute, sand, rate = last(ship, ("best", 0, 1))
        trips = 100000 // (minute + 1)
        self.assertEqual(last(ship, ("trips", 0, 1, 100000)), [trips, trips * sand, minute])

    def test_from_empty_whatever_is_in_it(self):
        given = on(SMALL, ("fill", 0, 9), ("dump", 0), ("fill", 0, 2), ("trips", 0, 3, 18))
        self.assertEqual(given[3], [2, 648, 6])


class TestLook(unittest.TestCase):
    def test_as_told(self):
        self.assertEqual(last(("ship", 11, 12, 13, 14, 15, 6), ("look", 0)), [11, 12, 13, 14, 15, 6])
        for ship in (("ship", 1, 1, 1, 1, 1, 0), ("ship", 10000, 20000, 20000, 200, 60, 10)):
            with self.subTest(ship=ship):
                self.assertEqual(last(ship, ("look", 0)), list(ship[1:]))

    def test_as_changed(self):
        given = on(SMALL, ("change", 0, 7, 9), ("look", 0), ("change", 0, 0, 9), ("look", 0))
        self.assertEqual(given, [[3], [10, 100, 20000, 7, 9, 10], [-22], [10, 100, 20000, 7, 9, 10]])

    def test_of_the_ship_that_is_named(self):
        given = begun(SMALL, ("ship", 11, 12, 13, 14, 15, 6), ("change", 0, 1, 2), ("look", 1), ("look", 0))
        self.assertEqual(given[3:], [[11, 12, 13, 14, 15, 6], [10, 100, 20000, 1, 2, 10]])

    def test_what_is_in_it_does_not_show(self):
        self.assertEqual(on(SMALL, ("fill", 0, 9), ("look", 0), ("dump", 0), ("look", 0))[1::2], [list(SMALL[1:])] * 2)


class TestSums(unittest.TestCase):
    def test_nothing(self):
        self.assertEqual(begun(("sums",)), [[0, 0, 0, 0]])
        self.assertEqual(last(SMALL, ("sums",)), [0, 0, 0, 0])

    def test_trips_carried_and_in_the_hoppers(self):
        given = begun(SMALL, SMALL, ("fill", 0, 4), ("sums",), ("fill", 1, 2), ("sums",), ("dump", 0), ("sums",),
                      ("fill", 0, 1), ("sums",), ("dump", 0), ("sums",), ("dump", 1), ("sums",))
        self.assertEqual(given[3::2], [[0, 0, 0, 234], [0, 0, 0, 354], [0, 1, 234, 120], [0, 1, 234, 180],
                                       [0, 2, 294, 120], [0, 3, 414, 0]])

    def test_four_ships(self):
        fills = [("fill", s, s + 1) for s in range(4)]
        self.assertEqual(begun(*[SMALL] * 4, *fills, ("sums",))[8], [0, 0, 0, 60 + 120 + 180 + 234])

    def test_only_what_was_done_counts(self):
        given = on(SMALL, ("dump", 0), ("fill", 0, 201), ("after", 0, 9), ("trips", 0, 3, 1000), ("dump", 1), ("sums",))
        self.assertEqual(given[5], [0, 0, 0, 0])

    def test_water_and_sand_gone_over_do_not_count(self):
        given = on(SMALL, ("fill", 0, 200), ("pour", 0, 5), ("sums",), ("dump", 0), ("sums",))
        self.assertEqual(given[2::2], [[0, 0, 0, 450], [0, 1, 450, 0]])

    def test_begin_again_leaves_nothing(self):
        given = on(SMALL, ("fill", 0, 4), ("dump", 0), ("fill", 0, 4), ("begin",), ("sums",), SMALL, ("sums",))
        self.assertEqual(given[4::2], [[0, 0, 0, 0], [0, 0, 0, 0]])


class TestState(unittest.TestCase):
    def test_no_ships(self):
        self.assertEqual(begun(("state",)), [[0]])

    def test_two_numbers_for_each_ship(self):
        for ships in range(1, 5):
            with self.subTest(ships=ships):
                self.assertEqual(begun(*[SMALL] * ships, ("state",))[ships], [ships] + [0, 0] * ships)

    def test_trips_and_what_they_carried(self):
        given = begun(SMALL, SMALL, SMALL, ("fill", 2, 4), ("state",), ("dump", 2), ("state",), ("fill", 0, 1),
                      ("dump", 0), ("fill", 2, 1), ("dump", 2), ("state",))
        self.assertEqual([given[4], given[6], given[11]],
                         [[3, 0, 0, 0, 0, 0, 0], [3, 0, 0, 0, 0, 1, 234], [3, 1, 60, 0, 0, 2, 294]])

    def test_a_refused_ship_does_not_count(self):
        self.assertEqual(begun(*[SMALL] * 5, ("ship", 0, 0, 0, 0, 0, 0), ("state",))[6], [4] + [0] * 8)

    def test_a_refused_dump_is_no_trip(self):
        self.assertEqual(on(SMALL, ("dump", 0), ("dump", 1), ("state",))[2], [1, 0, 0])

    def test_begin_again_leaves_nothing(self):
        given = on(SMALL, ("fill", 0, 4), ("dump", 0), ("begin",), ("state",), SMALL, ("state",))
        self.assertEqual(given[3::2], [[0], [1, 0, 0]])


if __name__ == "__main__":
    unittest.main()
