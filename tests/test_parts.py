"""The calls that tell of parts: wet, fullest (promise 2), reaches, keeps, lost (promise 3)."""

import unittest

from lines import SMALL, TOP, begun, last, on


class TestWet(unittest.TestCase):
    def test_it_was_not_filled(self):
        self.assertEqual(on(SMALL, ("wet", 0), ("fill", 0, 201), ("wet", 0)), [[-6], [-22], [-6]])
        self.assertEqual(on(SMALL, ("fill", 0, 1), ("dump", 0), ("wet", 0))[2], [-6])

    def test_thousandths(self):
        for n, wet in ((1, 800), (3, 800), (4, 766), (5, 718), (12, 550), (200, 550)):
            with self.subTest(n=n):
                self.assertEqual(last(SMALL, ("fill", 0, n), ("wet", 0)), [wet])

    def test_rounded_down(self):
        # 4.66 of 7.00, and then 0.66 of 3.00.
        given = on(SMALL, ("fill", 0, 4), ("pour", 0, 3), ("wet", 0), ("pour", 0, 4), ("wet", 0))
        self.assertEqual(given[2::2], [[665], [220]])

    def test_no_water(self):
        ship = ("ship", 10, 100, 20000, 5, 20, 10)
        self.assertEqual(last(ship, ("fill", 0, 1), ("pour", 0, 4), ("wet", 0)), [0])
        self.assertEqual(last(("ship", 1, 100, 20000, 1, 60, 0), ("fill", 0, 2), ("wet", 0)), [0])

    def test_poured_out_and_filled_on(self):
        given = on(SMALL, ("fill", 0, 4), ("pour", 0, 3), ("fill", 0, 1), ("wet", 0), ("fill", 0, 1), ("wet", 0))
        self.assertEqual(given[3::2], [[706], [658]])

    def test_the_least_sand_that_there_can_be(self):
        self.assertEqual(last(("ship", 10000, 1, 20000, 1, 1, 10), ("fill", 0, 1), ("wet", 0)), [990])
        # Of the 0.02 that come 0.01 stays; all else is water.
        ship = ("ship", 1, 1, 20000, 2, 1, 10)
        self.assertEqual(on(ship, ("fill", 0, 1), ("load", 0), ("wet", 0))[1:], [[1, 1, 99, 1, 1], [990]])


class TestFullest(unittest.TestCase):
    def test_no_ships(self):
        self.assertEqual(begun(("fullest",), ("ship", 0, 0, 0, 0, 0, 0), ("fullest",)), [[-6], [-22], [-6]])

    def test_all_empty(self):
        self.assertEqual(last(SMALL, ("fullest",)), [0, 0, 10])
        self.assertEqual(begun(SMALL, SMALL, SMALL, ("fullest",))[3], [0, 0, 10])

    def test_its_number_its_sand_its_room(self):
        given = begun(SMALL, SMALL, SMALL, SMALL, ("fill", 0, 4), ("fill", 1, 3), ("fill", 2, 5), ("fullest",),
                      ("fill", 3, 200), ("fullest",), ("dump", 3), ("fullest",))
        self.assertEqual(given[7::2], [[2, 282, 10], [3, 450, 10], [2, 282, 10]])

    def test_the_part_counts_and_not_the_sand(self):
        wide = ("ship", 1000, 100, 20000, 200, 60, 10)
        given = begun(wide, SMALL, ("fill", 0, 1), ("fill", 1, 3), ("fullest",), ("load", 0))
        self.assertEqual(given[4:], [[1, 180, 10], [1, 12000, 8000, 0, 0]])

    def test_water_does_not_count(self):
        given = begun(("ship", 10, 100, 20000, 10, 20, 10), ("ship", 10, 100, 20000, 5, 60, 10), ("fill", 0, 1),
                      ("fill", 1, 1), ("fullest",))
        self.assertEqual(given[4], [1, 300, 10])

    def test_of_alike_ones_the_first(self):
        twice = ("ship", 20, 100, 20000, 6, 20, 10)
        self.assertEqual(begun(SMALL, twice, ("fill", 0, 3), ("fill", 1, 3), ("fullest",))[4], [0, 180, 10])
        self.assertEqual(begun(twice, SMALL, ("fill", 0, 3), ("fill", 1, 3), ("fullest",))[4], [0, 360, 20])
        self.assertEqual(begun(SMALL, twice, twice, ("fill", 1, 3), ("fill", 2, 3), ("fullest",))[5], [1, 360, 20])

    def test_compared_exactly(self):
        # 0.01 of 9999 cubic metres is a greater part than 0.01 of 10,000.
        less = ("ship", 10000, 1, 20000, 1, 1, 0)
        more = ("ship", 9999, 1, 20000, 1, 1, 0)
        self.assertEqual(begun(less, more, ("fill", 0, 1), ("fill", 1, 1), ("fullest",))[4], [1, 1, 9999])
        self.assertEqual(begun(more, less, ("fill", 0, 1), ("fill", 1, 1), ("fullest",))[4], [0, 1, 9999])

    def test_a_minute_behind_a_dump(self):
        given = begun(SMALL, SMALL, ("fill", 1, 1), ("dump", 1), ("fullest",))
        self.assertEqual(given[4], [0, 0, 10])


class TestReaches(unittest.TestCase):
    def test_first_minute(self):
        # The sand from empty on: 60, 120, 180, 234, 282, 324, 360, 390, 414, 432, 444, 450 and no more.
        for n, minute in ((0, 0), (1, 2), (2, 4), (3, 6), (4, 9)):
            with self.subTest(n=n):
                self.assertEqual(last(SMALL, ("reaches", 0, n)), [minute])

    def test_just_so_much(self):
        ship = ("ship", 10, 100, 20000, 5, 20, 0)
        self.assertEqual(on(ship, *[("reaches", 0, n) for n in (1, 2, 3, 10, 11)]), [[1], [2], [3], [10], [-33]])

    def test_never(self):
        self.assertEqual(on(SMALL, ("reaches", 0, 5), ("reaches", 0, 10000)), [[-33], [-33]])

    def test_out_of_range_comes_ahead_of_never(self):
        self.assertEqual(on(SMALL, ("reaches", 0, 10001), ("reaches", 0, TOP)), [[-22], [-22]])

    def test_only_while_it_may_be_so(self):
        ship = ("ship", 10, 100, 15, 3, 20, 10)
        self.assertEqual(on(ship, ("longest", 0), ("reaches", 0, 2), ("reaches", 0, 3)), [[5], [4], [-33]])
        none = ("ship", 10, 100, 4, 3, 20, 10)
        self.assertEqual(on(none, ("longest", 0), ("reaches", 0, 0), ("reaches", 0, 1)), [[0], [0], [-33]])

    def test_behind_the_last_allowed_minute(self):
        # Two minutes weigh 367 tons to the hundredth.
        self.assertEqual(last(("ship", 1000, 1, 367, 100, 50, 0), ("reaches", 0, 100)), [2])
        self.assertEqual(last(("ship", 1000, 1, 366, 100, 50, 0), ("reaches", 0, 100)), [-33])

    def test_200_minutes(self):
        ship = ("ship", 10000, 1, 20000, 1, 50, 0)
        self.assertEqual(on(ship, ("reaches", 0, 99), ("reaches", 0, 100), ("reaches", 0, 101)), [[198], [200], [-33]])

    def test_sand_fills_all_room(self):
        ship = ("ship", 7000, 1, 20000, 200, 60, 0)
        self.assertEqual(on(ship, ("reaches", 0, 6960), ("reaches", 0, 7000), ("reaches", 0, 7001)),
                         [[58], [59], [-33]])

    def test_from_empty_whatever_is_in_it(self):
        self.assertEqual(last(SMALL, ("fill", 0, 9), ("pour", 0, 1), ("reaches", 0, 3)), [6])


class TestKeeps(unittest.TestCase):
    def test_keeps(self):
        for k, kept in ((0, 100), (1, 90), (2, 80), (9, 10), (10, 0)):
            with self.subTest(k=k):
                self.assertEqual(last(SMALL, ("keeps", 0, k)), [kept])

    def test_a_loss_of_more_than_100(self):
        self.assertEqual(on(SMALL, ("keeps", 0, 11), ("keeps", 0, 199), ("keeps", 0, 200)), [[0], [0], [0]])
        ship = ("ship", 10, 100, 20000, 5, 20, 7)
        self.assertEqual(on(ship, ("keeps", 0, 14), ("keeps", 0, 15), ("keeps", 0, 16)), [[2], [0], [0]])

    def test_no_loss(self):
        ship = ("ship", 10, 100, 20000, 5, 20, 0)
        self.assertEqual(on(ship, ("keeps", 0, 0), ("keeps", 0, 1), ("keeps", 0, 200)), [[100], [100], [100]])

    def test_k_above_200(self):
        self.assertEqual(on(SMALL, ("keeps", 0, 201), ("keeps", 0, TOP)), [[-22], [-22]])

    def test_it_is_what_fill_keeps(self):
        # 100 hundredths come each minute, so of each overflow as many hundredths stay as keeps tells.
        ship = ("ship", 10, 100, 20000, 5, 20, 9)
        sand = [given[0] for given in on(ship, *[("after", 0, n) for n in range(2, 23)])]
        kept = [given[0] for given in on(ship, *[("keeps", 0, k) for k in range(1, 21)])]
        self.assertEqual([more - less for less, more in zip(sand, sand[1:])], kept)


class TestLost(unittest.TestCase):
    def test_nothing_before_it_is_full(self):
        self.assertEqual(on(SMALL, ("lost", 0, 1), ("lost", 0, 3)), [[0, 0], [0, 0]])

    def test_thousandths_rounded_down(self):
        # 6 of 240, 18 of 300, 36 of 360, 60 of 420, and 11550 of 12000.
        for n, lost in ((4, [25, 6]), (5, [60, 18]), (6, [100, 36]), (7, [142, 60]), (200, [962, 11550])):
            with self.subTest(n=n):
                self.assertEqual(last(SMALL, ("lost", 0, n)), lost)

    def test_just_full(self):
        ship = ("ship", 9, 100, 20000, 3, 20, 10)
        self.assertEqual(on(ship, ("lost", 0, 3), ("lost", 0, 4)), [[0, 0], [25, 6]])

    def test_n_from_1_to_200(self):
        for n in (0, 201, TOP):
            with self.subTest(n=n):
                self.assertEqual(last(SMALL, ("lost", 0, n)), [-22])

    def test_sand_fills_all_room(self):
        # 20 of 120, and then 80 of 180.
        ship = ("ship", 1, 100, 20000, 1, 60, 0)
        self.assertEqual(on(ship, ("lost", 0, 1), ("lost", 0, 2), ("lost", 0, 3)), [[0, 0], [166, 20], [444, 80]])

    def test_most_that_can_be_lost(self):
        ship = ("ship", 1, 1, 20000, 200, 60, 10)
        self.assertEqual(on(ship, ("lost", 0, 1), ("lost", 0, 200)), [[991, 11900], [999, 2399900]])

    def test_whether_it_may_be_so_or_not(self):
        self.assertEqual(last(("ship", 10, 100, 1, 3, 20, 10), ("lost", 0, 7)), [142, 60])

    def test_from_empty_whatever_is_in_it(self):
        self.assertEqual(last(SMALL, ("fill", 0, 9), ("pour", 0, 1), ("lost", 0, 4)), [25, 6])


if __name__ == "__main__":
    unittest.main()
