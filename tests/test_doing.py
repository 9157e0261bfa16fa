"""The calls that change something: begin, ship, fill, pour, dump, change (promise 1)."""

import unittest

from hopperfill.filling import Ship
from hopperfill.hopper import answer_dump, answer_fill
from lines import SMALL, TOP, answered, begun, last, on

NOTHING = [0, 0, 0, 0, 0]


class TestBegin(unittest.TestCase):
    def test_begin(self):
        self.assertEqual(answered(("begin",)), [[0]])

    def test_begin_again_leaves_nothing(self):
        given = answered(("begin",), SMALL, ("fill", 0, 2), SMALL, ("begin",), ("load", 0), SMALL, ("load", 0))
        self.assertEqual(given[4:], [[0], [-2], [0], NOTHING])


class TestShip(unittest.TestCase):
    def test_numbers_from_0_and_at_most_4(self):
        self.assertEqual(begun(*[SMALL] * 6), [[0], [1], [2], [3], [-28], [-28]])

    def test_a_new_ship_is_empty(self):
        self.assertEqual(on(SMALL, ("load", 0), ("dump", 0)), [NOTHING, [-6]])

    def test_edges(self):
        edges = ((1, 10000), (1, 20000), (1, 20000), (1, 200), (1, 60), (0, 10))
        for place, (least, most) in enumerate(edges):
            for value in (least - 1, least, most, most + 1, 0, TOP):
                if value < 0:
                    continue
                numbers = list(SMALL[1:])
                numbers[place] = value
                expected = [0] if least <= value <= most else [-22]
                with self.subTest(place=place, value=value):
                    self.assertEqual(begun(("ship", *numbers)), [expected])

    def test_least_and_greatest_ships(self):
        self.assertEqual(begun(("ship", 1, 1, 1, 1, 1, 0), ("ship", 10000, 20000, 20000, 200, 60, 10)), [[0], [1]])

    def test_out_of_range_comes_ahead_of_too_many(self):
        self.assertEqual(begun(*[SMALL] * 4, ("ship", 10, 100, 20000, 3, 20, 11), SMALL)[4:], [[-22], [-28]])

    def test_a_refused_ship_is_not_there(self):
        self.assertEqual(begun(("ship", 0, 1, 1, 1, 1, 1), ("load", 0), SMALL), [[-22], [-2], [0]])
        self.assertEqual(begun(*[SMALL] * 5, ("load", 3), ("load", 4))[5:], [NOTHING, [-2]])


class TestFill(unittest.TestCase):
    def test_without_overflow(self):
        self.assertEqual(on(SMALL, ("fill", 0, 3), ("load", 0)), [[1, 7, 0], [3, 180, 720, 0, 0]])

    def test_with_overflow(self):
        self.assertEqual(on(SMALL, ("fill", 0, 4), ("load", 0)), [[2, 7, 1], [4, 234, 766, 1, 6]])
        self.assertEqual(on(SMALL, ("fill", 0, 7), ("load", 0)), [[3, 6, 4], [7, 360, 640, 4, 60]])

    def test_overflow_is_told_since_it_was_empty(self):
        self.assertEqual(on(SMALL, ("fill", 0, 5), ("fill", 0, 1)), [[2, 7, 2], [3, 6, 3]])

    def test_two_goes_are_as_one(self):
        for first in range(1, 20):
            with self.subTest(first=first):
                two = on(SMALL, ("fill", 0, first), ("fill", 0, 20 - first), ("load", 0))[1:]
                self.assertEqual(two, on(SMALL, ("fill", 0, 20), ("load", 0)))

    def test_just_full_is_not_overflow(self):
        ship = ("ship", 9, 100, 20000, 3, 20, 10)
        self.assertEqual(on(ship, ("fill", 0, 3), ("load", 0)), [[1, 7, 0], [3, 180, 720, 0, 0]])
        self.assertEqual(on(ship, ("fill", 0, 4), ("load", 0)), [[2, 6, 1], [4, 234, 666, 1, 6]])

    def test_overflow_in_the_first_minute(self):
        ship = ("ship", 1, 100, 20000, 2, 30, 10)
        self.assertEqual(on(ship, ("fill", 0, 1), ("load", 0)), [[0, 0, 1], [1, 54, 46, 1, 6]])

    def test_what_stays_is_rounded_down(self):
        # 17 hundredths of sand come each minute: of them 16.49 and 15.98 would stay.
        ship = ("ship", 1, 100, 20000, 1, 17, 3)
        self.assertEqual(on(ship, ("fill", 0, 2), ("load", 0), ("fill", 0, 1), ("load", 0)),
                         [[0, 0, 1], [2, 33, 67, 1, 1], [0, 0, 2], [3, 48, 52, 2, 3]])

    def test_loss_of_more_than_100(self):
        # The tenth minute of overflow, the 13th of all, has a loss of 100, and later ones of more.
        for n in (12, 13, 14, 50, 200):
            with self.subTest(n=n):
                self.assertEqual(last(SMALL, ("fill", 0, n), ("load", 0)), [n, 450, 550, n - 3, n * 60 - 450])

    def test_loss_that_steps_over_100(self):
        # 14 minutes of overflow keep 93, 86, .. 2 hundredths of one cubic metre of sand; the 15th none.
        ship = ("ship", 10, 100, 20000, 5, 20, 7)
        self.assertEqual(on(ship, ("fill", 0, 16), ("load", 0), ("fill", 0, 1), ("load", 0)),
                         [[8, 1, 14], [16, 865, 135, 14, 735], [8, 1, 15], [17, 865, 135, 15, 835]])

    def test_sand_fills_all_room(self):
        ship = ("ship", 1, 100, 20000, 1, 60, 0)
        given = on(ship, *[("fill", 0, 1), ("load", 0)] * 3)
        self.assertEqual(given, [[0, 0, 0], [1, 60, 40, 0, 0], [1, 0, 1], [2, 100, 0, 1, 20],
                                 [1, 0, 2], [3, 100, 0, 2, 80]])

    def test_n_from_1_to_200(self):
        for n in (0, 201, TOP):
            with self.subTest(n=n):
                self.assertEqual(on(SMALL, ("fill", 0, n), ("load", 0)), [[-22], NOTHING])
        self.assertEqual(last(SMALL, ("fill", 0, 1)), [0, 2, 0])
        self.assertEqual(last(SMALL, ("fill", 0, 200)), [4, 5, 197])

    def test_at_most_200_minutes_since_it_was_empty(self):
        self.assertEqual(on(SMALL, ("fill", 0, 200), ("fill", 0, 1)), [[4, 5, 197], [-22]])
        self.assertEqual(on(SMALL, ("fill", 0, 199), ("fill", 0, 2), ("fill", 0, 1), ("fill", 0, 1)),
                         [[4, 5, 196], [-22], [4, 5, 197], [-22]])
        self.assertEqual(on(SMALL, ("fill", 0, 1), ("fill", 0, 200)), [[0, 2, 0], [-22]])

    def test_after_a_dump_there_are_200_minutes_again(self):
        self.assertEqual(on(SMALL, ("fill", 0, 200), ("dump", 0), ("fill", 0, 200)),
                         [[4, 5, 197], [4, 50], [4, 5, 197]])

    def test_too_heavy_before_it_is_full(self):
        # Each minute weighs 4.038 tons, so two weigh 8.07.
        heavy = ("ship", 10, 100, 8, 3, 20, 10)
        self.assertEqual(on(heavy, ("fill", 0, 2), ("load", 0), ("fill", 0, 1), ("fill", 0, 1), ("load", 0)),
                         [[-41], NOTHING, [0, 2, 0], [-41], [1, 60, 240, 0, 0]])
        self.assertEqual(last(("ship", 10, 100, 9, 3, 20, 10), ("fill", 0, 2)), [1, 4, 0])

    def test_too_heavy_at_once(self):
        self.assertEqual(on(("ship", 10000, 1, 1, 200, 60, 0), ("fill", 0, 1), ("dump", 0)), [[-41], [-6]])

    def test_as_heavy_as_it_may(self):
        # Two minutes weigh 367 tons to the hundredth.
        self.assertEqual(last(("ship", 1000, 1, 367, 100, 50, 0), ("fill", 0, 2)), [100, 100, 0])
        self.assertEqual(last(("ship", 1000, 1, 366, 100, 50, 0), ("fill", 0, 2)), [-41])

    def test_hundredths_of_tons_are_rounded_down(self):
        # Two minutes weigh 19.0020 tons, that is 19.00.
        self.assertEqual(last(("ship", 100, 1, 19, 5, 54, 0), ("fill", 0, 2)), [5, 4, 0])
        # One weighs 403.8 hundredths; 4 tons are 400.
        self.assertEqual(last(("ship", 10, 100, 4, 3, 20, 10), ("fill", 0, 1)), [-41])

    def test_too_heavy_while_it_overflows(self):
        # Behind 5 minutes there are 2.82 of sand and 7.18 of water: 14.79 tons; behind 6 it's 15.48.
        ship = ("ship", 10, 100, 15, 3, 20, 10)
        self.assertEqual(on(ship, ("fill", 0, 6), ("fill", 0, 5), ("fill", 0, 1), ("load", 0)),
                         [[-41], [2, 7, 2], [-41], [5, 282, 718, 2, 18]])

    def test_out_of_range_comes_ahead_of_too_heavy(self):
        heavy = ("ship", 10, 100, 4, 3, 20, 10)
        self.assertEqual(on(heavy, ("fill", 0, 201), ("fill", 0, 0), ("fill", 0, 200)), [[-22], [-22], [-41]])
        self.assertEqual(on(("ship", 10, 100, 8, 3, 20, 10), ("fill", 0, 1), ("fill", 0, 200), ("fill", 0, 199)),
                         [[0, 2, 0], [-22], [-41]])

    def test_ships_are_filled_each_for_itself(self):
        given = begun(SMALL, SMALL, ("fill", 1, 4), ("load", 0), ("load", 1))
        self.assertEqual(given[2:], [[2, 7, 1], NOTHING, [4, 234, 766, 1, 6]])


class TestPour(unittest.TestCase):
    def test_water_goes_out(self):
        self.assertEqual(on(SMALL, ("fill", 0, 4), ("pour", 0, 3), ("load", 0)),
                         [[2, 7, 1], [4], [4, 234, 466, 1, 6]])

    def test_all_the_water(self):
        ship = ("ship", 10, 100, 20000, 5, 20, 10)
        self.assertEqual(on(ship, ("fill", 0, 1), ("pour", 0, 5), ("pour", 0, 4), ("pour", 0, 1), ("load", 0)),
                         [[1, 4, 0], [-12], [0], [-12], [1, 100, 0, 0, 0]])

    def test_less_water_than_that(self):
        self.assertEqual(on(SMALL, ("fill", 0, 4), ("pour", 0, 8), ("load", 0), ("pour", 0, 7), ("pour", 0, 1)),
                         [[2, 7, 1], [-12], [4, 234, 766, 1, 6], [0], [-12]])

    def test_an_empty_hopper_has_no_water(self):
        self.assertEqual(on(SMALL, ("pour", 0, 1), ("pour", 0, 10000), ("load", 0)), [[-12], [-12], NOTHING])

    def test_out_of_range_comes_ahead_of_too_little(self):
        for n in (0, 10001, TOP):
            with self.subTest(n=n):
                self.assertEqual(on(SMALL, ("pour", 0, n), ("fill", 0, 4), ("pour", 0, n), ("load", 0)),
                                 [[-22], [2, 7, 1], [-22], [4, 234, 766, 1, 6]])

    def test_the_most_that_there_can_be(self):
        # Each of the 50 minutes brings 2 of sand: of 10,000 cubic metres all but 100 are water.
        ship = ("ship", 10000, 1, 20000, 200, 1, 0)
        given = on(ship, ("fill", 0, 50), ("pour", 0, 10000), ("pour", 0, 9901), ("pour", 0, 9900), ("load", 0))
        self.assertEqual(given, [[100, 9900, 0], [-12], [-12], [0], [50, 10000, 0, 0, 0]])

    def test_filled_on_without_overflow_first(self):
        # 3 poured out is just the room that one minute needs; the next is the second of overflow.
        given = on(SMALL, ("fill", 0, 4), ("pour", 0, 3), ("fill", 0, 1), ("load", 0), ("fill", 0, 1), ("load", 0))
        self.assertEqual(given[2:], [[2, 7, 1], [5, 294, 706, 1, 6], [3, 6, 2], [6, 342, 658, 2, 18]])

    def test_filled_on_with_too_little_poured(self):
        given = on(SMALL, ("fill", 0, 4), ("pour", 0, 2), ("fill", 0, 1), ("load", 0))
        self.assertEqual(given[1:], [[5], [2, 7, 2], [5, 282, 718, 2, 18]])

    def test_poured_water_makes_it_lighter(self):
        ship = ("ship", 10, 100, 9, 3, 20, 10)
        given = on(ship, ("fill", 0, 2), ("fill", 0, 1), ("pour", 0, 4), ("fill", 0, 1), ("fill", 0, 1), ("load", 0))
        self.assertEqual(given, [[1, 4, 0], [-41], [0], [1, 3, 0], [-41], [3, 180, 320, 0, 0]])

    def test_pouring_does_not_make_it_empty(self):
        ship = ("ship", 10, 100, 20000, 5, 20, 10)
        given = on(ship, ("fill", 0, 1), ("pour", 0, 4), ("change", 0, 1, 1), ("fill", 0, 200), ("dump", 0))
        self.assertEqual(given[2:], [[-16], [-22], [1, 0]])


class TestDump(unittest.TestCase):
    def test_dump(self):
        self.assertEqual(on(SMALL, ("fill", 0, 4), ("dump", 0), ("load", 0), ("weight", 0)),
                         [[2, 7, 1], [2, 34], NOTHING, [0, 100, 20000]])

    def test_less_than_a_cubic_metre(self):
        self.assertEqual(last(SMALL, ("fill", 0, 1), ("dump", 0)), [0, 60])

    def test_whole_cubic_metres(self):
        self.assertEqual(last(("ship", 10, 100, 20000, 5, 20, 10), ("fill", 0, 2), ("dump", 0)), [2, 0])

    def test_it_was_not_filled(self):
        self.assertEqual(on(SMALL, ("dump", 0), ("fill", 0, 1), ("dump", 0), ("dump", 0)),
                         [[-6], [0, 2, 0], [0, 60], [-6]])

    def test_a_refused_fill_does_not_fill(self):
        self.assertEqual(on(SMALL, ("fill", 0, 201), ("dump", 0)), [[-22], [-6]])

    def test_overflow_begins_anew(self):
        given = on(SMALL, ("fill", 0, 9), ("dump", 0), ("fill", 0, 4), ("load", 0))
        self.assertEqual(given[1:], [[4, 14], [2, 7, 1], [4, 234, 766, 1, 6]])

    def test_each_dump_is_a_trip(self):
        ship = Ship(10, 100, 20000, 3, 20, 10)
        self.assertEqual((ship.trips, ship.carried), (0, 0))
        self.assertEqual(answer_dump(ship, []), [-6])
        self.assertEqual((ship.trips, ship.carried), (0, 0))
        answer_fill(ship, [4])
        answer_dump(ship, [])
        self.assertEqual((ship.trips, ship.carried), (1, 234))
        answer_fill(ship, [1])
        answer_dump(ship, [])
        self.assertEqual((ship.trips, ship.carried), (2, 294))


class TestChange(unittest.TestCase):
    def test_change(self):
        self.assertEqual(on(SMALL, ("change", 0, 5, 40), ("fill", 0, 1), ("load", 0)),
                         [[3], [2, 3, 0], [1, 200, 300, 0, 0]])

    def test_it_tells_what_was_pumped_before(self):
        given = on(SMALL, ("change", 0, 200, 60), ("change", 0, 1, 1), ("change", 0, 1, 2), ("change", 0, 9, 9))
        self.assertEqual(given, [[3], [200], [1], [1]])

    def test_what_is_told_from_empty_changes_too(self):
        self.assertEqual(on(SMALL, ("change", 0, 5, 40), ("after", 0, 1), ("full", 0)), [[3], [200, 300, 0, 0, 1], [3]])

    def test_flow_and_solid_out_of_range(self):
        for flow, solid in ((0, 20), (201, 20), (TOP, 20), (3, 0), (3, 61), (3, TOP), (0, 0), (201, 61)):
            with self.subTest(flow=flow, solid=solid):
                self.assertEqual(on(SMALL, ("change", 0, flow, solid), ("after", 0, 1), ("change", 0, 3, 20)),
                                 [[-22], [60, 240, 0, 0, 1], [3]])

    def test_not_while_it_is_filled(self):
        given = on(SMALL, ("fill", 0, 1), ("change", 0, 5, 40), ("fill", 0, 1), ("load", 0), ("dump", 0),
                   ("change", 0, 5, 40))
        self.assertEqual(given[1:], [[-16], [1, 4, 0], [2, 120, 480, 0, 0], [1, 20], [3]])

    def test_out_of_range_comes_ahead_of_not_now(self):
        self.assertEqual(on(SMALL, ("fill", 0, 1), ("change", 0, 0, 20), ("change", 0, 3, 61), ("change", 0, 3, 20)),
                         [[0, 2, 0], [-22], [-22], [-16]])


class TestRefusedChangesNothing(unittest.TestCase):
    def test_refused_calls_leave_all_as_it_was(self):
        ship = ("ship", 10, 100, 15, 3, 20, 10)
        looks = (("load", 0), ("weight", 0), ("after", 0, 9), ("full", 0), ("longest", 0), ("best", 0, 3), ("load", 1))
        refused = (("ship", 0, 0, 0, 0, 0, 0), ("fill", 0, 0), ("fill", 0, 196), ("fill", 0, 1), ("fill", 7, 1),
                   ("pour", 0, 0), ("pour", 0, 8), ("pour", 2, 1), ("change", 0, 0, 0), ("change", 0, 5, 5),
                   ("change", 2, 5, 5), ("dump", 1), ("dump", 2), ("after", 0, 201), ("best", 0, 0), ("load", 2))
        given = on(ship, ship, ("fill", 0, 5), *looks, *refused, *looks)[2:]
        self.assertEqual(given[len(looks):-len(looks)],
                         [[-22], [-22], [-22], [-41], [-2], [-22], [-12], [-2], [-22], [-16], [-2], [-6], [-2], [-22],
                          [-22], [-2]])
        self.assertEqual(given[:len(looks)], given[-len(looks):])

    def test_looking_changes_nothing(self):
        looks = (("load", 0), ("weight", 0), ("after", 0, 200), ("full", 0), ("longest", 0), ("best", 0, 3))
        given = on(SMALL, ("fill", 0, 5), *looks, *looks, ("fill", 0, 1))[1:]
        self.assertEqual(given[:6], given[6:12])
        self.assertEqual(given[12], [3, 6, 3])


if __name__ == "__main__":
    unittest.main()
