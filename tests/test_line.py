"""How a line of calls is read and answered, -11, -2, and what is kept between lines: nothing."""

import unittest

from hopperfill.hopper import answers
from lines import NAMES, SMALL, TOP, answered, begun, on, split, written

# Each call with numbers that would be in range, were there a ship 0.
EVERY = (
    ("ship", 10, 100, 20000, 3, 20, 10), ("fill", 0, 1), ("dump", 0), ("pour", 0, 1), ("change", 0, 1, 1),
    ("load", 0), ("weight", 0), ("after", 0, 1), ("full", 0), ("longest", 0), ("best", 0, 1),
    ("rate", 0, 1, 1), ("trips", 0, 1, 1), ("keeps", 0, 1), ("lost", 0, 1), ("wet", 0),
    ("draft", 0, [1, 1, 2, 2]), ("fullest",), ("reaches", 0, 1), ("look", 0), ("sums",), ("state",),
)
OF_SHIPS = tuple(call for call in EVERY if call[0] not in ("ship", "fullest", "sums", "state"))


class TestLine(unittest.TestCase):
    def test_numbers_as_the_interface_tells(self):
        calls = [0, 1, 10, 100, 20000, 3, 20, 10, 2, 0, 4, 6, 0, 3, 0, 3, 0]
        self.assertEqual(answers(calls), [1, 0, 1, 0, 3, 2, 7, 1, 5, 4, 234, 766, 1, 6, 2, 2, 34, 1, -6])

    def test_every_call_is_named(self):
        self.assertEqual([call[0] for call in EVERY], list(NAMES[1:]))

    def test_before_begin_all_others_are_refused(self):
        self.assertEqual(answered(*EVERY), [[-11]] * len(EVERY))
        for call in EVERY:
            with self.subTest(call=call):
                self.assertEqual(answered(call, ("begin",)), [[-11], [0]])

    def test_not_begun_comes_ahead_of_all_other_refusals(self):
        wrong = (("ship", 0, 0, 0, 0, 0, 11), ("fill", TOP, 0), ("pour", 9, 0), ("change", 9, 0, 0),
                 ("after", 9, 201), ("best", 9, 0), ("rate", 9, 201, 0), ("trips", 9, 0, TOP), ("keeps", 9, 201),
                 ("lost", 9, 0), ("wet", 9), ("draft", 9, []), ("draft", 9, [0] * 1000), ("fullest",),
                 ("reaches", 9, 10001), ("look", TOP))
        self.assertEqual(answered(*wrong), [[-11]] * len(wrong))

    def test_a_ship_refused_before_begin_is_not_there(self):
        self.assertEqual(answered(SMALL, ("begin",), ("load", 0)), [[-11], [0], [-2]])

    def test_no_such_ship(self):
        self.assertEqual(begun(*OF_SHIPS), [[-2]] * len(OF_SHIPS))

    def test_no_such_ship_just_beyond_and_far_beyond(self):
        for call in OF_SHIPS:
            for s in (1, 2, 4, TOP):
                with self.subTest(call=call, s=s):
                    self.assertEqual(on(SMALL, (call[0], s) + call[2:]), [[-2]])

    def test_no_such_ship_comes_ahead_of_out_of_range(self):
        wrong = (("fill", 1, 0), ("fill", 1, 201), ("pour", 1, 0), ("pour", 1, TOP), ("change", 1, 0, 0),
                 ("after", 1, 201), ("best", 1, 0), ("best", 1, 2001), ("rate", 1, 201, 1), ("rate", 1, 1, 0),
                 ("trips", 1, 0, 1), ("trips", 1, 1, 100001), ("keeps", 1, 201), ("lost", 1, 0), ("lost", 1, 201),
                 ("draft", 1, []), ("draft", 1, [65535] * 1000), ("reaches", 1, 10001), ("reaches", 1, TOP))
        self.assertEqual(on(SMALL, *wrong), [[-2]] * len(wrong))

    def test_a_row_is_read_whole(self):
        for table in ([], [17], [1, 1, 2, 2], [0] * 1000):
            with self.subTest(size=len(table)):
                self.assertEqual(begun(("draft", 0, table), SMALL, ("load", 0)), [[-2], [0], [0, 0, 0, 0, 0]])

    def test_calls_behind_one_another(self):
        given = begun(SMALL, ("fill", 0, 3), ("load", 0), ("ship", 9, 1, 20000, 3, 20, 0), ("fill", 1, 4),
                      ("dump", 0), ("load", 0), ("load", 1))
        self.assertEqual(given, [[0], [1, 7, 0], [3, 180, 720, 0, 0], [1], [2, 6, 1], [1, 80],
                                 [0, 0, 0, 0, 0], [4, 240, 660, 1, 0]])

    def test_longest_line(self):
        self.assertEqual(begun(SMALL, *[("best", 0, 3)] * 254), [[0]] + [[6, 324, 2160]] * 254)

    def test_longest_line_of_all_calls(self):
        # EVERY stands 11 times in it: it fills and dumps 0.60, and behind its change 0.01 each time.
        given = begun(*EVERY * 11, *[("look", 0)] * 13)
        self.assertEqual(len(given), 255)
        self.assertEqual([answer[0] for answer in given[0:242:22]], [0, 1, 2, 3] + [-28] * 7)
        self.assertEqual(given[20:242:22][3], [0, 4, 63, 0])
        self.assertEqual(given[21:242:22][10], [4, 11, 70, 0, 0, 0, 0, 0, 0])
        self.assertEqual(given[242:], [[10, 100, 20000, 1, 1, 10]] * 13)

    def test_a_line_of_30000_numbers(self):
        calls = written([("begin",), SMALL] + [("draft", 0, [65535] * 1000)] * 29 + [("draft", 0, [7] * 900)])
        calls = calls + [22] * (30000 - len(calls))
        self.assertEqual(len(calls), 30000)
        self.assertEqual(split(answers(calls))[2:], [[-22]] * 30 + [[1, 0, 0]] * 2)

    def test_what_is_handed_in_is_not_changed(self):
        calls = written((("begin",), SMALL, ("fill", 0, 7), ("pour", 0, 2), ("best", 0, 3), ("change", 0, 1, 1),
                         ("dump", 0), ("change", 0, 7, 8), ("fill", 0, 201), ("draft", 7, [1, 2, 3]),
                         ("draft", 0, [90, 5, 110, 9]), ("draft", 0, [110, 9, 90, 5])) + EVERY + (("begin",),))
        before = list(calls)
        answers(calls)
        self.assertEqual(calls, before)

    def test_what_is_handed_in_is_not_changed_for_a_while_either(self):
        class Watched(list):
            def refuse(self, *values):
                raise AssertionError("the list that was handed in is changed")

            __setitem__ = __delitem__ = __iadd__ = __imul__ = refuse
            append = clear = extend = insert = pop = remove = reverse = sort = refuse

        calls = written((("begin",), SMALL, ("draft", 0, [90, 5, 110, 9])) + EVERY)
        self.assertEqual(answers(Watched(calls)), answers(calls))

    def test_nothing_is_kept_from_one_line_to_the_next(self):
        calls = written((("begin",), SMALL, ("fill", 0, 7), ("load", 0)))
        first = answers(calls)
        self.assertEqual(answers(calls), first)
        self.assertEqual(answers([6, 0, 21, 22]), [1, -11, 1, -11, 1, -11])

    def test_an_answer_is_a_new_list_of_whole_numbers(self):
        calls = written((("begin",), SMALL, ("fill", 0, 7), ("load", 0), ("weight", 0), ("after", 0, 4),
                         ("after", 0, 0), ("full", 0), ("longest", 0), ("best", 0, 3), ("dump", 0)) + EVERY)
        given = answers(calls)
        self.assertIs(type(given), list)
        self.assertEqual({type(number) for number in given}, {int})
        self.assertIsNot(given, answers(calls))


if __name__ == "__main__":
    unittest.main()
