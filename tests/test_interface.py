"""plainerlines.maps.answers: how calls are spelled, what is given back, and what it leaves alone."""

import builtins
import contextlib
import io
import sys
import unittest
from unittest import mock

from plainerlines.maps import answers
from tests.spelling import (
    GREATEST, area, ask, counts, drop, few, joined, order, raw_line, ring, shown, turns, way, worth,
)

# Thirty calls of all nine kinds, each with what it answers.
STORY = (
    (counts(0), []),
    (few(0), [0]),
    (way((0, 0), (10, 10), (20, 0)), [0]),
    (ring((100, 100), (110, 100), (110, 110), (100, 110)), [1]),
    (order(), [2, 1, 0, 100, 0, 1, 200]),
    (counts(101), [3, 3]),
    (few(6), [101]),
    (few(5), [201]),
    (few(4), [-7]),
    (area(0, 1), [0, 200]),
    (area(101, 1), [0, 100]),
    (area(0, 0), [-4]),
    (turns(0, 1, 102, 102), [0, 1]),
    (turns(101, 1, 102, 102), [0, 0]),
    (turns(101, 1, 105, 105), [-6]),
    (turns(0, 0, 10, 10), [-4]),
    (turns(0, 2, 10, 10), [-3]),
    (way((5, 5)), [-1]),
    (way((10, 0), (10, 20)), [-6]),
    (counts(0), [3, 4]),
    (worth(0, 1), [1, 200]),
    (drop(0), [1]),
    (area(4294967295, 0), [0, 100]),
    (shown(101, 0), [3, 1, 2, 3]),
    (worth(0, 0), [1, 100]),
    (ring((200, 100), (200, 110), (210, 110), (220, 100)), [1]),
    (area(0, 1), [0, -300]),
    (turns(0, 1, 205, 105), [0, -1]),
    (drop(5), [-3]),
    (counts(101), [3, 3]),
)
MIXED = joined([call for call, answer in STORY])
MIXED_TOLD = joined([[len(answer)] + answer for call, answer in STORY])


def depth():
    frame = sys._getframe()
    found = 0
    while frame is not None:
        found += 1
        frame = frame.f_back
    return found


class Watched(list):
    """A list that can be read but not changed."""

    def refuse(self, *anything):
        raise AssertionError("the list that was handed in is changed")

    append = extend = insert = pop = remove = reverse = sort = clear = refuse
    __setitem__ = __delitem__ = __iadd__ = __imul__ = refuse


class Spelling(unittest.TestCase):
    def test_each_call_as_the_document_spells_it(self):
        self.assertEqual(answers([0, 0, 4, 0, 0, 7, 7]), [1, 0])
        self.assertEqual(answers([0, 1, 6, 0, 0, 7, 0, 0, 7]), [1, 0])
        self.assertEqual(answers([0, 0, 0]), [1, -1])
        self.assertEqual(answers([1, 0]), [1, -3])
        self.assertEqual(answers([2]), [1, 0])
        self.assertEqual(answers([3, 0, 0]), [1, -3])
        self.assertEqual(answers([4, 0, 0]), [1, -3])
        self.assertEqual(answers([5, 0]), [0])
        self.assertEqual(answers([6, 0]), [1, 0])
        self.assertEqual(answers([7, 0, 0]), [1, -3])
        self.assertEqual(answers([8, 0, 0, 0, 0]), [1, -3])

    def test_the_first_number_of_area_and_round_is_0(self):
        clockwise = [0, 1, 6, 0, 0, 0, 7, 7, 0]
        self.assertEqual(answers(clockwise + [7, 0, 0]), [1, 0, 2, 0, -49])
        self.assertEqual(answers(clockwise + [8, 0, 0, 2, 3]), [1, 0, 2, 0, -1])

    def test_t_is_ahead_of_k(self):
        self.assertEqual(answers([0, 0, 4, 0, 0, 7, 7, 4, 1, 0]), [1, 0, 3, 2, 0, 1])
        self.assertEqual(answers([0, 0, 4, 0, 0, 7, 7, 4, 0, 1]), [1, 0, 1, -3])
        self.assertEqual(answers([0, 1, 6, 0, 0, 7, 0, 0, 7, 7, 1, 0]), [1, 0, 2, 0, 49])
        self.assertEqual(answers([0, 1, 6, 0, 0, 7, 0, 0, 7, 7, 0, 1]), [1, 0, 1, -3])
        self.assertEqual(answers([0, 1, 6, 0, 0, 7, 0, 0, 7, 8, 1, 0, 2, 3]), [1, 0, 2, 0, 1])
        self.assertEqual(answers([0, 1, 6, 0, 0, 7, 0, 0, 7, 8, 0, 1, 2, 3]), [1, 0, 1, -3])

    def test_x_is_ahead_of_y(self):
        self.assertEqual(answers([0, 1, 6, 0, 0, 20, 0, 0, 4, 8, 0, 0, 9, 2]), [1, 0, 2, 0, 1])
        self.assertEqual(answers([0, 1, 6, 0, 0, 20, 0, 0, 4, 8, 0, 0, 2, 9]), [1, 0, 2, 0, 0])

    def test_k_is_ahead_of_i(self):
        self.assertEqual(answers([0, 0, 4, 0, 0, 7, 7, 3, 0, 2]), [1, 0, 1, -4])
        self.assertEqual(answers([0, 0, 4, 0, 0, 7, 7, 3, 1, 0]), [1, 0, 1, -3])

    def test_a_refused_row_is_passed_over_whole(self):
        for numbers in ([], [3], [2, 2, 2], [1] * 26, [4294967295] * 40):
            self.assertEqual(answers([0, 0, len(numbers)] + numbers + [2]), [1, -1, 1, 0])

    def test_all_kinds_in_one_list(self):
        self.assertEqual({call[0] for call, answer in STORY}, set(range(9)))
        self.assertEqual(answers(MIXED), MIXED_TOLD)

    def test_each_beginning_of_such_a_list(self):
        for count in range(1, len(STORY) + 1):
            told = ask(*[call for call, answer in STORY[:count]])
            self.assertEqual(told, [answer for call, answer in STORY[:count]])

    def test_without_what_was_refused_the_rest_is_the_same(self):
        kept = [(call, answer) for call, answer in STORY if min([0] + answer[:1]) == 0]
        self.assertEqual(ask(*[call for call, answer in kept]), [answer for call, answer in kept])

    def test_thirty_calls(self):
        self.assertEqual(len(STORY), 30)
        self.assertEqual(answers([2] * 30), [1, 0] * 30)
        self.assertEqual(answers([5, 0] * 30), [0] * 30)

    def test_the_greatest_number_wherever_a_number_stands(self):
        most = GREATEST
        calls = [
            raw_line(most, [1, 1, 5, 5]), raw_line(0, [most] * 40), raw_line(1, [most] * 39), drop(most),
            worth(most, most), shown(most, most), few(most), area(most, most), turns(most, most, most, most),
        ]
        refused = [[-1], [-1], [-1], [-3], [-3], [-3], [0], [-3], [-3]]
        self.assertEqual(ask(*calls, counts(most)), refused + [[]])
        here = ring((0, 0), (9, 0), (0, 9))
        rest = [worth(0, most), shown(most, 0), counts(most), area(most, 0), turns(most, 0, most, most)]
        self.assertEqual(ask(here, *calls, *rest), [[0]] + refused + [[-4], [3, 0, 1, 2], [3], [0, 81], [0, 0]])

    def test_the_longest_list(self):
        calls = joined([raw_line(0, [7] * 40)] * 29 + [order()])
        self.assertEqual(answers(calls), [1, -1] * 29 + [1, 0])

    def test_nothing_goes_deep(self):
        before = sys.getrecursionlimit()
        sys.setrecursionlimit(depth() + 30)
        try:
            given = answers(MIXED)
        finally:
            sys.setrecursionlimit(before)
        self.assertEqual(given, MIXED_TOLD)


class LeftAlone(unittest.TestCase):
    def test_the_list_handed_in_is_the_same_behind_it(self):
        handed = list(MIXED)
        answers(handed)
        self.assertEqual(handed, MIXED)

    def test_the_list_handed_in_is_not_changed_for_a_while_either(self):
        self.assertEqual(answers(Watched(MIXED)), MIXED_TOLD)

    def test_a_new_list_is_given_back(self):
        handed = [2]
        given = answers(handed)
        self.assertIsNot(given, handed)
        given.append(9)
        self.assertEqual(answers(handed), [1, 0])

    def test_whole_numbers_in_a_list(self):
        given = answers(MIXED)
        self.assertIs(type(given), list)
        self.assertEqual({type(number) for number in given}, {int})

    def test_asked_twice(self):
        self.assertEqual(answers(MIXED), answers(MIXED))

    def test_nothing_is_kept(self):
        answers(joined([way((0, 0), (10, 10), (20, 0))]))
        self.assertEqual(answers([2, 1, 0, 4, 0, 0]), [1, 0, 1, -3, 1, -3])
        self.assertEqual(answers([5, 0, 6, 0, 7, 0, 0, 8, 0, 0, 0, 0]), [0, 1, 0, 1, -3, 1, -3])

    def test_another_list_in_between(self):
        other = joined([ring((0, 0), (9, 0), (9, 9), (0, 9)), few(3), area(82, 0), counts(82)])
        for turn in range(2):
            self.assertEqual(answers(MIXED), MIXED_TOLD)
            self.assertEqual(answers(other), [1, 0, 1, 82, 2, 0, 81, 1, 3])

    def test_nothing_is_printed_read_or_imported(self):
        out = io.StringIO()
        err = io.StringIO()
        no = AssertionError("nothing is read or imported")
        before = dict(sys.modules)
        with contextlib.redirect_stdout(out), contextlib.redirect_stderr(err):
            with mock.patch.object(builtins, "open", side_effect=no), \
                    mock.patch.object(builtins, "input", side_effect=no), \
                    mock.patch.object(builtins, "__import__", side_effect=no):
                given = answers(MIXED)
        self.assertEqual(given, MIXED_TOLD)
        self.assertEqual((out.getvalue(), err.getvalue()), ("", ""))
        self.assertEqual(dict(sys.modules), before)


if __name__ == "__main__":
    unittest.main()
