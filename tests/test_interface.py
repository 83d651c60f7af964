"""plainerlines.maps.answers: how calls are spelled, what is given back, and what it leaves alone."""

import builtins
import contextlib
import io
import sys
import unittest
from unittest import mock

from plainerlines.maps import answers
from tests.spelling import drop, joined, order, ring, shown, way, worth

MIXED = joined([
    order(), way((0, 0), (10, 10), (20, 0)), ring((100, 100), (110, 100), (110, 110), (100, 110)), order(),
    worth(0, 1), worth(0, 0), worth(1, 9), shown(150, 0), shown(150, 1), shown(201, 0), way((5, 5)),
    way((10, 0), (10, 20)), drop(0), order(), shown(101, 0), worth(1, 0), drop(0), drop(0),
])
MIXED_TOLD = [
    1, 0, 1, 0, 1, 1, 7, 2, 1, 0, 100, 0, 1, 200,
    2, 1, 200, 1, 0, 1, -4, 4, 3, 0, 1, 2, 4, 3, 1, 2, 3, 3, 2, 0, 2, 1, -1,
    1, -6, 1, 1, 4, 1, 0, 0, 100, 4, 3, 1, 2, 3, 1, -3, 1, 0, 1, -3,
]


class Watched(list):
    """A list that can be read but not changed."""

    def refuse(self, *anything):
        raise AssertionError("the list that was handed in is changed")

    append = extend = insert = pop = remove = reverse = sort = clear = refuse
    __setitem__ = __delitem__ = __iadd__ = __imul__ = refuse


class Spelling(unittest.TestCase):
    def test_each_call_as_the_document_spells_it(self):
        self.assertEqual(answers([0, 0, 4, 0, 0, 7, 7]), [1, 0])
        self.assertEqual(answers([0, 1, 6, 0, 0, 7, 0, 0, 7]), [1, 0])
        self.assertEqual(answers([0, 0, 0]), [1, -1])
        self.assertEqual(answers([1, 0]), [1, -3])
        self.assertEqual(answers([2]), [1, 0])
        self.assertEqual(answers([3, 0, 0]), [1, -3])
        self.assertEqual(answers([4, 0, 0]), [1, -3])

    def test_t_is_ahead_of_k(self):
        self.assertEqual(answers([0, 0, 4, 0, 0, 7, 7, 4, 1, 0]), [1, 0, 3, 2, 0, 1])
        self.assertEqual(answers([0, 0, 4, 0, 0, 7, 7, 4, 0, 1]), [1, 0, 1, -3])

    def test_k_is_ahead_of_i(self):
        self.assertEqual(answers([0, 0, 4, 0, 0, 7, 7, 3, 0, 2]), [1, 0, 1, -4])
        self.assertEqual(answers([0, 0, 4, 0, 0, 7, 7, 3, 1, 0]), [1, 0, 1, -3])

    def test_a_refused_row_is_passed_over_whole(self):
        for numbers in ([], [3], [2, 2, 2], [1] * 26, [4294967295] * 40):
            self.assertEqual(answers([0, 0, len(numbers)] + numbers + [2]), [1, -1, 1, 0])

    def test_all_kinds_in_one_list(self):
        self.assertEqual(answers(MIXED), MIXED_TOLD)

    def test_thirty_calls(self):
        self.assertEqual(answers([2] * 30), [1, 0] * 30)


class LeftAlone(unittest.TestCase):
    def test_the_list_handed_in_is_the_same_behind_it(self):
        handed = list(MIXED)
        answers(handed)
        self.assertEqual(handed, MIXED)

    def test_the_list_handed_in_is_not_changed_for_a_while_either(self):
        self.assertEqual(answers(Watched(MIXED)), MIXED_TOLD)

    def test_a_new_list_is_given_back(self):
        handed = [2]
        given = answers(handed)
        self.assertIsNot(given, handed)
        given.append(9)
        self.assertEqual(answers(handed), [1, 0])

    def test_whole_numbers_in_a_list(self):
        given = answers(MIXED)
        self.assertIs(type(given), list)
        self.assertEqual({type(number) for number in given}, {int})

    def test_asked_twice(self):
        self.assertEqual(answers(MIXED), answers(MIXED))

    def test_nothing_is_kept(self):
        answers(joined([way((0, 0), (10, 10), (20, 0))]))
        self.assertEqual(answers([2, 1, 0, 4, 0, 0]), [1, 0, 1, -3, 1, -3])

    def test_nothing_is_printed_read_or_imported(self):
        out = io.StringIO()
        err = io.StringIO()
        no = AssertionError("nothing is read or imported")
        before = dict(sys.modules)
        with contextlib.redirect_stdout(out), contextlib.redirect_stderr(err):
            with mock.patch.object(builtins, "open", side_effect=no), \
                    mock.patch.object(builtins, "input", side_effect=no), \
                    mock.patch.object(builtins, "__import__", side_effect=no):
                given = answers(MIXED)
        self.assertEqual(given, MIXED_TOLD)
        self.assertEqual((out.getvalue(), err.getvalue()), ("", ""))
        self.assertEqual(dict(sys.modules), before)


if __name__ == "__main__":
    unittest.main()
