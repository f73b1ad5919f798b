"""The interface: how a call stands in the list, and how an answer stands in what is given back."""

import contextlib
import io
import unittest

from promisesheld.promises import answers
from tests.helper import SIXTEEN, TOP, TWELVE, duty, line, may, needs, probe, start, told


class Untouched(list):
    """A list that can only be read."""

    def refuse(self, *args, **kwargs):
        raise AssertionError("what was handed in was to be changed")

    append = clear = extend = insert = pop = remove = reverse = sort = refuse
    __setitem__ = __delitem__ = __iadd__ = __imul__ = refuse


class Form(unittest.TestCase):

    def test_each_call_number_and_each_count(self):
        calls = [
            0, 2, 3,
            1, 0, 2, 1, 1, 7, 30,
            3, 0,
            4, 0, 1,
            6, 1,
            7, 0,
            8,
            9,
            10,
            11, 0,
            5, 0, 1,
            2, 0,
        ]
        self.assertEqual(answers(calls), [
            1, 0,
            1, 0,
            7, 1, 0, 2, 1, 1, 7, 30,
            1, 1,
            1, 0,
            2, 7, 1,
            2, 0, 2,
            2, 2, 3,
            2, 2, 3,
            2, 1, 2,
            1, 0,
            1, 0,
        ])

    def test_a_refusal_is_its_number_alone(self):
        calls = [0, 9, 2, 0, 2, 2, 1, 2, 0, 0, 1, 1, 1, 2, 0, 3, 0, 4, 0, 0, 5, 0, 1, 6, 4, 7, 4, 4, 0, 1, 7, 1, 11, 9]
        self.assertEqual(answers(calls), [
            1, -22, 1, 0, 1, -2, 1, -2, 1, -2, 1, -22, 1, -6, 1, -22, 1, -22, 1, 1, 1, -33, 1, -33,
        ])

    def test_largest_numbers(self):
        self.assertEqual(
            answers([0, 8, 6, 1] + [TOP] * 6 + [2, TOP, 3, TOP, 4, TOP, TOP, 5, TOP, TOP, 6, TOP, 7, TOP, 11, TOP]),
            [1, 0, 1, -2, 1, -2, 1, -2, 1, -2, 1, -2, 1, -22, 1, -22, 1, -33],
        )

    def test_a_single_call(self):
        self.assertEqual(answers([0, 1, 2]), [1, 0])
        self.assertEqual(answers([0, TOP, TOP]), [1, -22])

    def test_a_list_of_whole_numbers(self):
        found = answers(line([start(8, 6)] + SIXTEEN + TWELVE + probe()))
        self.assertIs(type(found), list)
        self.assertEqual({type(number) for number in found}, {int})

    def test_a_thousand_calls(self):
        calls = line([start(8, 6)] + [duty(0, 1, 0, 1)] * 999)
        self.assertEqual(answers(calls), [1, 0] + [n for k in range(16) for n in (1, k)] + [1, -28] * 983)


class NothingKept(unittest.TestCase):

    def test_handed_in_list_is_as_it_was(self):
        calls = line([start(8, 6)] + SIXTEEN + TWELVE + probe())
        before = list(calls)
        wanted = answers(calls)
        self.assertEqual(calls, before)
        self.assertEqual(answers(Untouched(calls)), wanted)

    def test_asked_twice(self):
        calls = line([start(3, 2), duty(0, 1, 0, 1), needs(0, 1), told(0), may(1)])
        other = line([start(8, 6)] + SIXTEEN + TWELVE)
        first = answers(calls)
        answers(other)
        self.assertEqual(answers(calls), first)

    def test_the_object_is_new_each_time(self):
        answers(line([start(8, 6)] + SIXTEEN + TWELVE))
        self.assertEqual(answers(line([start(2, 2), told(0), may(1), needs(0, 1)])), [1, 0, 1, -2, 1, 1, 1, 1])

    def test_what_was_given_back_stays(self):
        calls = line([start(3, 2), duty(0, 1, 0, 1), told(0)])
        first = answers(calls)
        kept = list(first)
        first.clear()
        self.assertEqual(answers(calls), kept)

    def test_prints_nothing(self):
        out = io.StringIO()
        with contextlib.redirect_stdout(out), contextlib.redirect_stderr(out):
            answers(line([start(8, 6)] + SIXTEEN + TWELVE + probe()))
        self.assertEqual(out.getvalue(), "")
