"""The interface: how a call stands in the list, and how an answer stands in what is given back."""

import contextlib
import io
import unittest

from promisesheld.promises import answers
from tests.helper import (
    SIXTEEN, TOP, TWELVE, again, back, clashes, duty, line, may, needs, probe, start, state, told, waive,
)


class Untouched(list):
    """A list that can only be read."""

    def refuse(self, *args, **kwargs):
        raise AssertionError("what was handed in was to be changed")

    append = clear = extend = insert = pop = remove = reverse = sort = refuse
    __setitem__ = __delitem__ = __iadd__ = __imul__ = refuse


class Form(unittest.TestCase):

    def test_each_call_number_and_each_count(self):
        calls = [
            0, 2, 3,
            1, 0, 2, 1, 1, 7, 30,
            3, 0,
            4, 0, 1,
            6, 1,
            7, 0,
            8,
            9,
            10,
            11, 0,
            12, 0,
            13, 0,
            14, 0,
            15, 0,
            1, 1, 0, 0, 0, 3, 40,
            16, 1, 0,
            17,
            18,
            19, 1,
            5, 0, 1,
            2, 0,
            20,
            21,
            22,
        ]
        self.assertEqual(answers(calls), [
            1, 0,
            1, 0,
            7, 1, 0, 2, 1, 1, 7, 30,
            1, 1,
            1, 0,
            2, 7, 1,
            2, 0, 2,
            2, 2, 3,
            2, 2, 3,
            2, 1, 2,
            1, 1,
            2, 0, 0,
            1, 1,
            1, 0,
            1, 1,
            1, 0,
            3, 0, 0, 0,
            2, 0, 0,
            1, 0,
            1, 0,
            1, 1,
            1, 4,
            1, 0,
            6, 1, 2, 3, 0, 5, 0,
        ])

    def test_how_many_numbers_each_tells(self):
        given = line([start(4, 3), duty(0, 1, 0, 1), duty(1, 2, 0, 0), duty(1, 2, 1, 0)])
        takes = {0: [2, 2], 1: [0, 1, 0, 1, 1, 0], 2: [0], 3: [0], 4: [0, 1], 5: [0, 1], 6: [0], 7: [0], 11: [0],
                 12: [0], 13: [0], 14: [0], 15: [0], 16: [0, 1], 19: [0]}
        tells = {3: 7, 7: 2, 8: 2, 9: 2, 10: 2, 11: 2, 13: 2, 17: 3, 18: 2, 22: 6}
        for number in range(23):
            # a link to be freed, and a change to be done again
            ahead = given + ([4, 0, 1] if number == 5 else [20] if number == 21 else [])
            call = [number] + takes.get(number, [])
            before = answers(ahead)
            found = answers(ahead + call + [10])
            self.assertEqual(found[:len(before)], before)
            self.assertEqual(found[len(before)], tells.get(number, 1), number)
            self.assertGreaterEqual(found[len(before) + 1], 0, number)
            # the call behind it is read as it stands, so each takes as many as it should
            self.assertEqual(len(found), len(before) + 1 + tells.get(number, 1) + 3, number)

    def test_a_refusal_is_its_number_alone(self):
        calls = [0, 9, 2, 0, 2, 2, 1, 2, 0, 0, 1, 1, 1, 2, 0, 3, 0, 4, 0, 0, 5, 0, 1, 6, 4, 7, 4, 4, 0, 1, 7, 1, 11, 9]
        self.assertEqual(answers(calls), [
            1, -22, 1, 0, 1, -2, 1, -2, 1, -2, 1, -22, 1, -6, 1, -22, 1, -22, 1, 1, 1, -33, 1, -33,
        ])
        calls = [0, 2, 2, 12, 2, 13, 2, 14, 0, 15, 0, 16, 0, 0, 18, 19, 0, 20, 21,
                 1, 0, 1, 0, 1, 1, 0, 16, 0, 0, 1, 0, 1, 0, 1, 1, 1, 14, 0, 15, 0, 19, 0]
        self.assertEqual(answers(calls), [
            1, 0, 1, -2, 1, -2, 1, -2, 1, -2, 1, -2, 1, -33, 1, -2, 1, -2, 1, -2,
            1, 0, 1, -22, 1, 1, 1, -6, 1, -6, 1, -6,
        ])

    def test_largest_numbers(self):
        self.assertEqual(
            answers([0, 8, 6, 1] + [TOP] * 6 + [2, TOP, 3, TOP, 4, TOP, TOP, 5, TOP, TOP, 6, TOP, 7, TOP, 11, TOP]),
            [1, 0, 1, -2, 1, -2, 1, -2, 1, -2, 1, -2, 1, -22, 1, -22, 1, -33],
        )
        self.assertEqual(
            answers([0, 8, 6, 1, 0, 1, 0, 1, 1, 0, 12, TOP, 13, TOP, 14, TOP, 15, TOP, 16, TOP, TOP, 16, 0, TOP,
                     16, TOP, 0, 19, TOP]),
            [1, 0, 1, 0] + [1, -2] * 8,
        )

    def test_a_single_call(self):
        self.assertEqual(answers([0, 1, 2]), [1, 0])
        self.assertEqual(answers([0, TOP, TOP]), [1, -22])

    def test_a_list_of_whole_numbers(self):
        found = answers(line([start(8, 6)] + SIXTEEN + TWELVE + probe()))
        self.assertIs(type(found), list)
        self.assertEqual({type(number) for number in found}, {int})

    def test_a_thousand_calls(self):
        calls = line([start(8, 6)] + [duty(0, 1, 0, 1)] * 999)
        self.assertEqual(answers(calls), [1, 0] + [n for k in range(16) for n in (1, k)] + [1, -28] * 983)

    def test_a_thousand_that_ask_most(self):
        given = [start(8, 6)] + [duty(0, 1, k % 8, k // 8, k + 1) for k in range(16)]
        found = answers(line(given + [waive(), clashes()] * 491 + [state()]))
        self.assertEqual(found[34:], [2, 7, 8, 3, 8, 0, 8] * 491 + [6, 16, 8, 6, 0, 16, 0])


class NothingKept(unittest.TestCase):

    def test_handed_in_list_is_as_it_was(self):
        calls = line([start(8, 6)] + SIXTEEN + TWELVE + [back(), back(), again()] + probe())
        before = list(calls)
        wanted = answers(calls)
        self.assertEqual(calls, before)
        self.assertEqual(answers(Untouched(calls)), wanted)

    def test_asked_twice(self):
        calls = line([start(3, 2), duty(0, 1, 0, 1), needs(0, 1), told(0), may(1)])
        other = line([start(8, 6)] + SIXTEEN + TWELVE)
        first = answers(calls)
        answers(other)
        self.assertEqual(answers(calls), first)

    def test_the_object_is_new_each_time(self):
        answers(line([start(8, 6)] + SIXTEEN + TWELVE + [back()]))
        self.assertEqual(answers(line([start(2, 2), told(0), may(1), back(), again(), needs(0, 1), state()])),
                         [1, 0, 1, -2, 1, 1, 1, -2, 1, -2, 1, 1, 6, 0, 2, 2, 1, 1, 0])
        # no start: what is there before one isn't asked for, but a refused one must not bring the old object back
        self.assertEqual(answers(line([start(0, 2), start(1, 2), told(0)])), [1, -22, 1, 0, 1, -2])

    def test_what_was_given_back_stays(self):
        calls = line([start(3, 2), duty(0, 1, 0, 1), told(0)])
        first = answers(calls)
        kept = list(first)
        first.clear()
        self.assertEqual(answers(calls), kept)

    def test_prints_nothing(self):
        out = io.StringIO()
        with contextlib.redirect_stdout(out), contextlib.redirect_stderr(out):
            answers(line([start(8, 6)] + SIXTEEN + TWELVE + probe()))
        self.assertEqual(out.getvalue(), "")
