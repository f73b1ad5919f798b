"""Point 2: ck_needs and ck_free."""

import unittest

from tests.helper import TOP, TWELVE, ask, free, last, may, needs, start


class Links(unittest.TestCase):

    def test_one_more_and_one_less(self):
        found = ask([start(3, 2), needs(0, 1), needs(1, 2), free(0, 1), free(1, 2), needs(2, 0)])
        self.assertEqual(found[1:], [[1], [2], [1], [0], [1]])

    def test_direction(self):
        # act 0 needs act 1: 0 alone may not be, 1 alone may
        self.assertEqual(ask([start(2, 2), needs(0, 1)] + [may(s) for s in range(4)])[2:], [[1], [0], [1], [1]])

    def test_both_directions(self):
        found = ask([start(2, 2), needs(0, 1), needs(1, 0)] + [may(s) for s in range(4)])
        self.assertEqual(found[1:], [[1], [2], [1], [0], [0], [1]])

    def test_free_takes_away_that_one_alone(self):
        found = ask([start(3, 2), needs(0, 1), needs(1, 0), needs(0, 2), free(0, 1)] + [may(s) for s in range(8)])
        self.assertEqual(found[4], [2])
        self.assertEqual(found[5:], [[1], [0], [0], [0], [1], [1], [0], [1]])

    def test_none_there(self):
        for n in (1, 4, 8):
            for wrong in (n, TOP):
                for call in (needs, free):
                    self.assertEqual(last([start(n, 2), call(wrong, 0)]), [-2])
                    self.assertEqual(last([start(n, 2), call(0, wrong)]), [-2])
                    self.assertEqual(last([start(n, 2), call(wrong, wrong)]), [-2])

    def test_last_act_is_there(self):
        self.assertEqual(ask([start(8, 2), needs(7, 0), needs(0, 7), free(7, 0), free(0, 7)])[1:],
                         [[1], [2], [1], [0]])

    def test_of_itself(self):
        self.assertEqual(ask([start(1, 2), needs(0, 0), free(0, 0)])[1:], [[-22], [-6]])

    def test_there_already(self):
        self.assertEqual(ask([start(2, 2), needs(0, 1), needs(0, 1), needs(1, 0)])[1:], [[1], [-17], [2]])

    def test_no_such_link(self):
        self.assertEqual(ask([start(2, 2), free(0, 1), needs(0, 1), free(1, 0), free(0, 1), free(0, 1)])[1:],
                         [[-6], [1], [-6], [0], [-6]])

    def test_twelfth_and_thirteenth(self):
        found = ask([start(8, 2)] + TWELVE + [needs(4, 5), free(0, 1), needs(4, 5), needs(0, 1)])
        self.assertEqual(found[1:], [[k] for k in range(1, 13)] + [[-28], [11], [12], [-28]])

    def test_which_is_told_first(self):
        full = [start(8, 2)] + TWELVE
        self.assertEqual(last(full + [needs(8, 8)]), [-2])
        self.assertEqual(last(full + [needs(8, 0)]), [-2])
        self.assertEqual(last(full + [needs(0, 8)]), [-2])
        self.assertEqual(last(full + [needs(5, 5)]), [-22])
        self.assertEqual(last(full + [needs(0, 1)]), [-17])
        self.assertEqual(last(full + [needs(1, 5)]), [-28])
        self.assertEqual(last(full + [free(8, 8)]), [-2])
        self.assertEqual(last(full + [free(1, 5)]), [-6])
