"""Point 4: ck_can, ck_cost, ck_relief and ck_waive."""

import unittest

from tests.helper import (
    SIXTEEN, TOP, ask, best, can, cost, drop, duty, last, needs, relief, start, told, waive, ways,
)


def three(given, k):
    """What ck_can, ck_cost and ck_relief answer of duty k, one number each."""
    found = ask(given + [can(k), cost(k), relief(k)])[len(given):]
    return [answer[0] for answer in found if len(answer) == 1]


class Refusals(unittest.TestCase):

    def test_none_there(self):
        self.assertEqual(three([start(8, 6)], 0), [-2, -2, -2])
        for wrong in (16, 17, 2 ** 31, TOP):
            self.assertEqual(three([start(8, 6)] + SIXTEEN, wrong), [-2, -2, -2])
        for k in range(16):
            self.assertGreaterEqual(min(three([start(8, 6)] + SIXTEEN, k)), 0)
        for count in range(1, 16):
            given = [start(8, 6)] + SIXTEEN[:count]
            self.assertGreaterEqual(min(three(given, count - 1)), 0)
            self.assertEqual(three(given, count), [-2, -2, -2])

    def test_does_not_stand(self):
        given = [start(2, 2), duty(0, 1, 0, 1, 5, 3), duty(0, 1, 0, 0, 5, 4), duty(0, 1, 0, 0, 5, 4)]
        self.assertEqual(three(given, 0), [-6, -6, -6])
        self.assertEqual(three(given, 1), [1, 0, 0])
        self.assertEqual(three(given, 2), [1, 0, 0])
        self.assertEqual(three(given, 3), [-2, -2, -2])

    def test_overtaken_by_one_of_the_same_side(self):
        given = [start(1, 2), duty(0, 1, 0, 1, 5, 3), duty(0, 1, 0, 1, 5, 4)]
        self.assertEqual(three(given, 0), [-6, -6, -6])

    def test_stands_again(self):
        given = [start(1, 2), duty(0, 1, 0, 1, 5, 3), duty(0, 1, 0, 0, 5, 4), drop(1)]
        self.assertEqual(three(given, 0), [1, 0, 0])
        self.assertEqual(three(given, 1), [-2, -2, -2])


class CanAndCost(unittest.TestCase):

    def test_nothing_against_it(self):
        given = [start(2, 2), duty(0, 1, 0, 1, 50), duty(0, 1, 1, 0, 50)]
        self.assertEqual(three(given, 0), [1, 0, 0])
        self.assertEqual(three(given, 1), [1, 0, 0])

    def test_kept_by_all_best_while_another_is_broken(self):
        given = [start(1, 3), duty(0, 1, 0, 1, 9), duty(1, 2, 0, 0, 4)]
        # waived, it would let the other one be kept
        self.assertEqual(three(given, 0), [1, 0, 4])
        # to keep the other one breaks 9 in the place of 4; waived it relieves by all it weighs
        self.assertEqual(three(given, 1), [0, 5, 4])

    def test_kept_by_some_best(self):
        # both sides weigh alike: either can be kept, and without the one nothing is broken with the other
        given = [start(1, 3), duty(0, 1, 0, 1, 5), duty(1, 2, 0, 0, 5)]
        self.assertEqual(three(given, 0), [1, 0, 5])
        self.assertEqual(three(given, 1), [1, 0, 5])

    def test_kept_by_no_best_through_a_link(self):
        given = [start(2, 3), duty(0, 1, 0, 1, 4), duty(1, 2, 1, 0, 6), needs(0, 1)]
        self.assertEqual(three(given, 0), [0, 2, 4])
        self.assertEqual(three(given, 1), [1, 0, 4])

    def test_without_the_link_nothing_is_broken(self):
        given = [start(2, 3), duty(0, 1, 0, 1, 4), duty(1, 2, 1, 0, 6)]
        self.assertEqual(three(given, 0), [1, 0, 0])
        self.assertEqual(three(given, 1), [1, 0, 0])

    def test_what_it_costs_is_told_at_the_least(self):
        # with act 0 come acts 1 and 2; of act 3 nothing hangs on it, and its own breach is in both
        given = [start(4, 3), needs(0, 1), needs(1, 2), duty(0, 1, 0, 1, 3), duty(0, 1, 1, 0, 10), duty(0, 1, 2, 0, 20),
                 duty(0, 1, 3, 1, 7), duty(1, 2, 3, 0, 7)]
        self.assertEqual(last(given + [best()]), [10, 0])
        self.assertEqual(three(given, 0), [0, 27, 3])
        self.assertEqual(three(given, 1), [1, 0, 0])
        self.assertEqual(three(given, 3), [1, 0, 7])

    def test_the_least_of_several_that_keep_it(self):
        # act 0 can be done with act 1 alone or with act 2, too: the lighter way counts
        given = [start(3, 3), needs(0, 1), duty(0, 1, 0, 1, 2), duty(0, 1, 1, 0, 9), duty(0, 1, 2, 0, 30)]
        self.assertEqual(three(given, 0), [0, 7, 2])

    def test_a_cost_above_its_weight(self):
        given = [start(1, 2), duty(0, 1, 0, 1, 1)] + [duty(1, 0, 0, 0, 50)] * 15
        self.assertEqual(three(given, 0), [0, 749, 1])
        self.assertEqual(three(given, 1), [1, 0, 0])

    def test_what_is_overtaken_costs_nothing_more(self):
        given = [start(1, 3), duty(0, 1, 0, 0, 50, 1), duty(0, 1, 0, 0, 2, 2), duty(2, 1, 0, 1, 1)]
        self.assertEqual(three(given, 2), [0, 1, 1])


class Relief(unittest.TestCase):

    def test_as_far_as_the_other_side_goes(self):
        # 9 against 7: waived, the 9 no more counts, and 7 are broken at most, of them none need be
        given = [start(1, 3), duty(0, 1, 0, 1, 9), duty(1, 2, 0, 0, 4), duty(2, 1, 0, 0, 3)]
        self.assertEqual([three(given, k)[2] for k in range(3)], [7, 4, 3])

    def test_less_than_it_weighs_and_kept(self):
        # the duty is kept by the best conduct, and yet its waiver relieves
        given = [start(1, 3), duty(0, 1, 0, 1, 6), duty(0, 2, 0, 1, 6), duty(1, 2, 0, 0, 10)]
        self.assertEqual(last(given + [best()]), [10, 1])
        self.assertEqual(three(given, 0), [1, 0, 4])
        self.assertEqual(three(given, 1), [1, 0, 4])
        self.assertEqual(three(given, 2), [0, 2, 10])

    def test_kept_by_the_best_without_relief(self):
        # 20 and 20 against 10: without one 20 the other still goes ahead
        given = [start(1, 3), duty(0, 1, 0, 1, 20), duty(0, 2, 0, 1, 20), duty(1, 2, 0, 0, 10)]
        self.assertEqual([three(given, k)[2] for k in range(3)], [0, 0, 10])

    def test_broken_it_relieves_by_its_weight(self):
        given = [start(2, 3), duty(0, 1, 0, 1, 6), duty(1, 2, 1, 0, 4), duty(2, 0, 1, 0, 1), needs(0, 1)]
        self.assertEqual([three(given, k)[2] for k in range(3)], [5, 4, 1])

    def test_whatever_it_overtakes_stays_overtaken(self):
        # duty 1 overtakes duty 0; dropped, 0 would stand again and be broken in its place
        given = [start(1, 3), duty(0, 1, 0, 1, 8, 1), duty(0, 1, 0, 1, 5, 2), duty(2, 1, 0, 0, 9, 0)]
        self.assertEqual(last(given + [best()]), [5, 0])
        self.assertEqual(three(given, 1), [0, 4, 5])
        self.assertEqual(ask(given + [drop(1), best()])[-1], [8, 0])
        self.assertEqual(last(given + [waive()]), [1, 5])

    def test_asking_changes_nothing(self):
        given = [start(1, 3), duty(0, 1, 0, 1, 8, 1), duty(0, 1, 0, 1, 5, 2), duty(2, 1, 0, 0, 9, 0)]
        rest = [told(0), told(1), told(2), best(), ways()]
        found = ask(given + [relief(1), relief(2), cost(1), can(1), waive()] + rest)
        self.assertEqual(found[len(given) + 5:], ask(given + rest)[len(given):])
        self.assertEqual(found[-5], [0, 0, 1, 0, 1, 8, 1])


class Waive(unittest.TestCase):

    def test_no_duty(self):
        self.assertEqual(last([start(8, 6), waive()]), [-33])
        self.assertEqual(last([start(8, 6), duty(0, 1, 0, 1), drop(0), waive()]), [-33])

    def test_duty_first_then_its_relief(self):
        given = [start(1, 3), duty(0, 1, 0, 1, 6), duty(0, 2, 0, 1, 6), duty(1, 2, 0, 0, 10)]
        self.assertEqual(last(given + [waive()]), [2, 10])

    def test_the_one_in_the_middle(self):
        given = [start(1, 3), duty(1, 2, 0, 0, 4), duty(0, 1, 0, 1, 9), duty(2, 1, 0, 0, 3)]
        self.assertEqual(last(given + [waive()]), [1, 7])

    def test_like_ones(self):
        given = [start(1, 3), duty(0, 1, 0, 1, 5), duty(1, 2, 0, 0, 5)]
        self.assertEqual(last(given + [waive()]), [0, 5])
        # one that relieves by less stands ahead of two that relieve alike
        given = [start(2, 3), duty(0, 1, 0, 1, 2), duty(1, 0, 0, 0, 3), duty(0, 1, 1, 1, 7), duty(1, 0, 1, 0, 7)]
        self.assertEqual([three(given, k)[2] for k in range(4)], [2, 2, 7, 7])
        self.assertEqual(last(given + [waive()]), [2, 7])

    def test_none_that_relieves(self):
        given = [start(2, 2), duty(0, 1, 0, 1, 5), duty(0, 1, 1, 1, 50)]
        self.assertEqual(last(given + [waive()]), [0, 0])

    def test_none_that_relieves_behind_an_overtaken_one(self):
        # duty 0 doesn't stand, so it isn't the first of like ones
        given = [start(2, 2), duty(0, 1, 0, 1, 5, 1), duty(0, 1, 0, 1, 50, 2), duty(0, 1, 1, 1, 9)]
        self.assertEqual(last(given + [waive()]), [1, 0])

    def test_numbers_count_the_overtaken_too(self):
        given = [start(2, 3), duty(0, 1, 0, 1, 5, 1), duty(0, 1, 0, 1, 3, 2), duty(2, 1, 0, 0, 4), duty(1, 2, 0, 1, 9)]
        self.assertEqual(last(given + [waive()]), [2, 4])

    def test_the_last_of_sixteen(self):
        given = [start(1, 2)] + [duty(0, 1, 0, 1, 50)] * 15 + [duty(1, 0, 0, 0, 50)]
        self.assertEqual(last(given + [waive()]), [15, 50])
