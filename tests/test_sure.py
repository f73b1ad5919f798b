"""Point 3: ck_sure and ck_who."""

import unittest

from tests.helper import TOP, ask, best, drop, duty, last, needs, start, sure, ways, who


class Sure(unittest.TestCase):

    def test_all_some_none(self):
        # act 0 is owed, act 1 is owed not to be, of act 2 nothing is
        given = [start(3, 2), duty(0, 1, 0, 1, 5), duty(0, 1, 1, 0, 5)]
        self.assertEqual(ask(given + [sure(0), sure(1), sure(2)])[3:], [[2], [0], [1]])

    def test_nothing_owed(self):
        self.assertEqual(ask([start(8, 2)] + [sure(a) for a in range(8)])[1:], [[1]] * 8)

    def test_some_where_both_sides_weigh_alike(self):
        given = [start(2, 2), duty(0, 1, 0, 1, 5, 7), duty(0, 1, 0, 0, 5, 7), duty(0, 1, 1, 0)]
        self.assertEqual(ask(given + [sure(0), sure(1)])[4:], [[1], [0]])

    def test_most_of_the_best_is_still_some(self):
        # the best are 2 and 3 and 0: act 1 is done by two of three, act 0 by one
        given = [start(2, 2), needs(0, 1)]
        self.assertEqual(ask(given + [ways(), sure(0), sure(1)])[2:], [[3, 3], [1], [1]])

    def test_through_a_link(self):
        # nothing is owed of act 1, but act 0 needs it
        given = [start(2, 2), duty(0, 1, 0, 1), needs(0, 1)]
        self.assertEqual(ask(given + [sure(0), sure(1)])[3:], [[2], [2]])

    def test_not_done_through_a_link(self):
        given = [start(2, 2), duty(0, 1, 1, 0), needs(0, 1)]
        self.assertEqual(ask(given + [sure(0), sure(1)])[3:], [[0], [0]])

    def test_overtaken_ones_do_not_count(self):
        given = [start(1, 2), duty(0, 1, 0, 1, 50, 1), duty(0, 1, 0, 0, 1, 2)]
        self.assertEqual(ask(given + [sure(0), drop(1), sure(0), drop(0), sure(0)])[3:], [[0], [1], [2], [0], [1]])

    def test_none_there(self):
        for n in range(1, 9):
            found = ask([start(n, 6), sure(n - 1), sure(n), sure(n + 1), sure(2 ** 31), sure(TOP)])[1:]
            self.assertEqual(found, [[1]] + [[-2]] * 4)

    def test_it_is_acts_that_are_asked_for(self):
        self.assertEqual(ask([start(2, 6), sure(2), sure(5)])[1:], [[-2], [-2]])
        self.assertEqual(ask([start(8, 2), sure(2), sure(7)])[1:], [[1], [1]])


class Who(unittest.TestCase):

    def test_weight_first_then_how_many(self):
        given = [start(1, 4), duty(0, 1, 0, 0, 3), duty(0, 2, 0, 0, 4), duty(1, 0, 0, 1, 50), duty(2, 0, 0, 0, 1)]
        self.assertEqual(ask(given + [who(i) for i in range(4)])[5:], [[7, 2], [0, 0], [1, 1], [0, 0]])

    def test_a_state_with_no_duties(self):
        self.assertEqual(ask([start(3, 6)] + [who(i) for i in range(6)])[1:], [[0, 0]] * 6)
        # state 1 is owed something, but owes nothing itself
        given = [start(1, 3), duty(0, 1, 0, 0, 9), duty(0, 1, 0, 1, 8)]
        self.assertEqual(ask(given + [who(0), who(1), who(2)])[3:], [[8, 1], [0, 0], [0, 0]])

    def test_some_broken_and_some_kept(self):
        given = [start(2, 3), duty(0, 1, 0, 1, 10), duty(0, 2, 0, 0, 3), duty(0, 1, 1, 1, 5), duty(1, 0, 1, 0, 2)]
        self.assertEqual(ask(given + [best(), who(0), who(1), who(2)])[5:], [[5, 3], [3, 1], [2, 1], [0, 0]])

    def test_all_kept(self):
        given = [start(2, 2), duty(0, 1, 0, 1, 10), duty(0, 1, 1, 0, 3)]
        self.assertEqual(last(given + [who(0)]), [0, 0])

    def test_overtaken_ones_do_not_count(self):
        given = [start(1, 3), duty(0, 1, 0, 1, 20, 1), duty(0, 1, 0, 0, 2, 2), duty(2, 1, 0, 1, 1)]
        self.assertEqual(ask(given + [best(), who(0), who(2)])[4:], [[1, 0], [0, 0], [1, 1]])

    def test_only_an_overtaken_one(self):
        # the duty that's broken is overtaken by one that's kept
        given = [start(1, 2), duty(1, 0, 0, 1, 20, 1), duty(1, 0, 0, 0, 2, 2)]
        self.assertEqual(last(given + [who(1)]), [0, 0])

    def test_of_several_best_the_least_number(self):
        # both 0 and 1 break 5: 0 is meant, which breaks what state 0 owes
        given = [start(1, 3), duty(0, 1, 0, 1, 5), duty(1, 2, 0, 0, 5)]
        self.assertEqual(ask(given + [best(), ways(), who(0), who(1)])[3:], [[5, 0], [2, 2], [5, 1], [0, 0]])

    def test_of_several_best_with_a_link(self):
        given = [start(2, 3), duty(0, 1, 0, 1, 5), duty(1, 2, 1, 0, 5), needs(0, 1)]
        self.assertEqual(ask(given + [best(), ways(), who(0), who(1)])[4:], [[5, 0], [2, 3], [5, 1], [0, 0]])

    def test_all_sixteen(self):
        given = [start(1, 2)] + [duty(0, 1, 0, 1, 50)] * 8 + [duty(1, 0, 0, 0, 50)] * 8
        self.assertEqual(ask(given + [who(0), who(1)])[17:], [[400, 8], [0, 0]])

    def test_none_there(self):
        for m in range(2, 7):
            found = ask([start(1, m), who(m - 1), who(m), who(m + 1), who(2 ** 31), who(TOP)])[1:]
            self.assertEqual(found, [[0, 0]] + [[-2]] * 4)

    def test_it_is_states_that_are_asked_for(self):
        self.assertEqual(ask([start(8, 2), who(2), who(7)])[1:], [[-2], [-2]])
        self.assertEqual(ask([start(1, 6), who(2), who(5)])[1:], [[0, 0], [0, 0]])
