"""Point 3: ck_may, ck_breaks, ck_best, ck_most, ck_ways, ck_nth."""

import unittest

from tests.helper import TOP, ask, best, breaks, drop, duty, free, last, may, most, needs, nth, start, ways


class May(unittest.TestCase):

    def test_without_links_all_may(self):
        for n in (1, 4, 8):
            self.assertEqual(ask([start(n, 2)] + [may(s) for s in range(2 ** n)])[1:], [[1]] * 2 ** n)

    def test_one_act_too_many(self):
        for n in range(1, 9):
            for wrong in (2 ** n, 2 ** n + 1, 2 ** (n + 1), 2 ** 31, TOP):
                self.assertEqual(ask([start(n, 2), may(wrong), breaks(wrong)])[1:], [[-22], [-22]])

    def test_chain(self):
        found = ask([start(3, 2), needs(2, 1), needs(1, 0)] + [may(s) for s in range(8)])
        self.assertEqual([s for s in range(8) if found[3 + s] == [1]], [0, 1, 3, 7])

    def test_one_that_needs_two(self):
        found = ask([start(3, 2), needs(0, 1), needs(0, 2)] + [may(s) for s in range(8)])
        self.assertEqual([s for s in range(8) if found[3 + s] == [1]], [0, 2, 4, 6, 7])

    def test_highest_act(self):
        self.assertEqual(ask([start(8, 2), needs(7, 6), may(128), may(192), may(64), may(256)])[2:],
                         [[0], [1], [1], [-22]])


class Breaks(unittest.TestCase):

    def test_weight_first_then_how_many(self):
        given = [start(2, 3), duty(0, 1, 0, 1, 10), duty(1, 0, 0, 0, 3), duty(0, 2, 1, 1, 5)]
        self.assertEqual(ask(given + [breaks(s) for s in range(4)])[4:], [[15, 2], [8, 2], [10, 1], [3, 1]])

    def test_none_broken(self):
        self.assertEqual(ask([start(1, 2), breaks(0), duty(0, 1, 0, 0, 50), breaks(0), breaks(1)])[1:],
                         [[0, 0], [0], [0, 0], [50, 1]])

    def test_may_not_be(self):
        given = [start(2, 2), duty(0, 1, 1, 1, 4), needs(0, 1)]
        self.assertEqual(ask(given + [breaks(s) for s in range(4)])[3:], [[4, 1], [-33], [0, 0], [0, 0]])

    def test_no_set_goes_ahead_of_may_not_be(self):
        self.assertEqual(ask([start(2, 2), needs(0, 1), breaks(5), breaks(1)])[2:], [[-22], [-33]])

    def test_all_sixteen_at_their_heaviest(self):
        given = [start(1, 2)] + [duty(0, 1, 0, 1, 50)] * 16
        self.assertEqual(ask(given + [breaks(0), breaks(1)])[17:], [[800, 16], [0, 0]])

    def test_only_those_that_stand(self):
        given = [start(1, 3), duty(0, 1, 0, 1, 8, 1), duty(0, 1, 0, 1, 2, 2), duty(0, 2, 0, 1, 4, 0)]
        self.assertEqual(last(given + [breaks(0)]), [6, 2])


def four(given, places):
    """What ck_best, ck_most and ck_ways answer, then ck_nth at each place."""
    return ask(given + [best(), most(), ways()] + [nth(k) for k in places])[len(given):]


class Best(unittest.TestCase):

    def test_one_best(self):
        given = [start(2, 3), duty(0, 1, 0, 1, 10), duty(1, 0, 0, 0, 3), duty(0, 2, 1, 1, 5)]
        self.assertEqual(four(given, (0, 1, TOP)), [[3, 3], [2, 3], [1, 4], [2, 3], [-33], [-33]])

    def test_one_best_that_does_nothing(self):
        given = [start(2, 2), duty(0, 1, 0, 0), duty(0, 1, 1, 0)]
        self.assertEqual(four(given, (0, 1)), [[0, 0], [0, 0], [1, 4], [0, 0], [-33]])

    def test_several_best(self):
        # nothing is owed of acts 0 and 2, so these are free
        given = [start(3, 2), duty(0, 1, 1, 1, 5)]
        self.assertEqual(four(given, range(5)),
                         [[0, 2], [3, 7], [4, 8], [1, 2], [2, 3], [2, 6], [3, 7], [-33]])

    def test_several_best_that_break(self):
        given = [start(2, 2), duty(0, 1, 0, 1, 5, 7), duty(0, 1, 0, 0, 5, 7), duty(0, 1, 1, 0, 1)]
        self.assertEqual(four(given, range(3)), [[5, 0], [1, 1], [2, 4], [0, 0], [1, 1], [-33]])

    def test_most_is_not_all_acts(self):
        given = [start(4, 2), duty(0, 1, 3, 0), duty(0, 1, 1, 0)]
        self.assertEqual(four(given, (3, 4)), [[0, 0], [2, 5], [4, 16], [2, 5], [-33]])

    def test_one_best_with_a_link(self):
        # act 0 is owed more than act 1 is owed not to be, and 0 can't be done but with 1
        given = [start(2, 3), duty(0, 1, 0, 1, 6), duty(1, 2, 1, 0, 4), needs(0, 1)]
        self.assertEqual(four(given, (0, 1)), [[4, 3], [2, 3], [1, 3], [2, 3], [-33]])

    def test_the_link_the_other_way(self):
        given = [start(2, 3), duty(0, 1, 0, 1, 4), duty(1, 2, 1, 0, 6), needs(0, 1)]
        self.assertEqual(four(given, (0, 1)), [[4, 0], [0, 0], [1, 3], [0, 0], [-33]])

    def test_several_best_with_a_link(self):
        given = [start(2, 3), duty(0, 1, 0, 1, 5), duty(1, 2, 1, 0, 5), needs(0, 1)]
        self.assertEqual(four(given, range(3)), [[5, 0], [2, 3], [2, 3], [0, 0], [2, 3], [-33]])

    def test_the_same_without_the_link(self):
        given = [start(2, 3), duty(0, 1, 0, 1, 5), duty(1, 2, 1, 0, 5), needs(0, 1), free(0, 1)]
        self.assertEqual(four(given, (0, 1)), [[0, 1], [1, 1], [1, 4], [1, 1], [-33]])

    def test_a_ring_of_links(self):
        given = [start(3, 2), needs(0, 1), needs(1, 2), needs(2, 0), duty(0, 1, 0, 1, 2), duty(0, 1, 1, 0, 1)]
        self.assertEqual(four(given, (0, 1)), [[1, 7], [3, 7], [1, 2], [3, 7], [-33]])

    def test_the_heaviest_counts_not_the_most(self):
        given = [start(1, 4), duty(0, 1, 0, 1, 9), duty(1, 2, 0, 0, 4), duty(2, 3, 0, 0, 4)]
        self.assertEqual(four(given, (0,)), [[8, 1], [1, 1], [1, 2], [1, 1]])

    def test_overtaken_ones_do_not_count(self):
        given = [start(1, 3), duty(0, 1, 0, 1, 50, 1), duty(0, 1, 0, 1, 2, 2), duty(2, 1, 0, 0, 3, 0)]
        self.assertEqual(four(given, (0,)), [[2, 0], [0, 0], [1, 2], [0, 0]])

    def test_drop_changes_the_best(self):
        given = [start(1, 3), duty(0, 1, 0, 1, 9), duty(2, 1, 0, 0, 3), best(), drop(0), best()]
        self.assertEqual(ask(given)[3:], [[3, 1], [1], [0, 0]])

    def test_all_conducts_of_eight_acts(self):
        self.assertEqual(four([start(8, 2)], (0, 255, 256)), [[0, 0], [8, 255], [256, 256], [0, 0], [8, 255], [-33]])

    def test_one_act(self):
        self.assertEqual(four([start(1, 2)], (0, 1, 2)), [[0, 0], [1, 1], [2, 2], [0, 0], [1, 1], [-33]])

    def test_all_eight_owed(self):
        given = [start(8, 2)] + [duty(0, 1, a, 1, 50) for a in range(8)]
        self.assertEqual(four(given, (0, 1)), [[0, 255], [8, 255], [1, 256], [8, 255], [-33]])
