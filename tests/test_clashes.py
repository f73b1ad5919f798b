"""Point 4: ck_clash and ck_clashes."""

import itertools
import unittest

from tests.helper import SIXTEEN, TOP, ask, clash, clashes, drop, duty, free, last, needs, start, told


def both(given, k, l):
    """What ck_clash answers in the one order and in the other."""
    return ask(given + [clash(k, l), clash(l, k)])[len(given):]


class Clash(unittest.TestCase):

    def test_done_and_not_done(self):
        self.assertEqual(both([start(1, 3), duty(0, 1, 0, 1), duty(1, 2, 0, 0)], 0, 1), [[1], [1]])

    def test_the_same_side(self):
        for x in (0, 1):
            self.assertEqual(both([start(1, 3), duty(0, 1, 0, x), duty(1, 2, 0, x)], 0, 1), [[0], [0]])

    def test_two_acts_that_nothing_binds(self):
        for x, y in itertools.product((0, 1), (0, 1)):
            self.assertEqual(both([start(2, 2), duty(0, 1, 0, x), duty(0, 1, 1, y)], 0, 1), [[0], [0]])

    def test_two_acts_that_a_link_binds(self):
        # act 0 needs act 1, so what can't be is 0 done and 1 not done
        for x, y in itertools.product((0, 1), (0, 1)):
            wanted = [1 if (x, y) == (1, 0) else 0]
            given = [start(2, 2), duty(0, 1, 0, x), duty(0, 1, 1, y), needs(0, 1)]
            self.assertEqual(both(given, 0, 1), [wanted, wanted])

    def test_without_the_link_no_more(self):
        given = [start(2, 2), duty(0, 1, 0, 1), duty(0, 1, 1, 0), needs(0, 1)]
        self.assertEqual(ask(given + [clash(0, 1), free(0, 1), clash(0, 1)])[4:], [[1], [0], [0]])

    def test_through_several_links(self):
        # told in an order in which no single walk along the links is enough
        chains = [needs(a, a + 1) for a in range(7)], [needs(a, a + 1) for a in reversed(range(7))]
        for chain in chains:
            given = [start(8, 2)] + chain + [duty(0, 1, 0, 1), duty(0, 1, 7, 0), duty(0, 1, 7, 1), duty(0, 1, 0, 0)]
            self.assertEqual(both(given, 0, 1), [[1], [1]])
            self.assertEqual(both(given, 2, 3), [[0], [0]])
            cut = given + [free(3, 4)]
            self.assertEqual(both(cut, 0, 1), [[0], [0]])

    def test_in_a_ring_all_are_bound(self):
        given = [start(3, 2), needs(0, 1), needs(1, 2), needs(2, 0)]
        given += [duty(0, 1, a, x) for a in range(3) for x in (0, 1)]
        for k, l in itertools.combinations(range(6), 2):
            wanted = [1 if k % 2 != l % 2 else 0]
            self.assertEqual(both(given, k, l), [wanted, wanted])

    def test_two_ways_round(self):
        given = [start(4, 2), needs(0, 1), needs(0, 2), needs(1, 3), needs(2, 3), duty(0, 1, 0, 1), duty(0, 1, 3, 0)]
        self.assertEqual(both(given, 0, 1), [[1], [1]])
        self.assertEqual(both(given + [free(1, 3)], 0, 1), [[1], [1]])
        self.assertEqual(both(given + [free(1, 3), free(0, 2)], 0, 1), [[0], [0]])

    def test_whether_they_stand_or_not(self):
        # duty 0 is overtaken by duty 1, and both by duty 2
        given = [start(2, 2), duty(0, 1, 0, 1, 1, 1), duty(0, 1, 0, 0, 1, 2), duty(0, 1, 0, 1, 1, 3)]
        self.assertEqual([answer[0] for answer in ask(given + [told(0), told(1), told(2)])[4:]], [0, 0, 1])
        self.assertEqual(both(given, 0, 1), [[1], [1]])
        self.assertEqual(both(given, 1, 2), [[1], [1]])
        self.assertEqual(both(given, 0, 2), [[0], [0]])

    def test_weight_does_not_matter(self):
        given = [start(1, 3), duty(0, 1, 0, 1, 1), duty(1, 2, 0, 0, 50)]
        self.assertEqual(both(given, 0, 1), [[1], [1]])

    def test_none_there(self):
        self.assertEqual(ask([start(1, 2), clash(0, 1), clash(0, 0)])[1:], [[-2], [-2]])
        given = [start(1, 2), duty(0, 1, 0, 1), duty(1, 0, 0, 0)]
        self.assertEqual(both(given, 0, 1), [[1], [1]])
        for wrong in (2, 3, 2 ** 31, TOP):
            self.assertEqual(both(given, 1, wrong), [[-2], [-2]])
        full = [start(8, 6)] + SIXTEEN
        self.assertEqual(both(full, 14, 15), [[0], [0]])
        self.assertEqual(both(full, 15, 16), [[-2], [-2]])
        self.assertEqual(both(full, 16, TOP), [[-2], [-2]])

    def test_a_duty_and_itself(self):
        full = [start(8, 6)] + SIXTEEN
        self.assertEqual(ask(full + [clash(0, 0), clash(7, 7), clash(15, 15)])[17:], [[-22]] * 3)

    def test_none_goes_ahead_of_alike(self):
        full = [start(8, 6)] + SIXTEEN
        self.assertEqual(ask(full + [clash(16, 16), clash(TOP, TOP)])[17:], [[-2], [-2]])
        given = [start(1, 2), duty(0, 1, 0, 1)]
        self.assertEqual(ask(given + [clash(0, 0), clash(1, 1), drop(0), clash(0, 0)])[2:], [[-22], [-2], [0], [-2]])

    def test_an_overtaken_one_and_itself(self):
        given = [start(1, 2), duty(0, 1, 0, 1, 1, 1), duty(0, 1, 0, 0, 1, 2)]
        self.assertEqual(last(given + [clash(0, 0)]), [-22])


class Clashes(unittest.TestCase):

    def test_no_pair(self):
        self.assertEqual(last([start(8, 6), clashes()]), [0, 0, 0])
        self.assertEqual(last([start(8, 6), duty(0, 1, 0, 1), clashes()]), [0, 0, 0])
        self.assertEqual(last([start(2, 2), duty(0, 1, 0, 1), duty(0, 1, 1, 0), clashes()]), [0, 0, 0])

    def test_one_pair(self):
        given = [start(2, 3), duty(0, 1, 1, 1), duty(0, 1, 0, 1), duty(0, 1, 1, 1), duty(1, 2, 0, 0)]
        self.assertEqual(last(given + [clashes()]), [1, 1, 3])

    def test_the_first_pair(self):
        given = [start(1, 3), duty(0, 1, 0, 1), duty(1, 2, 0, 0)]
        self.assertEqual(last(given + [clashes()]), [1, 0, 1])

    def test_one_pair_through_a_link(self):
        given = [start(2, 3), duty(0, 1, 1, 0), duty(0, 1, 0, 1), needs(0, 1)]
        self.assertEqual(last(given + [clashes()]), [1, 0, 1])
        self.assertEqual(last(given + [free(0, 1), needs(1, 0), clashes()]), [0, 0, 0])

    def test_several(self):
        # 0 clashes with none, 1 with 4 and 5, 2 with 3
        given = [start(3, 2), duty(0, 1, 2, 1), duty(0, 1, 0, 1), duty(0, 1, 1, 1), duty(1, 0, 1, 0),
                 duty(1, 0, 0, 0), duty(1, 0, 0, 0)]
        self.assertEqual(last(given + [clashes()]), [3, 1, 4])

    def test_the_least_then_the_least_second(self):
        # the pair 1, 2 has the least second, the pair 0, 3 the least first
        given = [start(2, 2), duty(0, 1, 0, 1), duty(0, 1, 1, 1), duty(1, 0, 1, 0), duty(1, 0, 0, 0)]
        self.assertEqual(last(given + [clashes()]), [2, 0, 3])

    def test_overtaken_ones_are_no_pair(self):
        given = [start(1, 3), duty(0, 1, 0, 1, 1, 1), duty(0, 1, 0, 0, 1, 2), clashes(), drop(1), duty(1, 0, 0, 0),
                 clashes()]
        self.assertEqual(ask(given)[3:], [[0, 0, 0], [1], [1], [1, 0, 1]])

    def test_numbers_count_the_overtaken_too(self):
        given = [start(1, 3), duty(0, 1, 0, 1, 1, 1), duty(0, 1, 0, 1, 1, 2), duty(2, 1, 0, 0)]
        self.assertEqual(last(given + [clashes()]), [1, 1, 2])

    def test_of_the_same_day(self):
        given = [start(1, 2), duty(0, 1, 0, 1, 1, 5), duty(0, 1, 0, 0, 1, 5)]
        self.assertEqual(last(given + [clashes()]), [1, 0, 1])

    def test_as_many_as_can_be(self):
        given = [start(1, 2)] + [duty(0, 1, 0, k // 8) for k in range(16)]
        self.assertEqual(last(given + [clashes()]), [64, 0, 8])

    def test_the_last_two(self):
        given = [start(1, 2)] + [duty(0, 1, 0, 1)] * 15 + [duty(1, 0, 0, 0)]
        self.assertEqual(last(given + [clashes()]), [15, 0, 15])
        given = [start(2, 2)] + [duty(0, 1, 1, 1)] * 14 + [duty(0, 1, 0, 1), duty(1, 0, 0, 0)]
        self.assertEqual(last(given + [clashes()]), [1, 14, 15])
