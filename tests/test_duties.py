"""Point 2: ck_duty, ck_drop, ck_told; and which duties stand."""

import unittest

from tests.helper import SIXTEEN, TOP, ask, best, breaks, drop, duty, last, start, told


class TakingOn(unittest.TestCase):

    def test_numbers_rise(self):
        self.assertEqual(ask([start(8, 6)] + SIXTEEN)[1:], [[k] for k in range(16)])

    def test_sixteenth_and_seventeenth(self):
        self.assertEqual(ask([start(8, 6)] + SIXTEEN + [duty(0, 1, 0, 1)] * 2)[16:], [[15], [-28], [-28]])

    def test_room_again_behind_a_drop(self):
        found = ask([start(8, 6)] + SIXTEEN + [duty(0, 1, 0, 1), drop(0), duty(0, 1, 0, 1), duty(0, 1, 0, 1)])
        self.assertEqual(found[17:], [[-28], [15], [15], [-28]])

    def test_none_there(self):
        for n, m in ((1, 2), (3, 4), (8, 6)):
            self.assertEqual(last([start(n, m), duty(m - 1, 0, n - 1, 1)]), [0])
            self.assertEqual(last([start(n, m), duty(0, m - 1, n - 1, 1)]), [0])
            for wrong in (m, TOP):
                self.assertEqual(last([start(n, m), duty(wrong, 0, 0, 1)]), [-2])
                self.assertEqual(last([start(n, m), duty(0, wrong, 0, 1)]), [-2])
            for wrong in (n, TOP):
                self.assertEqual(last([start(n, m), duty(0, 1, wrong, 1)]), [-2])

    def test_to_itself(self):
        self.assertEqual(ask([start(1, 2), duty(0, 0, 0, 1), duty(1, 1, 0, 1), duty(1, 0, 0, 1)])[1:],
                         [[-22], [-22], [0]])

    def test_edges_of_x(self):
        self.assertEqual(ask([start(1, 2)] + [duty(0, 1, 0, x) for x in (0, 1, 2, TOP)])[1:],
                         [[0], [1], [-22], [-22]])

    def test_edges_of_weight(self):
        self.assertEqual(ask([start(1, 2)] + [duty(0, 1, 0, 1, w) for w in (0, 1, 50, 51, TOP)])[1:],
                         [[-22], [0], [1], [-22], [-22]])

    def test_edges_of_day(self):
        self.assertEqual(ask([start(1, 2)] + [duty(0, 1, 0, 1, 1, d) for d in (0, 10000, 10001, TOP)])[1:],
                         [[0], [1], [-22], [-22]])

    def test_none_goes_ahead_of_what_is_not_allowed(self):
        full = [start(8, 6)] + SIXTEEN
        for wrong in (duty(6, 6, 0, 1), duty(6, 0, 0, 2), duty(0, 6, 0, 1, 0), duty(0, 1, 8, 1, 51),
                      duty(0, 0, 8, 1), duty(0, 1, 8, 1, 1, 10001), [1, TOP, TOP, TOP, TOP, TOP, TOP]):
            self.assertEqual(last([start(8, 6), wrong]), [-2], wrong)
            self.assertEqual(last(full + [wrong]), [-2], wrong)

    def test_not_allowed_goes_ahead_of_full(self):
        full = [start(8, 6)] + SIXTEEN
        for wrong in (duty(0, 0, 0, 1), duty(0, 1, 0, 2), duty(0, 1, 0, 1, 0), duty(0, 1, 0, 1, 51),
                      duty(0, 1, 0, 1, 1, 10001)):
            self.assertEqual(last(full + [wrong]), [-22], wrong)


class Telling(unittest.TestCase):

    def test_all_six_in_their_order(self):
        self.assertEqual(last([start(8, 6), duty(4, 2, 7, 1, 50, 10000), told(0)]), [1, 4, 2, 7, 1, 50, 10000])
        self.assertEqual(last([start(8, 6), duty(0, 5, 3, 0, 1, 0), told(0)]), [1, 0, 5, 3, 0, 1, 0])

    def test_none_there(self):
        self.assertEqual(ask([start(1, 2), told(0), duty(0, 1, 0, 1), told(0), told(1), told(TOP)])[1:],
                         [[-2], [0], [1, 0, 1, 0, 1, 1, 0], [-2], [-2]])

    def test_all_sixteen(self):
        found = ask([start(8, 6)] + SIXTEEN + [told(k) for k in range(17)])
        self.assertEqual(found[17:33], [[1] + given[1:] for given in SIXTEEN])
        self.assertEqual(found[33], [-2])


class Dropping(unittest.TestCase):

    def test_those_behind_move_up(self):
        given = [duty(0, 1, 0, 1, w) for w in (11, 12, 13, 14)]
        for k in range(4):
            found = ask([start(1, 2)] + given + [drop(k)] + [told(p) for p in range(4)])
            rest = given[:k] + given[k + 1:]
            self.assertEqual(found[5], [3])
            self.assertEqual(found[6:], [[1] + one[1:] for one in rest] + [[-2]])

    def test_down_to_none(self):
        found = ask([start(1, 2), duty(0, 1, 0, 1), duty(0, 1, 0, 0), drop(1), drop(1), drop(0), drop(0), drop(TOP)])
        self.assertEqual(found[3:], [[1], [-2], [0], [-2], [-2]])

    def test_a_new_one_comes_last(self):
        found = ask([start(1, 2), duty(0, 1, 0, 1, 2), duty(0, 1, 0, 1, 3), drop(0), duty(0, 1, 0, 1, 4),
                     told(0), told(1)])
        self.assertEqual(found[4:], [[1], [1, 0, 1, 0, 1, 3, 0], [1, 0, 1, 0, 1, 4, 0]])


def marks(given):
    """For each duty whether it stands."""
    found = ask([start(3, 4)] + given + [told(k) for k in range(len(given))])
    return [answer[0] for answer in found[1 + len(given):]]


class Standing(unittest.TestCase):

    def test_later_goes_ahead(self):
        self.assertEqual(marks([duty(0, 1, 0, 1, 9, 5), duty(0, 1, 0, 0, 1, 6)]), [0, 1])

    def test_the_day_counts_not_the_order(self):
        self.assertEqual(marks([duty(0, 1, 0, 1, 1, 6), duty(0, 1, 0, 0, 9, 5)]), [1, 0])

    def test_same_day(self):
        self.assertEqual(marks([duty(0, 1, 0, 1, 1, 5), duty(0, 1, 0, 0, 1, 5), duty(0, 1, 0, 1, 1, 5)]), [1, 1, 1])

    def test_same_side_is_overtaken_too(self):
        self.assertEqual(marks([duty(0, 1, 0, 1, 1, 5), duty(0, 1, 0, 1, 1, 6)]), [0, 1])
        self.assertEqual(marks([duty(0, 1, 0, 0, 1, 5), duty(0, 1, 0, 0, 1, 6)]), [0, 1])

    def test_another_act(self):
        self.assertEqual(marks([duty(0, 1, 0, 1, 1, 5), duty(0, 1, 1, 1, 1, 6)]), [1, 1])

    def test_another_debtor(self):
        self.assertEqual(marks([duty(0, 1, 0, 1, 1, 5), duty(2, 1, 0, 1, 1, 6)]), [1, 1])

    def test_another_creditor(self):
        self.assertEqual(marks([duty(0, 1, 0, 1, 1, 5), duty(0, 2, 0, 1, 1, 6)]), [1, 1])

    def test_the_other_way_round(self):
        self.assertEqual(marks([duty(0, 1, 0, 1, 1, 5), duty(1, 0, 0, 1, 1, 6)]), [1, 1])

    def test_edges_of_days(self):
        self.assertEqual(marks([duty(0, 1, 0, 1, 1, 0), duty(0, 1, 0, 1, 1, 10000)]), [0, 1])
        self.assertEqual(marks([duty(0, 1, 0, 1, 1, 9999), duty(0, 1, 0, 1, 1, 10000)]), [0, 1])

    def test_several_days(self):
        self.assertEqual(marks([duty(0, 1, 0, 1, 1, d) for d in (3, 7, 1, 7, 5)]), [0, 1, 0, 1, 0])

    def test_stands_again(self):
        given = [start(1, 2), duty(0, 1, 0, 1, 9, 1), duty(0, 1, 0, 0, 4, 2), told(0), best(), drop(1), told(0), best()]
        self.assertEqual(ask(given)[3:], [[0, 0, 1, 0, 1, 9, 1], [0, 0], [1], [1, 0, 1, 0, 1, 9, 1], [0, 1]])

    def test_stands_again_only_when_the_last_later_one_goes(self):
        given = [start(1, 2), duty(0, 1, 0, 1, 9, 1), duty(0, 1, 0, 0, 4, 2), duty(0, 1, 0, 0, 4, 3),
                 drop(2), told(0), told(1), drop(1), told(0)]
        self.assertEqual([answer[0] for answer in ask(given)[4:]], [2, 0, 1, 1, 1])

    def test_overtaken_counts_for_nothing(self):
        given = [start(1, 2), duty(0, 1, 0, 1, 50, 1), duty(0, 1, 0, 0, 1, 2), breaks(0), breaks(1), best()]
        self.assertEqual(ask(given)[3:], [[0, 0], [1, 1], [0, 0]])
