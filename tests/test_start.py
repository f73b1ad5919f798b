"""Point 1: ck_start, and what refusals leave behind."""

import unittest

from tests.helper import (
    SIXTEEN, TOP, TWELVE, again, ask, back, best, breaks, can, changes_probe, clash, clashes, cost, drop, duty, free,
    last, links_probe, may, most, needs, nth, probe, relief, start, state, sure, told, waive, ways, who,
)


class Start(unittest.TestCase):

    def test_edges_of_acts(self):
        found = ask([start(n, 2) for n in (0, 1, 8, 9, TOP)])
        self.assertEqual(found, [[-22], [0], [0], [-22], [-22]])

    def test_edges_of_states(self):
        found = ask([start(1, m) for m in (0, 1, 2, 6, 7, TOP)])
        self.assertEqual(found, [[-22], [-22], [0], [0], [-22], [-22]])

    def test_every_small_pair(self):
        for n in range(12):
            for m in range(12):
                wanted = 0 if 1 <= n <= 8 and 2 <= m <= 6 else -22
                self.assertEqual(last([start(n, m)]), [wanted], (n, m))

    def test_both_wrong(self):
        self.assertEqual(ask([start(0, 0), start(TOP, TOP)]), [[-22], [-22]])

    def test_n_and_m_are_acts_and_states_in_this_order(self):
        # three acts, two states: act 2 is there, state 2 isn't
        self.assertEqual(ask([start(3, 2), duty(0, 1, 2, 1), duty(0, 2, 0, 1)])[1:], [[0], [-2]])
        # two acts, three states: the other way round
        self.assertEqual(ask([start(2, 3), duty(0, 1, 2, 1), duty(0, 2, 0, 1)])[1:], [[-2], [0]])

    def test_new_object_is_bare(self):
        found = ask([start(2, 2), told(0), drop(0), free(0, 1), may(3), breaks(3), best(), most(), ways(), nth(3)])
        self.assertEqual(
            found, [[0], [-2], [-2], [-6], [1], [0, 0], [0, 0], [2, 3], [4, 4], [2, 3]]
        )
        found = ask([start(2, 3), sure(1), who(2), can(0), cost(0), clash(0, 0), clashes(), waive(), relief(0),
                     back(), again(), state()])
        self.assertEqual(
            found, [[0], [1], [0, 0], [-2], [-2], [-2], [0, 0, 0], [-33], [-2], [-2], [-2], [0, 2, 3, 0, 0, 0]]
        )

    def test_start_makes_all_new(self):
        old = [start(8, 6)] + SIXTEEN + TWELVE + [back()] * 5
        new = [start(3, 2)] + probe(3) + changes_probe() + links_probe(3) + [duty(0, 1, 0, 1), needs(0, 1)]
        self.assertEqual(ask(old + new)[len(old):], ask(new))

    def test_start_of_the_same_size_makes_all_new(self):
        old = [start(8, 6)] + SIXTEEN + TWELVE + [back()] * 5
        new = [start(8, 6)] + probe() + changes_probe() + links_probe()
        self.assertEqual(ask(old + new)[len(old):], ask(new))

    def test_refused_start_leaves_all(self):
        old = [start(4, 3), duty(0, 1, 2, 1, 7, 3), duty(2, 1, 2, 0, 5, 4), needs(2, 3), needs(0, 1), drop(0), back()]
        for rest in (probe(4) + changes_probe(), links_probe(4)):
            wanted = ask(old + rest)[len(old):]
            for refused in (start(0, 3), start(9, 3), start(4, 1), start(4, 7), start(TOP, TOP)):
                found = ask(old + [refused] + rest)
                self.assertEqual(found[len(old)], [-22])
                self.assertEqual(found[len(old) + 1:], wanted)

    def test_refused_before_the_first_start(self):
        self.assertEqual(ask([start(0, 2), start(1, 7), start(1, 2), ways()]), [[-22], [-22], [0], [2, 2]])


class RefusedLeavesAll(unittest.TestCase):

    def check(self, old, refused, answer, acts):
        for rest in (probe(acts) + changes_probe(), links_probe(acts)):
            wanted = ask(old + rest)[len(old):]
            found = ask(old + [refused] + rest)
            self.assertEqual(found[len(old)], [answer], refused)
            self.assertEqual(found[len(old) + 1:], wanted, refused)

    def test_each_refusal(self):
        old = [start(4, 3), duty(0, 1, 2, 1, 7, 3), duty(0, 1, 2, 0, 5, 4), needs(2, 3), needs(0, 1), drop(0), back()]
        for refused, answer in (
            (start(0, 2), -22), (start(9, 2), -22), (start(1, 1), -22), (start(1, 7), -22),
            (duty(3, 1, 0, 1), -2), (duty(0, 3, 0, 1), -2), (duty(0, 1, 4, 1), -2),
            (duty(1, 1, 0, 1), -22), (duty(0, 1, 0, 2), -22), (duty(0, 1, 0, 1, 0), -22),
            (duty(0, 1, 0, 1, 51), -22), (duty(0, 1, 0, 1, 1, 10001), -22),
            (drop(2), -2), (told(2), -2),
            (needs(4, 0), -2), (needs(0, 4), -2), (needs(1, 1), -22), (needs(2, 3), -17),
            (free(4, 0), -2), (free(0, 4), -2), (free(3, 2), -6), (free(1, 1), -6),
            (may(16), -22), (breaks(16), -22), (breaks(4), -33), (nth(16), -33),
            (sure(4), -2), (who(3), -2), (can(2), -2), (can(0), -6), (cost(2), -2), (cost(0), -6),
            (clash(0, 2), -2), (clash(2, 0), -2), (clash(1, 1), -22), (relief(2), -2), (relief(0), -6),
        ):
            self.check(old, refused, answer, 4)

    def test_refused_since_full(self):
        old = [start(8, 6)] + SIXTEEN + TWELVE
        self.check(old, duty(4, 5, 0, 1), -28, 8)
        self.check(old, needs(4, 5), -28, 8)

    def test_refused_since_there_is_none(self):
        bare = [start(4, 3)]
        self.check(bare, back(), -2, 4)
        self.check(bare, again(), -2, 4)
        self.check(bare, waive(), -33, 4)
        changed = [start(4, 3), needs(0, 1), duty(0, 1, 2, 1)]
        self.check(changed, again(), -2, 4)
        self.check(changed + [back(), back()], back(), -2, 4)
        self.check(changed + [back()], waive(), -33, 4)
