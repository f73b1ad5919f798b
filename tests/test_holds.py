"""What the document says under "What holds", over many lines of calls."""

import itertools
import random
import unittest

from tests.helper import (
    again, ask, back, best, breaks, can, clash, clashes, cost, drop, duty, free, links_probe, may, most, needs, nth,
    probe, relief, start, sure, told, waive, ways, who,
)


def random_duty(dice, n):
    i, j = dice.sample(range(3), 2)
    return duty(i, j, dice.randrange(n), dice.randint(0, 1), dice.randint(1, 3), dice.randint(0, 4))


def random_object(dice, n):
    """A start, some duties and some links, few enough that none is refused."""
    links = list(itertools.permutations(range(n), 2))
    dice.shuffle(links)
    # with many links all acts hang together and little is left to tell apart, so few are taken more often
    count = dice.choice((0, 1, 2, 3, 4, dice.randint(5, 11)))
    return (
        [start(n, 3)]
        + [random_duty(dice, n) for k in range(dice.randint(0, 15))]
        + [needs(a, b) for a, b in links[:count]]
    )


def behind(given, calls):
    """What the calls answer behind the given ones."""
    return ask(given + calls)[len(given):]


def count_duties(given):
    return sum(call[0] == 1 for call in given)


def standing(given):
    """The numbers of the duties that stand, each with what ck_told tells of it."""
    found = behind(given, [told(k) for k in range(count_duties(given))])
    return {k: answer[1:] for k, answer in enumerate(found) if answer[0] == 1}


def most_set_against(weights, pairs):
    """How much can be set against one another in all, along the pairs (one that's done, one that isn't).

    More is found as long as a way leads from a duty of the one side that has some left to one of the other side
    that has, forth along any pair and back along one on which something is set already.
    """
    left = dict(weights)
    laid = dict.fromkeys(pairs, 0)
    while True:
        came = {k: None for k, l in pairs if left[k]}
        row = list(came)
        for one in row:
            for k, l in pairs:
                step = l if one == k else k if one == l and laid[k, l] else None
                if step is not None and step not in came:
                    came[step] = one
                    row.append(step)
        ends = [l for k, l in pairs if l in came and left[l]]
        if not ends:
            return sum(laid.values())
        way = [ends[0]]
        while came[way[-1]] is not None:
            way.append(came[way[-1]])
        left[way[0]] -= 1
        left[way[-1]] -= 1
        for later, earlier in zip(way, way[1:]):
            if (earlier, later) in laid:
                laid[earlier, later] += 1
            else:
                laid[later, earlier] -= 1


def objects():
    """Many objects, each with how many acts it has."""
    dice = random.Random(2)
    for turn in range(150):
        n = dice.randint(1, 5) if turn % 10 else dice.randint(6, 8)
        yield n, random_object(dice, n)


class Conducts(unittest.TestCase):

    def test_what_the_best_have_in_common(self):
        several = 0
        for n, given in objects():
            count = behind(given, [ways()])[0][0]
            found = [answer[1] for answer in behind(given, [nth(k) for k in range(count)])]
            several += count > 1
            self.assertEqual(found, sorted(set(found)))
            for one, other in itertools.product(found, found):
                self.assertIn(one & other, found)
                self.assertIn(one | other, found)
            # so the least best one lies in all, and all that some do is best itself
            self.assertEqual(behind(given, [best()])[0][1], found[0])
            self.assertEqual(behind(given, [most()])[0][1], found[-1])
            for a, answer in enumerate(behind(given, [sure(a) for a in range(n)])):
                self.assertEqual(answer, [(found[0] >> a & 1) + (found[-1] >> a & 1)])
        self.assertGreater(several, 20)

    def test_no_less_is_broken_by_any_conduct(self):
        for n, given in objects():
            found = behind(given, [best(), ways()] + [breaks(s) for s in range(2 ** n)])
            allowed = [answer[0] for answer in found[2:] if answer != [-33]]
            self.assertEqual(min(allowed), found[0][0])
            self.assertEqual([allowed.count(min(allowed)), len(allowed)], found[1])

    def test_all_that_the_best_breaks_some_state_breaks(self):
        for n, given in objects():
            least, conduct = behind(given, [best()])[0]
            found = behind(given, [breaks(conduct)] + [who(i) for i in range(3)])
            self.assertEqual([sum(numbers) for numbers in zip(*found[1:])], found[0])
            self.assertEqual(found[0][0], least)

    def test_a_link_more_no_less_is_broken(self):
        more = 0
        for n, given in objects():
            for a, b in itertools.permutations(range(n), 2):
                found = ask(given + [best(), needs(a, b), best()])[-3:]
                self.assertLessEqual(found[0][0], found[2][0])
                more += found[0][0] < found[2][0]
        self.assertGreater(more, 20)

    def test_overtaken_counts_for_nothing(self):
        overtaken = 0
        for n, given in objects():
            rest = [best(), most(), ways()] + [breaks(s) for s in range(2 ** n)]
            rest += [sure(a) for a in range(n)] + [who(i) for i in range(3)]
            stand = standing(given)
            for k in range(count_duties(given)):
                if k in stand:
                    continue
                overtaken += 1
                fewer = given + [drop(k)]
                # those behind are numbered one less
                moved = {place: place - (place > k) for place in stand}
                self.assertEqual(behind(fewer, rest), behind(given, rest))
                for place in stand:
                    self.assertEqual(behind(fewer, [call(moved[place]) for call in (can, cost, relief)]),
                                     behind(given, [call(place) for call in (can, cost, relief)]))
                count, one, other = behind(given, [clashes()])[0]
                wanted = [count, moved[one], moved[other]] if count else [0, 0, 0]
                self.assertEqual(behind(fewer, [clashes()])[0], wanted)
                place, most_relieved = behind(given, [waive()])[0]
                self.assertEqual(behind(fewer, [waive()])[0], [moved[place], most_relieved])
        self.assertGreater(overtaken, 20)


class Clashing(unittest.TestCase):

    def test_pairs_are_enough(self):
        free_of_clash = 0
        for n, given in objects():
            least, count = [answer[0] for answer in behind(given, [best(), clashes()])]
            free_of_clash += count == 0
            self.assertEqual(least == 0, count == 0)
        self.assertGreater(free_of_clash, 20)
        self.assertLess(free_of_clash, 130)

    def test_they_clash_if_no_conduct_that_may_be_keeps_both(self):
        for n, given in objects():
            allowed = [s for s, answer in enumerate(behind(given, [may(s) for s in range(2 ** n)])) if answer == [1]]
            pairs = list(itertools.permutations(range(count_duties(given)), 2))
            found = behind(given, [clash(k, l) for k, l in pairs])
            owed = [call[3:5] for call in given if call[0] == 1]
            for (k, l), answer in zip(pairs, found):
                (a, x), (b, y) = owed[k], owed[l]
                both = any(s >> a & 1 == x and s >> b & 1 == y for s in allowed)
                self.assertEqual(answer, [int(not both)])

    def test_done_and_not_done_clash_nothing_else(self):
        for n, given in objects():
            owed = [call[3:5] for call in given if call[0] == 1]
            pairs = list(itertools.combinations(range(len(owed)), 2))
            for (k, l), answer in zip(pairs, behind(given, [clash(k, l) for k, l in pairs])):
                (a, x), (b, y) = owed[k], owed[l]
                if x == y:
                    self.assertEqual(answer, [0])
                elif a == b:
                    self.assertEqual(answer, [1])

    def test_the_pairs_are_those_that_stand_and_clash(self):
        for n, given in objects():
            pairs = list(itertools.combinations(sorted(standing(given)), 2))
            found = behind(given, [clash(k, l) for k, l in pairs])
            clashing = [pair for pair, answer in zip(pairs, found) if answer == [1]]
            self.assertEqual(behind(given, [clashes()])[0], [len(clashing), *min(clashing, default=(0, 0))])

    def test_set_against_one_another(self):
        some = 0
        for n, given in objects():
            stand = standing(given)
            weights = {k: numbers[4] for k, numbers in stand.items()}
            done = [k for k, numbers in stand.items() if numbers[3] == 1]
            pairs = list(itertools.product(done, [k for k in stand if k not in done]))
            found = behind(given, [clash(k, l) for k, l in pairs])
            clashing = [pair for pair, answer in zip(pairs, found) if answer == [1]]
            least = behind(given, [best()])[0][0]
            some += least > 3
            self.assertEqual(most_set_against(weights, clashing), least)
        self.assertGreater(some, 20)


class Costing(unittest.TestCase):

    def test_a_duty_costs_nothing_just_when_some_best_one_keeps_it(self):
        seen = {0: 0, 1: 0}
        for n, given in objects():
            for k in standing(given):
                kept, price = [answer[0] for answer in behind(given, [can(k), cost(k)])]
                self.assertEqual(kept == 1, price == 0)
                seen[kept] += 1
        self.assertGreater(min(seen.values()), 20)

    def test_what_it_costs(self):
        for n, given in objects():
            found = behind(given, [breaks(s) for s in range(2 ** n)])
            least = behind(given, [best()])[0][0]
            for k, numbers in standing(given).items():
                a, x = numbers[2:4]
                kept = [answer[0] for s, answer in enumerate(found) if s >> a & 1 == x and answer != [-33]]
                self.assertEqual(behind(given, [cost(k)])[0], [min(kept) - least])

    def test_waived_it_relieves_by_no_more_than_it_weighs(self):
        less = 0
        for n, given in objects():
            least, conduct = behind(given, [best()])[0]
            for k, numbers in standing(given).items():
                a, x, w = numbers[2:5]
                found = behind(given, [relief(k)])[0][0]
                self.assertIn(found, range(w + 1))
                less += 0 < found < w
                # one that the best conduct breaks relieves by all it weighs
                if conduct >> a & 1 != x:
                    self.assertEqual(found, w)
        self.assertGreater(less, 10)

    def test_the_waived_one_relieves_most(self):
        for n, given in objects():
            reliefs = {k: behind(given, [relief(k)])[0][0] for k in standing(given)}
            if not reliefs:
                self.assertEqual(behind(given, [waive()])[0], [-33])
                continue
            greatest = max(reliefs.values())
            first = min(k for k in reliefs if reliefs[k] == greatest)
            self.assertEqual(behind(given, [waive()])[0], [first, greatest])


class TakenBack(unittest.TestCase):

    def seen(self, calls, n):
        """All that can be seen, but how many changes can be taken back or done again."""
        found = behind(calls, probe(n))
        return found[0][:4], found[1:], behind(calls, links_probe(n))

    def test_all_is_as_it_was(self):
        dice = random.Random(4)
        for turn in range(60):
            n = dice.randint(1, 4)
            given = random_object(dice, n)
            calls = [
                random_duty(dice, n), drop(dice.randrange(10)), needs(dice.randrange(n), dice.randrange(n)),
                free(dice.randrange(n), dice.randrange(n)), random_duty(dice, n), drop(0),
            ]
            dice.shuffle(calls)
            made = [call for call, answer in zip(calls, behind(given, calls)) if answer[0] >= 0]
            before = self.seen(given, n)
            after = self.seen(given + calls, n)
            self.assertEqual(self.seen(given + made, n), after)
            self.assertEqual(self.seen(given + calls + [back()] * len(made), n), before)
            self.assertEqual(self.seen(given + calls + [back()] * len(made) + [again()] * len(made), n), after)
