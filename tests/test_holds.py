"""Many lines of calls, held against the document's words said a second time, and against "What holds"."""

import itertools
import random
import unittest

from tests.helper import TOP, ask, best, breaks, drop, duty, free, may, most, needs, nth, start, told, ways


class Words:
    """The words of the document, over sets of acts and dicts, as plainly as they go."""

    def __init__(self):
        self.n = self.m = 0
        self.owed = []
        self.links = set()

    def stands(self, one):
        return all(
            (other["i"], other["j"], other["a"]) != (one["i"], one["j"], one["a"]) or other["d"] <= one["d"]
            for other in self.owed
        )

    def acts_of(self, s):
        return {a for a in range(self.n) if s // 2 ** a % 2}

    def may(self, s):
        done = self.acts_of(s)
        return all(b in done for a, b in self.links if a in done)

    def broken(self, s):
        done = self.acts_of(s)
        return [one["w"] for one in self.owed if self.stands(one) and (one["a"] in done) != (one["x"] == 1)]

    def conducts(self):
        return [s for s in range(2 ** self.n) if self.may(s)]

    def best(self):
        least = min(sum(self.broken(s)) for s in self.conducts())
        return [s for s in self.conducts() if sum(self.broken(s)) == least]

    def answer(self, call):
        return [
            self.start, self.duty, self.drop, self.told, self.needs, self.free, self.ck_may, self.breaks,
            self.ck_best, self.most, self.ways, self.nth,
        ][call[0]](*call[1:])

    def start(self, n, m):
        if n not in range(1, 9) or m not in range(2, 7):
            return [-22]
        self.__init__()
        self.n, self.m = n, m
        return [0]

    def duty(self, i, j, a, x, w, d):
        if i >= self.m or j >= self.m or a >= self.n:
            return [-2]
        if i == j or x not in (0, 1) or w not in range(1, 51) or d not in range(10001):
            return [-22]
        if len(self.owed) >= 16:
            return [-28]
        self.owed.append(dict(i=i, j=j, a=a, x=x, w=w, d=d))
        return [len(self.owed) - 1]

    def drop(self, k):
        if k not in range(len(self.owed)):
            return [-2]
        self.owed.pop(k)
        return [len(self.owed)]

    def told(self, k):
        if k not in range(len(self.owed)):
            return [-2]
        one = self.owed[k]
        return [int(self.stands(one))] + [one[name] for name in "ijaxwd"]

    def needs(self, a, b):
        if a >= self.n or b >= self.n:
            return [-2]
        if a == b:
            return [-22]
        if (a, b) in self.links:
            return [-17]
        if len(self.links) >= 12:
            return [-28]
        self.links.add((a, b))
        return [len(self.links)]

    def free(self, a, b):
        if a >= self.n or b >= self.n:
            return [-2]
        if (a, b) not in self.links:
            return [-6]
        self.links.remove((a, b))
        return [len(self.links)]

    def ck_may(self, s):
        return [int(self.may(s))] if s in range(2 ** self.n) else [-22]

    def breaks(self, s):
        if s not in range(2 ** self.n):
            return [-22]
        if not self.may(s):
            return [-33]
        return [sum(self.broken(s)), len(self.broken(s))]

    def ck_best(self):
        return [sum(self.broken(self.best()[0])), self.best()[0]]

    def most(self):
        acts = set().union(*(self.acts_of(s) for s in self.best()))
        return [len(acts), sum(2 ** a for a in acts)]

    def ways(self):
        return [len(self.best()), len(self.conducts())]

    def nth(self, k):
        found = self.best()
        return [len(self.acts_of(found[k])), found[k]] if k < len(found) else [-33]


def near(dice, top):
    """Mostly a number that's allowed, now and then one at the edge or far beyond it."""
    return dice.choice((top, top + 1, TOP)) if dice.random() < 0.04 else dice.randrange(top)


def random_duty(dice, n, m):
    i, j = dice.sample(range(m), 2) if dice.random() < 0.95 else (near(dice, m), near(dice, m))
    weight = dice.randint(1, 4) if dice.random() < 0.6 else dice.randint(0, 51)
    day = dice.choice((0, 1, 2, 3, 9999, 10000)) if dice.random() < 0.97 else 10001
    return duty(i, j, near(dice, n), near(dice, 2), weight, day)


def random_call(dice, n, m):
    sort = dice.random()
    if sort < 0.3:
        return random_duty(dice, n, m)
    if sort < 0.45:
        return needs(near(dice, n), near(dice, n))
    if sort < 0.5:
        return free(near(dice, n), near(dice, n))
    if sort < 0.55:
        return drop(near(dice, 16))
    if sort < 0.56:
        return start(dice.choice((0, 9)), m)
    return dice.choice((
        told(near(dice, 16)), may(near(dice, 2 ** n)), breaks(near(dice, 2 ** n)),
        best(), most(), ways(), nth(dice.choice((0, 0, 1, 2, 3, 7, TOP))),
    ))


class AgainstTheWords(unittest.TestCase):

    def test_random_lines(self):
        dice = random.Random(1)
        for turn in range(150):
            n, m = dice.randint(1, 6), dice.randint(2, 6)
            if turn % 15 == 0:
                n = dice.randint(7, 8)
            calls = [start(n, m)] + [random_call(dice, n, m) for place in range(60)]
            words = Words()
            for call, found in zip(calls, ask(calls)):
                self.assertEqual(found, words.answer(call), (call, calls))


def random_object(dice, n):
    """A start, some duties and some links, few enough that none is refused."""
    links = list(itertools.permutations(range(n), 2))
    dice.shuffle(links)
    return (
        [start(n, 3)]
        + [duty(*dice.sample(range(3), 2), dice.randrange(n), dice.randint(0, 1), dice.randint(1, 3), dice.randint(0, 4))
           for k in range(dice.randint(0, 16))]
        + [needs(a, b) for a, b in links[:dice.randint(0, 11)]]
    )


class WhatHolds(unittest.TestCase):

    def objects(self):
        dice = random.Random(2)
        for turn in range(120):
            n = dice.randint(1, 5)
            yield n, random_object(dice, n)

    def test_what_the_best_have_in_common(self):
        several = 0
        for n, given in self.objects():
            count = ask(given + [ways()])[-1][0]
            found = [answer[1] for answer in ask(given + [nth(k) for k in range(count)])[len(given):]]
            several += count > 1
            self.assertEqual(found, sorted(set(found)))
            for one, other in itertools.product(found, found):
                self.assertIn(one & other, found)
                self.assertIn(one | other, found)
            # so the least best one lies in all, and all that some do is best itself
            self.assertEqual(ask(given + [best()])[-1][1], found[0])
            self.assertEqual(ask(given + [most()])[-1][1], found[-1])
        self.assertGreater(several, 20)

    def test_no_less_is_broken_by_any_conduct(self):
        for n, given in self.objects():
            answers_of = ask(given + [best(), ways()] + [breaks(s) for s in range(2 ** n)])[len(given):]
            allowed = [answer[0] for answer in answers_of[2:] if answer != [-33]]
            self.assertEqual(min(allowed), answers_of[0][0])
            self.assertEqual([allowed.count(min(allowed)), len(allowed)], answers_of[1])

    def test_a_link_more_no_less_is_broken(self):
        more = 0
        for n, given in self.objects():
            for a, b in itertools.permutations(range(n), 2):
                found = ask(given + [best(), needs(a, b), best()])[-3:]
                self.assertLessEqual(found[0][0], found[2][0])
                more += found[0][0] < found[2][0]
        self.assertGreater(more, 20)

    def test_overtaken_counts_for_nothing(self):
        overtaken = 0
        for n, given in self.objects():
            rest = [best(), most(), ways()] + [breaks(s) for s in range(2 ** n)]
            wanted = ask(given + rest)[len(given):]
            count = sum(call[0] == 1 for call in given)
            marks = [answer[0] for answer in ask(given + [told(k) for k in range(count)])[len(given):]]
            for k in range(count):
                if marks[k] == 0:
                    overtaken += 1
                    self.assertEqual(ask(given + [drop(k)] + rest)[len(given) + 1:], wanted)
        self.assertGreater(overtaken, 20)

    def test_pairs_are_enough(self):
        free_of_clash = 0
        for n, given in self.objects():
            count = sum(call[0] == 1 for call in given)
            found = ask(given + [best()] + [told(k) for k in range(count)] + [may(s) for s in range(2 ** n)])
            found = found[len(given):]
            owed = [(answer[3], answer[4]) for answer in found[1:1 + count] if answer[0] == 1]
            allowed = [s for s in range(2 ** n) if found[1 + count + s] == [1]]
            clash = any(
                not any(s >> a & 1 == x and s >> b & 1 == y for s in allowed)
                for (a, x), (b, y) in itertools.combinations(owed, 2)
            )
            free_of_clash += not clash
            self.assertEqual(found[0][0] == 0, not clash)
        self.assertGreater(free_of_clash, 20)
