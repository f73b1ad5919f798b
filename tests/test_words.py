"""Many lines of calls, held against the document's words said a second time."""

import itertools
import random
import unittest

from tests.helper import (
    TOP, again, ask, back, best, breaks, can, clash, clashes, cost, drop, duty, free, may, most, needs, nth, relief,
    start, state, sure, told, waive, ways, who,
)


class Words:
    """The words of the document, over sets of acts and dicts, as plainly as they go.

    Nothing is kept of how things were: to take a change back, all changes but that one are made anew.
    """

    def __init__(self):
        self.n = self.m = 0
        self.made = []
        self.lasting = 0
        self.taken_back = []
        self.clear()

    def clear(self):
        self.owed = []
        self.links = set()

    def stands(self, one):
        return all(
            (other["i"], other["j"], other["a"]) != (one["i"], one["j"], one["a"]) or other["d"] <= one["d"]
            for other in self.owed
        )

    def acts_of(self, s):
        return {a for a in range(self.n) if s // 2 ** a % 2}

    def may(self, s):
        done = self.acts_of(s)
        return all(b in done for a, b in self.links if a in done)

    def keeps(self, s, one):
        return (one["a"] in self.acts_of(s)) == (one["x"] == 1)

    def broken(self, s):
        return [one["w"] for one in self.owed if self.stands(one) and not self.keeps(s, one)]

    def conducts(self):
        return [s for s in range(2 ** self.n) if self.may(s)]

    def best(self):
        least = min(sum(self.broken(s)) for s in self.conducts())
        return [s for s in self.conducts() if sum(self.broken(s)) == least]

    def answer(self, call):
        found = self.answer_of(call)
        if call[0] in (1, 2, 4, 5) and found[0] >= 0:
            self.made.append(call)
            self.taken_back.clear()
            self.lasting = max(self.lasting, len(self.made) - 20)
        return found

    def answer_of(self, call):
        return [
            self.start, self.duty, self.drop, self.told, self.needs, self.free, self.ck_may, self.breaks,
            self.ck_best, self.most, self.ways, self.nth, self.sure, self.who, self.can, self.cost, self.clash,
            self.clashes, self.waive, self.relief, self.back, self.again, self.state,
        ][call[0]](*call[1:])

    def start(self, n, m):
        if n not in range(1, 9) or m not in range(2, 7):
            return [-22]
        self.__init__()
        self.n, self.m = n, m
        return [0]

    def duty(self, i, j, a, x, w, d):
        if i >= self.m or j >= self.m or a >= self.n:
            return [-2]
        if i == j or x not in (0, 1) or w not in range(1, 51) or d not in range(10001):
            return [-22]
        if len(self.owed) >= 16:
            return [-28]
        self.owed.append(dict(i=i, j=j, a=a, x=x, w=w, d=d))
        return [len(self.owed) - 1]

    def drop(self, k):
        if k not in range(len(self.owed)):
            return [-2]
        self.owed.pop(k)
        return [len(self.owed)]

    def told(self, k):
        if k not in range(len(self.owed)):
            return [-2]
        one = self.owed[k]
        return [int(self.stands(one))] + [one[name] for name in "ijaxwd"]

    def needs(self, a, b):
        if a >= self.n or b >= self.n:
            return [-2]
        if a == b:
            return [-22]
        if (a, b) in self.links:
            return [-17]
        if len(self.links) >= 12:
            return [-28]
        self.links.add((a, b))
        return [len(self.links)]

    def free(self, a, b):
        if a >= self.n or b >= self.n:
            return [-2]
        if (a, b) not in self.links:
            return [-6]
        self.links.remove((a, b))
        return [len(self.links)]

    def ck_may(self, s):
        return [int(self.may(s))] if s in range(2 ** self.n) else [-22]

    def breaks(self, s):
        if s not in range(2 ** self.n):
            return [-22]
        if not self.may(s):
            return [-33]
        return [sum(self.broken(s)), len(self.broken(s))]

    def ck_best(self):
        return [sum(self.broken(self.best()[0])), self.best()[0]]

    def most(self):
        acts = set().union(*(self.acts_of(s) for s in self.best()))
        return [len(acts), sum(2 ** a for a in acts)]

    def ways(self):
        return [len(self.best()), len(self.conducts())]

    def nth(self, k):
        found = self.best()
        return [len(self.acts_of(found[k])), found[k]] if k < len(found) else [-33]

    def sure(self, a):
        if a >= self.n:
            return [-2]
        does = [a in self.acts_of(s) for s in self.best()]
        return [2 if all(does) else 1 if any(does) else 0]

    def who(self, i):
        if i >= self.m:
            return [-2]
        first = self.best()[0]
        found = [one["w"] for one in self.owed if one["i"] == i and self.stands(one) and not self.keeps(first, one)]
        return [sum(found), len(found)]

    def missing(self, k):
        """The refusal of ck_can, ck_cost and ck_relief."""
        if k not in range(len(self.owed)):
            return [-2]
        return [] if self.stands(self.owed[k]) else [-6]

    def can(self, k):
        return self.missing(k) or [int(any(self.keeps(s, self.owed[k]) for s in self.best()))]

    def cost(self, k):
        return self.missing(k) or [
            min(sum(self.broken(s)) for s in self.conducts() if self.keeps(s, self.owed[k])) - self.ck_best()[0]
        ]

    def relief(self, k):
        if self.missing(k):
            return self.missing(k)
        weight = self.owed[k]["w"]
        before = self.ck_best()[0]
        self.owed[k]["w"] = 0
        after = self.ck_best()[0]
        self.owed[k]["w"] = weight
        return [before - after]

    def waive(self):
        found = [(-self.relief(k)[0], k) for k in range(len(self.owed)) if not self.missing(k)]
        return [min(found)[1], -min(found)[0]] if found else [-33]

    def clashing(self, k, l):
        return not any(self.keeps(s, self.owed[k]) and self.keeps(s, self.owed[l]) for s in self.conducts())

    def clash(self, k, l):
        if k not in range(len(self.owed)) or l not in range(len(self.owed)):
            return [-2]
        return [-22] if k == l else [int(self.clashing(k, l))]

    def clashes(self):
        places = [k for k in range(len(self.owed)) if self.stands(self.owed[k])]
        found = [pair for pair in itertools.combinations(places, 2) if self.clashing(*pair)]
        return [len(found), *min(found, default=(0, 0))]

    def make_anew(self):
        self.clear()
        for call in self.made:
            self.answer_of(call)

    def back(self):
        if len(self.made) == self.lasting:
            return [-2]
        self.taken_back.append(self.made.pop())
        self.make_anew()
        return [len(self.made) - self.lasting]

    def again(self):
        if not self.taken_back:
            return [-2]
        self.made.append(self.taken_back.pop())
        self.make_anew()
        return [len(self.taken_back)]

    def state(self):
        changes = [len(self.made) - self.lasting, len(self.taken_back)]
        return [len(self.owed), self.n, self.m, len(self.links), *changes]


def near(dice, top):
    """Mostly a number that's allowed, now and then one at the edge or far beyond it."""
    return dice.choice((top, top + 1, TOP)) if dice.random() < 0.04 else dice.randrange(top)


def random_duty(dice, n, m):
    i, j = dice.sample(range(m), 2) if dice.random() < 0.95 else (near(dice, m), near(dice, m))
    weight = dice.randint(1, 4) if dice.random() < 0.6 else dice.randint(0, 51)
    day = dice.choice((0, 1, 2, 3, 9999, 10000)) if dice.random() < 0.97 else 10001
    return duty(i, j, near(dice, n), near(dice, 2), weight, day)


def random_question(dice, n, m):
    k, l = near(dice, 9), near(dice, 9)
    return dice.choice((
        told(k), may(near(dice, 2 ** n)), breaks(near(dice, 2 ** n)), best(), most(), ways(),
        nth(dice.choice((0, 0, 1, 2, 3, 7, TOP))), sure(near(dice, n)), who(near(dice, m)), can(k), cost(k),
        clash(k, l), clash(l, k), clashes(), waive(), relief(k), state(),
    ))


def random_call(dice, n, m):
    sort = dice.random()
    if sort < 0.25:
        return random_duty(dice, n, m)
    if sort < 0.35:
        return needs(near(dice, n), near(dice, n))
    if sort < 0.4:
        return free(near(dice, n), near(dice, n))
    if sort < 0.45:
        return drop(near(dice, 12))
    if sort < 0.46:
        return start(dice.choice((0, 9)), m)
    if sort < 0.465:
        return start(n, m)
    if sort < 0.55:
        return back()
    if sort < 0.6:
        return again()
    return random_question(dice, n, m)


class AgainstTheWords(unittest.TestCase):

    def check(self, calls):
        words = Words()
        for place, (call, found) in enumerate(zip(calls, ask(calls))):
            self.assertEqual(found, words.answer(call), (call, calls[:place]))

    def test_random_lines(self):
        dice = random.Random(1)
        for turn in range(200):
            n, m = dice.randint(1, 5), dice.randint(2, 6)
            if turn % 20 == 0:
                n = dice.randint(6, 8)
            self.check([start(n, m)] + [random_call(dice, n, m) for place in range(60)])

    def test_random_changes(self):
        # long lines of small objects, so that more than twenty changes come to be, and many are taken back
        dice = random.Random(3)
        for turn in range(100):
            calls = [start(3, 3)]
            while len(calls) < 200:
                sort = dice.random()
                if sort < 0.12:
                    calls += [back()] * dice.randint(1, 25)
                elif sort < 0.2:
                    calls += [again()] * dice.randint(1, 25)
                elif sort < 0.7:
                    calls += [random_duty(dice, 3, 3), drop(near(dice, 4)), state()]
                else:
                    calls += [needs(near(dice, 3), near(dice, 3)), free(near(dice, 3), near(dice, 3)), told(0)]
            self.check(calls)
