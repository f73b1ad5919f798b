"""The calls that ask what there is and which conducts are best. Each gives back its number, then its out."""

from promisesheld.book import standing, stands
from promisesheld.conducts import (
    best_conducts, broken_by, conducts_that_may_be, count_acts, does, may_be, weight_of,
)
from promisesheld.terms import NONE_THERE, NOT_ALLOWED, OUT_OF_REACH


def ck_told(book, k):
    if not book.has_duty(k):
        return [NONE_THERE]
    duty = book.duties[k]
    mark = 1 if stands(duty, book.duties) else 0
    return [mark, duty.debtor, duty.creditor, duty.act, duty.owed, duty.weight, duty.day]


def ck_may(book, s):
    if not book.is_set(s):
        return [NOT_ALLOWED]
    return [1 if may_be(s, book.links) else 0]


def ck_breaks(book, s):
    if not book.is_set(s):
        return [NOT_ALLOWED]
    if not may_be(s, book.links):
        return [OUT_OF_REACH]
    broken = broken_by(s, standing(book.duties))
    return [weight_of(broken), len(broken)]


def ck_best(book):
    best = best_conducts(book)[0]
    return [weight_of(broken_by(best, standing(book.duties))), best]


def ck_most(book):
    together = 0
    for conduct in best_conducts(book):
        together = together | conduct
    return [count_acts(together), together]


def ck_ways(book):
    return [len(best_conducts(book)), len(conducts_that_may_be(book))]


def ck_nth(book, k):
    best = best_conducts(book)
    if k >= len(best):
        return [OUT_OF_REACH]
    return [count_acts(best[k]), best[k]]


def ck_sure(book, a):
    if not book.has_act(a):
        return [NONE_THERE]
    done = [does(conduct, a) for conduct in best_conducts(book)]
    # The least is 1 just when all do it, the greatest just when some do.
    return [min(done) + max(done)]


def ck_who(book, i):
    if not book.has_state(i):
        return [NONE_THERE]
    owed = [duty for duty in standing(book.duties) if duty.debtor == i]
    broken = broken_by(best_conducts(book)[0], owed)
    return [weight_of(broken), len(broken)]


def ck_state(book):
    back = len(book.pages_before)
    again = len(book.pages_behind)
    return [len(book.duties), book.acts, book.states, len(book.links), back, again]
