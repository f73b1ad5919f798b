"""The calls that ask of the book and change nothing. Each gives back the number it answers, then its out."""

from promisesheld.book import standing, stands
from promisesheld.conducts import (
    best_conducts, broken_by, conducts_that_may_be, count_acts, may_be, weight_of,
)
from promisesheld.terms import NONE_THERE, NOT_ALLOWED, OUT_OF_REACH


def ck_told(book, k):
    if not book.has_duty(k):
        return [NONE_THERE]
    duty = book.duties[k]
    mark = 1 if stands(duty, book.duties) else 0
    return [mark, duty.debtor, duty.creditor, duty.act, duty.owed, duty.weight, duty.day]


def ck_may(book, s):
    if not book.is_set(s):
        return [NOT_ALLOWED]
    return [1 if may_be(s, book.links) else 0]


def ck_breaks(book, s):
    if not book.is_set(s):
        return [NOT_ALLOWED]
    if not may_be(s, book.links):
        return [OUT_OF_REACH]
    broken = broken_by(s, standing(book.duties))
    return [weight_of(broken), len(broken)]


def ck_best(book):
    best = best_conducts(book)[0]
    return [weight_of(broken_by(best, standing(book.duties))), best]


def ck_most(book):
    together = 0
    for conduct in best_conducts(book):
        together = together | conduct
    return [count_acts(together), together]


def ck_ways(book):
    return [len(best_conducts(book)), len(conducts_that_may_be(book))]


def ck_nth(book, k):
    best = best_conducts(book)
    if k >= len(best):
        return [OUT_OF_REACH]
    return [count_acts(best[k]), best[k]]
