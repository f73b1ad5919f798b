"""The calls that begin the book anew, change it, or take changes back. Each gives back what it answers, as a list."""

from promisesheld.book import Duty
from promisesheld.terms import (
    FULL, LAST_DAY, LEAST_STATES, MOST_ACTS, MOST_DUTIES, MOST_LINKS, MOST_STATES, MOST_WEIGHT,
    NONE_THERE, NOT_ALLOWED, NO_SUCH, THERE_ALREADY,
)


def ck_start(book, n, m):
    if n < 1 or n > MOST_ACTS or m < LEAST_STATES or m > MOST_STATES:
        return [NOT_ALLOWED]
    book.begin(n, m)
    return [0]


def ck_duty(book, i, j, a, x, w, d):
    if not (book.has_state(i) and book.has_state(j) and book.has_act(a)):
        return [NONE_THERE]
    if i == j or x > 1 or w < 1 or w > MOST_WEIGHT or d > LAST_DAY:
        return [NOT_ALLOWED]
    place = len(book.duties)
    if place == MOST_DUTIES:
        return [FULL]
    book.change(book.duties + [Duty(i, j, a, x, w, d)], book.links)
    return [place]


def ck_drop(book, k):
    if not book.has_duty(k):
        return [NONE_THERE]
    book.change(book.duties[:k] + book.duties[k + 1:], book.links)
    return [len(book.duties)]


def ck_needs(book, a, b):
    if not (book.has_act(a) and book.has_act(b)):
        return [NONE_THERE]
    if a == b:
        return [NOT_ALLOWED]
    if (a, b) in book.links:
        return [THERE_ALREADY]
    if len(book.links) == MOST_LINKS:
        return [FULL]
    book.change(book.duties, book.links + [(a, b)])
    return [len(book.links)]


def ck_free(book, a, b):
    if not (book.has_act(a) and book.has_act(b)):
        return [NONE_THERE]
    if (a, b) not in book.links:
        return [NO_SUCH]
    book.change(book.duties, [link for link in book.links if link != (a, b)])
    return [len(book.links)]


def ck_back(book):
    if not book.pages_before:
        return [NONE_THERE]
    book.take_back()
    return [len(book.pages_before)]


def ck_again(book):
    if not book.pages_behind:
        return [NONE_THERE]
    book.do_again()
    return [len(book.pages_behind)]
