"""A line of calls on one new object, told as whole numbers, and what they answer."""

from promisesheld.book import Book
from promisesheld.changes import ck_again, ck_back, ck_drop, ck_duty, ck_free, ck_needs, ck_start
from promisesheld.clashes import ck_clash, ck_clashes
from promisesheld.costs import ck_can, ck_cost, ck_relief, ck_waive
from promisesheld.questions import (
    ck_best, ck_breaks, ck_may, ck_most, ck_nth, ck_state, ck_sure, ck_told, ck_ways, ck_who,
)

START = 0
DUTY = 1
DROP = 2
TOLD = 3
NEEDS = 4
FREE = 5
MAY = 6
BREAKS = 7
BEST = 8
MOST = 9
WAYS = 10
NTH = 11
SURE = 12
WHO = 13
CAN = 14
COST = 15
CLASH = 16
CLASHES = 17
WAIVE = 18
RELIEF = 19
BACK = 20
AGAIN = 21

# How many whole numbers stand behind each call's own number, by that number; the last is ck_state.
TAKES = (2, 6, 1, 1, 2, 2, 1, 1, 0, 0, 0, 1, 1, 1, 1, 1, 2, 0, 0, 1, 0, 0, 0)


def answer_change(book, call, given):
    if call == START:
        return ck_start(book, given[0], given[1])
    if call == DUTY:
        return ck_duty(book, given[0], given[1], given[2], given[3], given[4], given[5])
    if call == DROP:
        return ck_drop(book, given[0])
    if call == NEEDS:
        return ck_needs(book, given[0], given[1])
    if call == FREE:
        return ck_free(book, given[0], given[1])
    if call == BACK:
        return ck_back(book)
    return ck_again(book)


def answer_cost(book, call, given):
    if call == CAN:
        return ck_can(book, given[0])
    if call == COST:
        return ck_cost(book, given[0])
    if call == CLASH:
        return ck_clash(book, given[0], given[1])
    if call == CLASHES:
        return ck_clashes(book)
    if call == WAIVE:
        return ck_waive(book)
    return ck_relief(book, given[0])


def answer_question(book, call, given):
    if call == TOLD:
        return ck_told(book, given[0])
    if call == MAY:
        return ck_may(book, given[0])
    if call == BREAKS:
        return ck_breaks(book, given[0])
    if call == BEST:
        return ck_best(book)
    if call == MOST:
        return ck_most(book)
    if call == WAYS:
        return ck_ways(book)
    if call == NTH:
        return ck_nth(book, given[0])
    if call == SURE:
        return ck_sure(book, given[0])
    if call == WHO:
        return ck_who(book, given[0])
    # TAKES lets no other call come this far.
    return ck_state(book)


def answer_call(book, call, given):
    if call in (START, DUTY, DROP, NEEDS, FREE, BACK, AGAIN):
        return answer_change(book, call, given)
    if call in (CAN, COST, CLASH, CLASHES, WAIVE, RELIEF):
        return answer_cost(book, call, given)
    return answer_question(book, call, given)


def answers(calls):
    """For each call how many numbers it answers, then these: the number, and its out unless it's a refusal."""
    book = Book()
    told = []
    place = 0
    while place < len(calls):
        call = calls[place]
        behind = place + 1 + TAKES[call]
        answer = answer_call(book, call, calls[place + 1:behind])
        told.append(len(answer))
        told.extend(answer)
        place = behind
    return told
