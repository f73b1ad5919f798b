"""The calls that ask which duties can't both be kept."""

from promisesheld.book import standing_places
from promisesheld.conducts import does, may_be
from promisesheld.terms import NONE_THERE, NOT_ALLOWED


def least_with(act, links):
    """The conduct that may be and does the act, and nothing that isn't needed for it."""
    conduct = 1 << act
    while not may_be(conduct, links):
        for link in links:
            if does(conduct, link[0]):
                conduct = conduct | (1 << link[1])
    return conduct


def clash(one, other, links):
    # Doing all acts, and doing none, may always be: these keep any two duties of the same side.
    if one.owed == other.owed:
        return False
    done = one.act if one.owed == 1 else other.act
    left = other.act if one.owed == 1 else one.act
    # Each conduct that does the one act does all of the least such conduct, so that one alone is looked at.
    return does(least_with(done, links), left) == 1


def clashing_pairs(book):
    """Of the duties that stand, the lesser number first, in rising order."""
    places = standing_places(book.duties)
    pairs = []
    for place in places:
        behind = [other for other in places if other > place]
        for other in behind:
            if clash(book.duties[place], book.duties[other], book.links):
                pairs.append((place, other))
    return pairs


def ck_clash(book, k, l):
    if not (book.has_duty(k) and book.has_duty(l)):
        return [NONE_THERE]
    if k == l:
        return [NOT_ALLOWED]
    return [1 if clash(book.duties[k], book.duties[l], book.links) else 0]


def ck_clashes(book):
    pairs = clashing_pairs(book)
    if not pairs:
        return [0, 0, 0]
    return [len(pairs), pairs[0][0], pairs[0][1]]
