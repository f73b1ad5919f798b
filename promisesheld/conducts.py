"""Conducts: which may be, what each breaks, and which are best."""

from promisesheld.book import standing
from promisesheld.terms import MOST_ACTS


def does(conduct, act):
    """1 or 0, so that it can be held against what a duty owes."""
    return (conduct >> act) & 1


def count_acts(conduct):
    return sum([does(conduct, act) for act in range(MOST_ACTS)])


def may_be(conduct, links):
    for link in links:
        if does(conduct, link[0]) > does(conduct, link[1]):
            return False
    return True


def conducts_that_may_be(book):
    return [conduct for conduct in range(1 << book.acts) if may_be(conduct, book.links)]


def keeps(conduct, duty):
    return does(conduct, duty.act) == duty.owed


def broken_by(conduct, duties):
    return [duty for duty in duties if not keeps(conduct, duty)]


def weight_of(duties):
    return sum([duty.weight for duty in duties])


def weighed_conducts(book):
    """Each conduct that may be, with how much it breaks; never empty, since doing nothing may always be."""
    duties = standing(book.duties)
    return [(conduct, weight_of(broken_by(conduct, duties))) for conduct in conducts_that_may_be(book)]


def least_broken(weighed):
    return min([weight for conduct, weight in weighed])


def best_conducts(book):
    """As their numbers rise."""
    weighed = weighed_conducts(book)
    least = least_broken(weighed)
    return [conduct for conduct, weight in weighed if weight == least]
