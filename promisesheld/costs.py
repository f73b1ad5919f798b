"""The calls that ask what it costs to keep one duty, and what it relieves to waive it."""

from promisesheld.book import standing_places, stands
from promisesheld.conducts import best_conducts, keeps, least_broken, weighed_conducts
from promisesheld.terms import NONE_THERE, NO_SUCH, OUT_OF_REACH


def refusal_of(book, k):
    """0 if duty k is there and stands."""
    if not book.has_duty(k):
        return NONE_THERE
    if not stands(book.duties[k], book.duties):
        return NO_SUCH
    return 0


def cost_of(duty, weighed):
    """Some conduct keeps it, since doing all acts and doing none may always be."""
    kept = [weight for conduct, weight in weighed if keeps(conduct, duty)]
    return min(kept) - least_broken(weighed)


def relief_of(duty, weighed):
    """Its weight alone is taken off, so whatever it overtakes stays overtaken."""
    waived = [weight if keeps(conduct, duty) else weight - duty.weight for conduct, weight in weighed]
    return least_broken(weighed) - min(waived)


def ck_can(book, k):
    refusal = refusal_of(book, k)
    if refusal < 0:
        return [refusal]
    duty = book.duties[k]
    kept = [conduct for conduct in best_conducts(book) if keeps(conduct, duty)]
    return [1 if kept else 0]


def ck_cost(book, k):
    refusal = refusal_of(book, k)
    if refusal < 0:
        return [refusal]
    return [cost_of(book.duties[k], weighed_conducts(book))]


def ck_relief(book, k):
    refusal = refusal_of(book, k)
    if refusal < 0:
        return [refusal]
    return [relief_of(book.duties[k], weighed_conducts(book))]


def ck_waive(book):
    places = standing_places(book.duties)
    if not places:
        return [OUT_OF_REACH]
    weighed = weighed_conducts(book)
    reliefs = [relief_of(book.duties[place], weighed) for place in places]
    greatest = max(reliefs)
    return [places[reliefs.index(greatest)], greatest]
