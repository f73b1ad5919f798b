"""The one object that all calls speak of: its acts, states, duties and links, and the changes made to these."""

from promisesheld.terms import MOST_BACK


class Duty:
    """State debtor owes it to state creditor that the act is done (owed is 1), or that it isn't (0)."""

    def __init__(self, debtor, creditor, act, owed, weight, day):
        self.debtor = debtor
        self.creditor = creditor
        self.act = act
        self.owed = owed
        self.weight = weight
        self.day = day


class Book:
    """How many acts and states there are, the duties in their order, and the links (act, the act it needs).

    A page is the duties and the links as they stood at one time. Each change puts new lists in the place of the
    old ones and changes none in itself, so that a page once kept stays as it was.
    """

    def __init__(self):
        self.begin(0, 0)

    def begin(self, acts, states):
        self.acts = acts
        self.states = states
        self.duties = []
        self.links = []
        self.pages_before = []
        self.pages_behind = []

    def page(self):
        return (self.duties, self.links)

    def turn_to(self, page):
        self.duties = page[0]
        self.links = page[1]

    def change(self, duties, links):
        before = self.pages_before + [self.page()]
        self.pages_before = before[-MOST_BACK:]
        self.pages_behind = []
        self.turn_to((duties, links))

    def take_back(self):
        self.pages_behind = self.pages_behind + [self.page()]
        self.turn_to(self.pages_before[-1])
        self.pages_before = self.pages_before[:-1]

    def do_again(self):
        self.pages_before = self.pages_before + [self.page()]
        self.turn_to(self.pages_behind[-1])
        self.pages_behind = self.pages_behind[:-1]

    def has_act(self, act):
        return act < self.acts

    def has_state(self, state):
        return state < self.states

    def has_duty(self, place):
        return place < len(self.duties)

    def is_set(self, conduct):
        return conduct >> self.acts == 0


def overtakes(other, duty):
    """The side that is owed doesn't matter: a later duty goes ahead of one that asks the same, too."""
    return (
        other.debtor == duty.debtor
        and other.creditor == duty.creditor
        and other.act == duty.act
        and other.day > duty.day
    )


def stands(duty, duties):
    return not any([overtakes(other, duty) for other in duties])


def standing(duties):
    return [duty for duty in duties if stands(duty, duties)]


def standing_places(duties):
    return [place for place, duty in enumerate(duties) if stands(duty, duties)]
