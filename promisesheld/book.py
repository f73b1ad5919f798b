"""The one object that all calls speak of: its acts, states, duties and links."""


class Duty:
    """State debtor owes it to state creditor that the act is done (owed is 1), or that it isn't (0)."""

    def __init__(self, debtor, creditor, act, owed, weight, day):
        self.debtor = debtor
        self.creditor = creditor
        self.act = act
        self.owed = owed
        self.weight = weight
        self.day = day


class Book:
    """How many acts and states there are, the duties in their order, and the links (act, the act it needs)."""

    def __init__(self):
        self.begin(0, 0)

    def begin(self, acts, states):
        self.acts = acts
        self.states = states
        self.duties = []
        self.links = []

    def has_act(self, act):
        return act < self.acts

    def has_state(self, state):
        return state < self.states

    def has_duty(self, place):
        return place < len(self.duties)

    def is_set(self, conduct):
        return conduct >> self.acts == 0


def overtakes(other, duty):
    """The side that is owed doesn't matter: a later duty goes ahead of one that asks the same, too."""
    return (
        other.debtor == duty.debtor
        and other.creditor == duty.creditor
        and other.act == duty.act
        and other.day > duty.day
    )


def stands(duty, duties):
    return not any([overtakes(other, duty) for other in duties])


def standing(duties):
    return [duty for duty in duties if stands(duty, duties)]
