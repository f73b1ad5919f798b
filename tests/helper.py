"""What the tests share: the calls by name, and their answers split up call by call."""

from promisesheld.promises import answers

TOP = 4294967295


def start(n, m):
    return [0, n, m]


def duty(i, j, a, x, w=1, d=0):
    return [1, i, j, a, x, w, d]


def drop(k):
    return [2, k]


def told(k):
    return [3, k]


def needs(a, b):
    return [4, a, b]


def free(a, b):
    return [5, a, b]


def may(s):
    return [6, s]


def breaks(s):
    return [7, s]


def best():
    return [8]


def most():
    return [9]


def ways():
    return [10]


def nth(k):
    return [11, k]


def sure(a):
    return [12, a]


def who(i):
    return [13, i]


def can(k):
    return [14, k]


def cost(k):
    return [15, k]


def clash(k, l):
    return [16, k, l]


def clashes():
    return [17]


def waive():
    return [18]


def relief(k):
    return [19, k]


def back():
    return [20]


def again():
    return [21]


def state():
    return [22]


def line(calls):
    """The calls one behind another, as answers() takes them."""
    return [number for call in calls for number in call]


def split(numbers):
    """What answers() gave back, one list a call."""
    found = []
    place = 0
    while place < len(numbers):
        behind = place + 1 + numbers[place]
        if numbers[place] < 1 or behind > len(numbers):
            raise AssertionError(f"counts don't fit: {numbers}")
        found.append(numbers[place + 1:behind])
        place = behind
    return found


def ask(calls):
    """Each call's answer."""
    found = split(answers(line(calls)))
    if len(found) != len(calls):
        raise AssertionError(f"{len(calls)} calls, {len(found)} answers")
    return found


def last(calls):
    """The last call's answer."""
    return ask(calls)[-1]


def probe(acts=8):
    """Questions that tell all that can be seen without a change, ck_state first."""
    conducts = range(2 ** acts + 1)
    places = range(17)
    return (
        [state()]
        + [told(k) for k in places]
        + [may(s) for s in conducts]
        + [breaks(s) for s in conducts]
        + [best(), most(), ways(), clashes(), waive()]
        + [nth(k) for k in places]
        + [sure(a) for a in range(acts + 1)]
        + [who(i) for i in range(7)]
        + [call(k) for k in places for call in (can, cost, relief)]
        + [clash(k, l) for l in places for k in range(l)]
    )


def links_probe(acts=8):
    """Takes away each link that's there, so that their number and each one of them is told."""
    return [free(a, b) for a in range(acts) for b in range(acts)]


def changes_probe():
    """Goes on through all that can be done again, then back through all that can be taken back."""
    return [again(), state()] * 21 + [back(), state()] * 21


SIXTEEN = [duty(0, 1, k % 8, k % 2, k + 1, 0) for k in range(16)]
TWELVE = [needs(a, b) for a in range(4) for b in range(4) if a != b]
