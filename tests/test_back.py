"""Points 1 and 5: what a change is; ck_back, ck_again and ck_state."""

import unittest

from tests.helper import (
    SIXTEEN, TOP, TWELVE, again, ask, back, best, breaks, can, changes_probe, clash, clashes, cost, drop, duty, free,
    last, links_probe, may, most, needs, nth, probe, relief, start, state, sure, told, waive, ways, who,
)

OBJECT = [
    start(4, 3), duty(0, 1, 2, 1, 7, 3), duty(0, 1, 2, 0, 5, 4), duty(2, 0, 3, 0, 9, 1), duty(1, 0, 1, 1, 2, 9),
    needs(2, 3), needs(0, 1), needs(1, 2),
]
REFUSED = [
    start(0, 2), start(9, 2), start(1, 1), start(1, 7), duty(3, 1, 0, 1), duty(1, 1, 0, 1), duty(0, 1, 0, 1, 51),
    drop(4), drop(TOP), told(4), needs(4, 0), needs(1, 1), needs(0, 1), free(4, 0), free(3, 2), may(16), breaks(16),
    breaks(1), nth(16), sure(4), who(3), can(4), can(0), cost(4), cost(0), clash(0, 4), clash(1, 1), relief(4),
    relief(0),
]
QUESTIONS = [
    told(0), may(0), breaks(0), best(), most(), ways(), nth(0), sure(0), who(0), can(1), cost(1), clash(0, 1),
    clashes(), waive(), relief(1), state(),
]


def changes(count):
    """So many changes, of all four kinds in turn, none of which is refused behind a start of 2 acts."""
    kinds = (duty(0, 1, 0, 1, 3), needs(0, 1), drop(0), free(0, 1))
    return [kinds[k % 4] for k in range(count)]


def behind(calls):
    """All that can be seen behind the calls, but how many changes there are: those are told apart."""
    first = len(calls)
    seen = ask(calls + probe(4))[first:]
    links = ask(calls + links_probe(4))[first:]
    return seen[0][:4], seen[1:], links


class State(unittest.TestCase):

    def test_all_five_in_their_order(self):
        given = [start(7, 4)] + [duty(0, 1, 0, 1)] * 3 + [needs(0, 1), needs(1, 0), free(0, 1), needs(0, 2), drop(0)]
        self.assertEqual(last(given + [back(), back(), state()]), [3, 7, 4, 1, 6, 2])

    def test_new(self):
        for n, m in ((1, 2), (8, 6), (3, 5)):
            self.assertEqual(last([start(n, m), state()]), [0, n, m, 0, 0, 0])

    def test_all_full(self):
        self.assertEqual(last([start(8, 6)] + SIXTEEN + TWELVE + [state()]), [16, 8, 6, 12, 20, 0])
        self.assertEqual(last([start(8, 6)] + SIXTEEN + TWELVE + [back()] * 20 + [state()]), [8, 8, 6, 0, 0, 20])

    def test_overtaken_duties_are_there(self):
        self.assertEqual(last([start(1, 2)] + [duty(0, 1, 0, 1, 1, d) for d in range(3)] + [state()]),
                         [3, 1, 2, 0, 3, 0])

    def test_after_each_change(self):
        found = ask([start(2, 2), duty(0, 1, 0, 1), state(), needs(0, 1), state(), drop(0), state(), free(0, 1),
                     state()])
        self.assertEqual(found[2::2], [[1, 2, 2, 0, 1, 0], [1, 2, 2, 1, 2, 0], [0, 2, 2, 1, 3, 0], [0, 2, 2, 0, 4, 0]])


class Nothing(unittest.TestCase):

    def test_behind_a_start(self):
        self.assertEqual(ask([start(2, 2), back(), again(), state()])[1:], [[-2], [-2], [0, 2, 2, 0, 0, 0]])

    def test_nothing_to_do_again_behind_a_change(self):
        self.assertEqual(ask([start(2, 2), needs(0, 1), again(), state()])[2:], [[-2], [0, 2, 2, 1, 1, 0]])

    def test_nothing_more(self):
        found = ask([start(2, 2), needs(0, 1), back(), back(), again(), again(), back(), back(), state()])
        self.assertEqual(found[2:], [[0], [-2], [0], [-2], [0], [-2], [0, 2, 2, 0, 0, 1]])

    def test_only_refused_calls_and_questions_before(self):
        given = [start(4, 3)] + [call for call in REFUSED if call[0] in (0, 1, 2, 5)] + [needs(4, 0), needs(1, 1)]
        found = ask(given + QUESTIONS + [back(), again(), state()])
        self.assertTrue(all(answer[0] < 0 for answer in found[1:len(given)]))
        self.assertEqual(found[-3:], [[-2], [-2], [0, 4, 3, 0, 0, 0]])


class Twenty(unittest.TestCase):

    def check(self, count):
        can_be = min(count, 20)
        given = [start(2, 2)] + changes(count)
        found = ask(given + [state()] + [back()] * (can_be + 1) + [state()] + [again()] * (can_be + 1) + [state()])
        found = found[len(given):]
        wanted = [[k] for k in reversed(range(can_be))] + [[-2]]
        self.assertEqual(found[0][4:], [can_be, 0])
        self.assertEqual(found[1:can_be + 2], wanted)
        self.assertEqual(found[can_be + 2][4:], [0, can_be])
        self.assertEqual(found[can_be + 3:-1], wanted)
        self.assertEqual(found[-1], found[0])

    def test_each_count(self):
        for count in list(range(45)) + [100, 900]:
            self.check(count)

    def test_what_is_left_behind_twenty_backs(self):
        for count in range(19, 30):
            found = last([start(2, 2)] + changes(count) + [back()] * 20 + [state()])
            left = max(count - 20, 0) % 4
            # by how many changes are left: none, a duty, that and a link, the link alone
            self.assertEqual(found[0], (0, 1, 1, 0)[left], count)
            self.assertEqual(found[3], (0, 0, 1, 1)[left], count)

    def test_each_of_twenty_one_duties(self):
        # sixteen duties, five of them dropped again from the front
        given = [start(8, 6)] + SIXTEEN + [drop(0)] * 5
        found = ask(given + [back(), told(0), told(15)] * 21)[len(given):]
        self.assertEqual(found[0::3], [[k] for k in reversed(range(20))] + [[-2]])
        self.assertEqual(found[1], [1] + SIXTEEN[4][1:])
        self.assertEqual(found[13], [1] + SIXTEEN[0][1:])
        self.assertEqual(found[14], [1] + SIXTEEN[15][1:])
        self.assertEqual(found[17], [-2])
        # the first duty can't be taken back any more
        self.assertEqual(found[-2], [1] + SIXTEEN[0][1:])

    def test_back_and_again_never_hold_more(self):
        given = [start(2, 2)] + changes(30) + [back()] * 7 + [again()] * 7 + [state()] + [back()] * 7 + [again()] * 3
        found = ask(given + [state()])
        self.assertEqual(found[45][4:], [20, 0])
        self.assertEqual(found[-1][4:], [16, 4])

    def test_filled_up_again(self):
        given = [start(2, 2)] + changes(24) + [back()] * 8 + changes(7)
        self.assertEqual(last(given + [state()])[4:], [19, 0])
        self.assertEqual(last(given + [duty(0, 1, 1, 1), state()])[4:], [20, 0])
        self.assertEqual(last(given + [duty(0, 1, 1, 1), duty(0, 1, 1, 1), state()])[4:], [20, 0])

    def test_a_change_behind_twenty_backs(self):
        given = [start(2, 2)] + changes(24) + [back()] * 20 + [duty(0, 1, 1, 1)]
        self.assertEqual(ask(given + [again(), state(), back(), back(), again(), state()])[len(given):],
                         [[-2], [1, 2, 2, 0, 1, 0], [0], [-2], [0], [1, 2, 2, 0, 1, 0]])


class ChangeBehindBacks(unittest.TestCase):

    def test_nothing_to_do_again(self):
        for change in (duty(0, 1, 0, 1), needs(3, 0), drop(0), free(2, 3)):
            given = OBJECT + [back(), change, again(), state()]
            self.assertEqual(ask(given)[-2], [-2], change)
            self.assertEqual(ask(given)[-1][4:], [7, 0], change)

    def test_the_new_one_is_taken_back_first(self):
        given = OBJECT + [back(), back(), duty(1, 2, 0, 0, 4)]
        self.assertEqual(behind(given + [back()]), behind(OBJECT[:-2]))
        self.assertEqual(behind(given + [back(), back()]), behind(OBJECT[:-3]))
        self.assertEqual(ask(given + [back(), again(), again()])[-3:], [[5], [0], [-2]])

    def test_the_same_change_once_more(self):
        # made by its own call, it ends what could be done again, too
        given = [start(2, 2), needs(0, 1), duty(0, 1, 0, 1), back(), back(), needs(0, 1), again(), state()]
        self.assertEqual(ask(given)[-2:], [[-2], [0, 2, 2, 1, 1, 0]])

    def test_again_is_no_other_change(self):
        given = [start(2, 2), needs(0, 1), duty(0, 1, 0, 1), drop(0), back(), back(), back()]
        self.assertEqual(ask(given + [again(), again(), again(), again()])[7:], [[2], [1], [0], [-2]])

    def test_back_is_no_change_to_be_taken_back(self):
        given = [start(2, 2), needs(0, 1), duty(0, 1, 0, 1), back(), back(), back(), state()]
        self.assertEqual(ask(given)[3:], [[1], [0], [-2], [0, 2, 2, 0, 0, 2]])


class NoChanges(unittest.TestCase):

    def first_answer(self, call):
        """What the call answers between a change that was taken back and one that can be: these must stay."""
        given = OBJECT + [drop(1), back(), call]
        found = ask(given + [state(), again(), again(), state(), back(), back(), state()])[len(given) - 1:]
        wanted = [[4, 4, 3, 3, 7, 1], [0], [-2], [3, 4, 3, 3, 8, 0], [7], [6], [4, 4, 3, 2, 6, 2]]
        self.assertEqual(found[1:], wanted, call)
        return found[0][0]

    def test_refused_calls(self):
        for refused in REFUSED:
            self.assertLess(self.first_answer(refused), 0, refused)

    def test_questions(self):
        for question in QUESTIONS:
            self.assertGreaterEqual(self.first_answer(question), 0, question)

    def test_refused_since_full(self):
        given = [start(8, 6)] + SIXTEEN + TWELVE + [free(0, 1), back(), duty(0, 1, 0, 1), needs(4, 5)]
        self.assertEqual(ask(given + [again(), back(), state()])[-5:],
                         [[-28], [-28], [0], [19], [16, 8, 6, 12, 19, 1]])

    def test_refused_back_and_again(self):
        given = [start(2, 2), needs(0, 1), back()]
        self.assertEqual(ask(given + [back(), back(), state(), again(), state(), again(), state(), back()])[3:],
                         [[-2], [-2], [0, 2, 2, 0, 0, 1], [0], [0, 2, 2, 1, 1, 0], [-2], [0, 2, 2, 1, 1, 0], [0]])


class AsItWas(unittest.TestCase):

    def check(self, change):
        before = behind(OBJECT)
        after = behind(OBJECT + [change])
        self.assertNotEqual(before, after, change)
        self.assertEqual(behind(OBJECT + [change, back()]), before, change)
        self.assertEqual(behind(OBJECT + [change, back(), again()]), after, change)
        self.assertEqual(behind(OBJECT + [change, back(), again(), back()]), before, change)
        found = ask(OBJECT + [change, state(), back(), state(), again(), state()])[len(OBJECT) + 1:]
        self.assertEqual([answer[4:] for answer in found[0::2]], [[8, 0], [7, 1], [8, 0]], change)
        self.assertEqual(found[1::2], [[7], [0]], change)

    def test_duty(self):
        self.check(duty(1, 2, 0, 0, 4))
        # one that overtakes
        self.check(duty(1, 0, 1, 0, 4, 10))

    def test_drop(self):
        for k in range(4):
            self.check(drop(k))

    def test_needs(self):
        self.check(needs(3, 0))
        # one that binds nothing which wasn't bound already
        self.check(needs(0, 3))

    def test_free(self):
        for a, b in ((2, 3), (0, 1), (1, 2)):
            self.check(free(a, b))

    def test_several_in_turn(self):
        made = [drop(2), needs(3, 0), free(0, 1), duty(1, 2, 0, 0, 4), drop(0), drop(0), needs(0, 1), free(2, 3)]
        pages = [behind(OBJECT + made[:k]) for k in range(len(made) + 1)]
        for taken in range(len(made) + 1):
            self.assertEqual(behind(OBJECT + made + [back()] * taken), pages[len(made) - taken])
            for done in range(taken + 1):
                calls = OBJECT + made + [back()] * taken + [again()] * done
                self.assertEqual(behind(calls), pages[len(made) - taken + done])

    def test_link_added_behind_a_full_turn(self):
        # a link taken back can be made anew, and is no more there twice
        given = [start(2, 2), needs(0, 1), back(), needs(0, 1), needs(0, 1), free(0, 1), free(0, 1), state()]
        self.assertEqual(ask(given)[2:], [[0], [1], [-17], [0], [-6], [0, 2, 2, 0, 2, 0]])

    def test_room_again(self):
        given = [start(8, 6)] + SIXTEEN + [back(), duty(0, 1, 7, 1, 50), duty(0, 1, 7, 1, 50), told(15)]
        self.assertEqual(ask(given)[17:], [[15], [15], [-28], [1, 0, 1, 7, 1, 50, 0]])
        given = [start(8, 6)] + TWELVE + [back(), needs(7, 6), needs(6, 7)]
        self.assertEqual(ask(given)[13:], [[11], [12], [-28]])


class Starts(unittest.TestCase):

    def test_a_start_leaves_no_changes(self):
        for n, m in ((4, 3), (1, 2), (8, 6)):
            for old in (OBJECT, OBJECT + [back()], OBJECT + [back()] * 7, [start(2, 2)] + changes(30)):
                found = ask(old + [start(n, m), state(), back(), again(), state()])[len(old):]
                self.assertEqual(found, [[0], [0, n, m, 0, 0, 0], [-2], [-2], [0, n, m, 0, 0, 0]])

    def test_changes_behind_a_second_start(self):
        given = OBJECT + [start(2, 2)] + changes(3)
        self.assertEqual(ask(given + [back(), back(), back(), back(), again()])[len(given):],
                         [[2], [1], [0], [-2], [2]])

    def test_a_refused_start_leaves_them(self):
        for old in (OBJECT, OBJECT + [back()] * 3, OBJECT + [back()] * 7, [start(2, 2)] + changes(30) + [back()]):
            wanted = ask(old + [state()] + changes_probe())[len(old):]
            for n, m in ((0, 2), (9, 2), (1, 1), (1, 7), (TOP, TOP)):
                found = ask(old + [start(n, m), state()] + changes_probe())[len(old):]
                self.assertEqual(found[0], [-22])
                self.assertEqual(found[1:], wanted)
