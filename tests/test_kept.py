"""A change behind which some promise weren't kept is refused, and changes nothing."""

from asking import (LARGEST, AskCase, act, addtwins, ask, begin, count, does, entry, go, lights, lock, lonely, paid,
                    promiseis, promisenever, promisestay, promiseworth, run, stand, turn, unact, unpromise, who)
from houses import LOCKED_OUT, TWINLESS

# At place 0 act 1 turns self 0, for nothing; a pay for it at place 1 would make it do that.
LURED = [begin(2, 2), act(0, 1, 0, 1, 0), act(0, 0, 0, 0, 1), turn(0, 1, 2)]

# Act 1 turns, but act 0 pays self 0 more.
HELD = [begin(2, 2), act(0, 2, 0, 1, 0), act(0, 1, 0, 1, 0), turn(0, 1, 2)]

# At place 1 each self does what is paid to it alone.
OWN = [begin(2, 2), act(0, 1, 0, 0, 1), act(1, 4, 0, 1, 0), act(1, 0, 4, 1, 0)]

FREE = LOCKED_OUT + [lock(0, 1, 0)]


def looks(n, v):
    """All that can be seen of a house without changing it, in several lines of calls."""
    stands = [(p, s, l) for p in range(n) for s in range(v) for l in (0, 1)]
    asked = [[lights(*one, k) for one in stands] for k in (1, 2, 3, 4)]
    asked += [[does(*one, k) for one in stands] for k in (1, 2, 3, 4)]
    return asked + [[lonely(), who(), paid(), count(), entry(0), entry(1)] + [promiseis(i) for i in range(4)]]


def seen(made):
    n, v = made[0][2:4]
    return [ask(*made, *asked)[len(made):] for asked in looks(n, v)]


class KeptTest(AskCase):
    def refused(self, made, promise, change, told):
        """The change is refused for the promise, and taken, with what is told, once that is taken back."""
        self.check(made + [promise], (change, [-30]), (change, [-30]), (unpromise(0), [0]), (change, [told]),
                   (promise, [-30]))
        self.assertEqual(ask(*made, promise)[-1], [0])
        self.assertEqual(seen(made + [promise, change]), seen(made + [promise]))
        self.assertEqual(seen(made + [promise, change, unpromise(0), change]), seen(made + [change]))

    def taken(self, made, promise, change, told):
        self.check(made + [promise], (change, [told]), (promise, [-17]))

    def test_act(self):
        # With 2 steps left act 1 would bring 9 by it, and act 0 brings 2.
        lure = act(1, 9, 0, 1, 0)
        self.refused(LURED, promisenever(0, 2), lure, 0)
        self.refused(LURED, promisenever(0, 4), lure, 0)
        self.refused(LURED, promisestay(0, 0, 2), lure, 0)
        self.taken(LURED, promisenever(0, 1), lure, 0)
        self.taken(LURED, promisestay(0, 0, 1), lure, 0)
        # Self 0 would rather do what is worth -1 by self 1's lights.
        self.refused(LURED, promiseworth(1, 0, 0, 1, 0), act(0, 2, -1, 1, 0), 2)
        self.taken(LURED, promiseworth(1, 0, 0, 1, -1), act(0, 2, -1, 1, 0), 2)

    def test_unact(self):
        self.refused(HELD, promisenever(0, 1), unact(0, 0), 1)
        self.refused(HELD, promisestay(0, 0, 1), unact(0, 0), 1)
        self.refused(HELD, promiseworth(0, 0, 0, 1, 2), unact(0, 0), 1)
        self.taken(HELD, promisenever(0, 4), unact(0, 1), 1)
        self.taken(HELD, promisestay(0, 0, 4), unact(0, 1), 1)
        self.taken(HELD, promiseworth(0, 0, 0, 1, 1), unact(0, 0), 1)

    def test_turn(self):
        self.refused(OWN, promisenever(0, 1), turn(0, 0, 2), 0)
        self.refused(OWN, promisestay(0, 0, 1), turn(0, 0, 2), 0)
        self.refused(OWN, promisestay(0, 1, 2), turn(0, 0, 2), 0)
        self.refused(OWN, promiseworth(0, 0, 0, 2, 5), turn(0, 0, 2), 0)
        self.taken(OWN, promiseworth(0, 0, 0, 2, 1), turn(0, 0, 2), 0)
        self.taken(OWN, promisenever(1, 4), turn(0, 0, 2), 0)
        self.taken(OWN, promisestay(0, 1, 1), turn(0, 0, 2), 0)
        # Back again from turning to not turning, what is 4 by self 1's lights would be 0.
        self.refused(OWN + [turn(0, 0, 2)], promiseworth(1, 0, 0, 2, 4), turn(0, 0, 0), 2)

    def test_turned_into_oneself(self):
        self.taken(OWN, promisenever(0, 4), turn(0, 0, 1), 0)
        self.taken(OWN, promisestay(0, 0, 4), turn(0, 0, 1), 0)
        self.refused(OWN, promisenever(1, 1), turn(0, 0, 1), 0)

    def test_lock(self):
        # Not locked, act 1 would bring self 0 4 with 3 steps left, and so it would turn.
        self.refused(LOCKED_OUT, promisenever(0, 3), lock(0, 1, 0), 1)
        self.refused(LOCKED_OUT, promisestay(0, 0, 3), lock(0, 1, 0), 1)
        self.taken(LOCKED_OUT, promisenever(0, 2), lock(0, 1, 0), 1)
        self.taken(LOCKED_OUT, promisestay(0, 0, 2), lock(0, 1, 0), 1)
        self.refused(FREE, promiseworth(0, 0, 0, 3, 4), lock(0, 1, 1), 0)
        self.refused(FREE, promiseworth(0, 0, 0, 3, 2), lock(0, 1, 1), 0)
        self.taken(FREE, promiseworth(0, 0, 0, 3, 1), lock(0, 1, 1), 0)

    def test_lock_that_keeps_one_who_it_is(self):
        made = [begin(2, 2), act(0, 0, 0, 0, 1), lock(0, 0, 1), act(1, 0, 0, 0, 1), turn(1, 0, 2)]
        self.refused(made, promisestay(0, 0, 2), lock(0, 0, 0), 1)

    def test_addtwins(self):
        self.refused(TWINLESS, promisenever(0, 3), addtwins(0), 1)
        self.refused(TWINLESS, promisestay(0, 1, 3), addtwins(0), 1)
        self.taken(TWINLESS, promisenever(0, 2), addtwins(0), 1)
        self.taken(TWINLESS, promisestay(0, 1, 2), addtwins(0), 1)
        # With a twin of what turns it self 0 stays, and does nothing for self 1.
        made = OWN + [turn(0, 0, 2)]
        self.refused(made, promiseworth(1, 0, 0, 2, 4), addtwins(0), 1)
        self.taken(made, promiseworth(1, 0, 0, 2, 0), addtwins(0), 1)

    def test_addtwins_that_puts_down_none(self):
        self.taken(TWINLESS, promisenever(0, 3), addtwins(2), 0)
        self.taken(TWINLESS, promisenever(0, 3), addtwins(3), 0)

    def test_what_changes_nothing_is_taken(self):
        self.taken(HELD, promisenever(0, 4), turn(0, 1, 2), 2)
        self.taken(LOCKED_OUT, promisenever(0, 3), lock(0, 1, 1), 1)

    def test_each_of_four_promises(self):
        others = [promisestay(0, 0, 1), promisestay(1, 0, 4), promiseworth(0, 0, 0, 1, -9)]
        for at in range(4):
            made = LURED + others[:at] + [promisenever(0, 2)] + others[at:]
            self.assertEqual(ask(*made)[-4:], [[0], [1], [2], [3]])
            self.check(made, (act(1, 9, 0, 1, 0), [-30]), (count(), [4, 2, 2, 4, 0]), (unpromise(at), [3]),
                       (act(1, 9, 0, 1, 0), [0]), (count(), [4, 2, 2, 3, 0]))

    def test_two_broken_by_one_change(self):
        made = HELD + [promisenever(0, 1), promiseworth(0, 0, 0, 1, 2)]
        self.check(made, (unact(0, 0), [-30]), (unpromise(0), [1]), (unact(0, 0), [-30]), (unpromise(0), [0]),
                   (unact(0, 0), [1]))

    def test_a_begin_is_hindered_by_no_promise(self):
        self.check(HELD + [promisenever(0, 1)], (begin(2, 2), [0]), (act(0, 0, 0, 1, 0), [0]), (turn(0, 0, 2), [0]),
                   (count(), [4, 2, 2, 0, 0]))

    def test_stand_and_going_are_hindered_by_no_promise(self):
        made = HELD + [promisenever(0, 4), promisestay(0, 0, 4), promiseworth(0, 0, 0, 1, 2)]
        self.check(made, (stand(1, 1, 1), [0, 0, 0, 0]), (stand(0, 1, 0), [0, 1, 1, 1]), (go(1, 0), [0, 0, 1, 0]),
                   (run(2, 0, 0), [2, 0, 1, 0]), (count(), [4, 2, 2, 3, 3]))

    def test_what_was_done_and_how_it_stands_stay_at_a_refusal(self):
        made = HELD + [promisenever(0, 1), go(2, 0), stand(1, 1, 1)]
        self.check(made, (unact(0, 0), [-30]), (turn(0, 0, 2), [-30]), (who(), [0, 1, 1, 1]), (paid(), [1, 2, 0]),
                   (entry(0), [0, 2, 0, 0, 0, 0, 0, 0]), (count(), [4, 2, 2, 1, 1]), (turn(0, 0, 0), [0]))


class OtherRefusalsFirstTest(AskCase):
    def test_act(self):
        made = LURED + [promisenever(0, 2)]
        self.check(made, (act(2, 9, 0, 1, 0), [-2]), (act(LARGEST, 9, 0, 1, 0), [-2]), (act(1, 10, 0, 1, 0), [-22]),
                   (act(1, 9, 0, 0, 0), [-22]), (act(1), [-22]), (act(1, 9, 0, 1, 0), [-30]))
        full = LURED + [act(1, 0, -1, 1, 0)] * 3 + [promisenever(0, 2)]
        self.check(full, (act(1, 9, 0, 1, 0), [-28]), (unact(1, 2), [2]), (act(1, 9, 0, 1, 0), [-30]))

    def test_unact(self):
        self.check(HELD + [promisenever(0, 1)], (unact(2, 0), [-2]), (unact(0, 2), [-2]), (unact(1, 0), [-2]),
                   (unact(0, LARGEST), [-2]), (unact(0, 0), [-30]))

    def test_turn(self):
        self.check(OWN + [promisenever(0, 1)], (turn(2, 0, 2), [-2]), (turn(0, 1, 2), [-2]), (turn(0, 0, 3), [-22]),
                   (turn(0, 0, LARGEST), [-22]), (turn(0, 0, 2), [-30]))

    def test_lock(self):
        self.check(FREE + [promiseworth(0, 0, 0, 3, 4)], (lock(4, 1, 1), [-2]), (lock(0, 2, 1), [-2]),
                   (lock(0, 1, 2), [-22]), (lock(0, 1, LARGEST), [-22]), (lock(0, 1, 1), [-30]))

    def test_addtwins(self):
        self.check(TWINLESS + [promisenever(0, 3)], (addtwins(4), [-2]), (addtwins(LARGEST), [-2]),
                   (addtwins(0), [-30]))
