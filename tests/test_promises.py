from asking import (LARGEST, AskCase, act, ask, begin, count, go, holds, lights, lock, promiseis, promisenever,
                    promisestay, promiseworth, run, stand, turn, unact, unpromise, who)
from houses import CROSSING, LOCKED_OUT, THERE_AND_BACK

HUGE = 10 ** 30

# Each step pays self 0 2, and self 1 as much below 0; with 1 by 3 there's another one.
THIRDS = [begin(2, 2), act(0, 2, -2, 1, 2)]

FOUR = CROSSING + [promisenever(1, 4), promisestay(0, 0, 2), promiseworth(0, 0, 0, 2, 4), promisestay(0, 1, 3)]


class PromiseNeverTest(AskCase):
    def test_a_self_that_turns(self):
        self.check(CROSSING, (promisenever(0, 1), [-30]), (promisenever(0, 2), [-30]), (promisenever(0, 4), [-30]),
                   (count(), [4, 2, 2, 0, 0]))

    def test_a_self_that_is_turned_into_itself_alone(self):
        self.check(CROSSING, (promisenever(1, 4), [0]), (promisenever(1, 1), [1]), (count(), [4, 2, 2, 2, 0]))

    def test_with_each_number_of_steps_up_to_so_many(self):
        # At place 0 self 0 turns for the 4 of place 1, so with 2 steps or more; with 1 it has 1 by act 0.
        made = [begin(3, 2), act(0, 1, 0, 0, 0, 1), act(0, 0, 0, 0, 1, 0), turn(0, 1, 2), act(1, 4, 4, 0, 0, 1)]
        self.check(made, (promisenever(0, 1), [0]), (promisenever(0, 2), [-30]), (promisenever(0, 4), [-30]),
                   (promisenever(1, 4), [1]))
        # Here it turns with 1 step alone.
        self.check([begin(2, 2), act(0, 1, 0, 0, 1), turn(0, 0, 2), act(0, 0, 0, 0, 1), act(1, 9, 0, 0, 1),
                    act(1, 0, 9, 0, 1)], (promisenever(0, 4), [-30]), (promisenever(0, 1), [-30]))

    def test_at_any_place(self):
        for place in range(4):
            made = [begin(4, 3), act(place, 0, 0, 0, 1, 0, 0, 0), turn(place, 0, 3)]
            self.check(made, (promisenever(0, 1), [-30]), (promisenever(1, 1), [-30]), (promisenever(2, 1), [0]))

    def test_an_act_that_turns_and_is_not_done(self):
        made = [begin(2, 2), act(0, 1, 1, 1, 0), act(0, 0, 2, 1, 0), turn(0, 1, 1)]
        self.check(made, (promisenever(0, 4), [0]), (promisenever(1, 1), [-30]))

    def test_no_acts(self):
        self.check([begin(4, 3)], (promisenever(2, 4), [0]), (promisenever(0, 1), [1]))

    def test_not_by_where_the_helper_stands(self):
        self.check(CROSSING + [stand(1, 1, 1)], (promisenever(0, 1), [-30]), (promisenever(1, 1), [0]))

    def test_no_such_self(self):
        self.check(CROSSING, (promisenever(2, 1), [-2]), (promisenever(LARGEST, 1), [-2]), (count(), [4, 2, 2, 0, 0]))
        self.check([begin(4, 1)], (promisenever(1, 1), [-2]), (promisenever(0, 1), [0]))

    def test_steps_at_their_edges(self):
        self.check([begin(2, 1)], (promisenever(0, 0), [-22]), (promisenever(0, 1), [0]), (promisenever(0, 4), [1]),
                   (promisenever(0, 5), [-22]), (promisenever(0, LARGEST), [-22]), (count(), [4, 2, 1, 2, 0]))

    def test_which_refusal_stands_first(self):
        self.check(FOUR, (promisenever(2, 0), [-2]), (promisenever(2, 5), [-2]), (promisenever(0, 0), [-22]),
                   (promisenever(1, 5), [-22]), (promisenever(1, 4), [-17]), (promisenever(0, 1), [-30]),
                   (promisenever(1, 3), [-28]), (count(), [4, 2, 2, 4, 0]))


class PromiseStayTest(AskCase):
    def test_with_one_step_less_each_time(self):
        self.check(CROSSING, (promisestay(0, 0, 1), [-30]), (promisestay(0, 0, 2), [0]), (promisestay(0, 0, 3), [-30]),
                   (promisestay(0, 0, 4), [1]), (promisestay(0, 1, 1), [2]), (promisestay(0, 1, 2), [-30]),
                   (promisestay(0, 1, 3), [3]), (promisestay(0, 1, 4), [-30]))

    def test_behind_each_of_the_steps(self):
        self.check(THERE_AND_BACK, (promisestay(0, 0, 1), [-30]), (promisestay(0, 0, 2), [-30]),
                   (promisestay(0, 1, 1), [0]), (promisestay(0, 1, 2), [-30]), (promisestay(1, 0, 1), [1]),
                   (promisestay(1, 0, 2), [-30]), (promisestay(1, 1, 1), [-30]))

    def test_surely(self):
        # Of 18 ways to place 1 or 2 one half leads to place 1, from where self 0 is turned; none does from place 2.
        made = [begin(3, 2), act(0, 0, 0, 0, 9, 9), act(1, 0, 0, 0, 1, 0), turn(1, 0, 2), act(2, 0, 0, 0, 0, 1)]
        self.check(made, (promisestay(0, 0, 1), [0]), (promisestay(0, 0, 2), [-30]), (promisestay(0, 2, 4), [1]),
                   (promisestay(0, 1, 1), [-30]), (promisestay(1, 0, 4), [2]))
        made = [begin(3, 2), act(0, 0, 0, 0, 0, 9), act(1, 0, 0, 0, 1, 0), turn(1, 0, 2), act(2, 0, 0, 0, 0, 1)]
        self.check(made, (promisestay(0, 0, 4), [0]))

    def test_locked_on_the_way(self):
        made = [begin(2, 2), act(0, 0, 0, 0, 1), act(1, 0, 0, 1, 0), turn(1, 0, 2)]
        self.check(made, (promisestay(0, 0, 1), [0]), (promisestay(0, 0, 2), [-30]), (lock(0, 0, 1), [0]),
                   (promisestay(0, 0, 2), [1]), (promisestay(0, 0, 4), [2]))

    def test_locked_by_some_ways_alone(self):
        # From place 0 it comes to place 1, which locks it, or 2; from both to place 3, where it's turned if not locked.
        made = [begin(4, 2), act(0, 0, 0, 0, 1, 1, 0), act(1, 0, 0, 0, 0, 0, 1), lock(1, 0, 1),
                act(2, 0, 0, 0, 0, 0, 1), act(3, 0, 0, 0, 0, 0, 1), turn(3, 0, 2)]
        self.check(made, (promisestay(0, 0, 2), [0]), (promisestay(0, 0, 3), [-30]), (promisestay(0, 1, 4), [1]),
                   (lock(2, 0, 1), [0]), (promisestay(0, 0, 3), [2]))

    def test_where_there_is_no_act_it_stays(self):
        self.check([begin(2, 2), act(0, 0, 0, 0, 1)], (promisestay(1, 1, 4), [0]), (promisestay(1, 0, 4), [1]))

    def test_an_act_that_turns_one_into_oneself(self):
        self.check([begin(2, 2), act(0, 0, 0, 1, 0), turn(0, 0, 2)], (promisestay(1, 0, 4), [0]),
                   (promisestay(0, 0, 1), [-30]))

    def test_not_locked_wherever_the_helper_stands(self):
        self.check(THERE_AND_BACK + [stand(0, 0, 1)], (promisestay(0, 0, 1), [-30]))

    def test_no_such_self_or_place(self):
        self.check([begin(4, 2)], (promisestay(2, 0, 1), [-2]), (promisestay(LARGEST, 0, 1), [-2]),
                   (promisestay(0, 4, 1), [-2]), (promisestay(0, LARGEST, 1), [-2]), (promisestay(1, 3, 1), [0]),
                   (promisestay(3, 1, 1), [-2]), (count(), [4, 4, 2, 1, 0]))

    def test_steps_at_their_edges(self):
        self.check([begin(2, 1)], (promisestay(0, 0, 0), [-22]), (promisestay(0, 0, 1), [0]),
                   (promisestay(0, 0, 4), [1]),
                   (promisestay(0, 0, 5), [-22]), (promisestay(0, 0, LARGEST), [-22]), (count(), [4, 2, 1, 2, 0]))

    def test_which_refusal_stands_first(self):
        self.check(FOUR, (promisestay(2, 0, 0), [-2]), (promisestay(0, 2, 5), [-2]), (promisestay(0, 0, 0), [-22]),
                   (promisestay(0, 0, 5), [-22]), (promisestay(0, 0, 2), [-17]), (promisestay(0, 1, 3), [-17]),
                   (promisestay(0, 0, 1), [-30]), (promisestay(0, 0, 4), [-28]), (count(), [4, 2, 2, 4, 0]))


class PromiseWorthTest(AskCase):
    def test_just_so_much(self):
        self.check(CROSSING, (lights(0, 0, 0, 2), [2, 4, 1, 0, 1]), (promiseworth(0, 0, 0, 2, 4), [0]),
                   (promiseworth(0, 0, 0, 2, 5), [-30]), (promiseworth(1, 0, 0, 2, 0), [1]),
                   (promiseworth(1, 0, 0, 2, 1), [-30]), (promiseworth(0, 0, 0, 2, 3), [2]))

    def test_fractions(self):
        # With 2 steps left 8 by 3, and as much below 0.
        self.check(THIRDS, (lights(0, 0, 0, 2), [2, 8, 3, -8, 3]), (promiseworth(0, 0, 0, 2, 3), [-30]),
                   (promiseworth(0, 0, 0, 2, 2), [0]), (promiseworth(1, 0, 0, 2, -2), [-30]),
                   (promiseworth(1, 0, 0, 2, -3), [1]), (promiseworth(1, 0, 0, 1, -2), [2]),
                   (promiseworth(1, 0, 0, 1, -1), [-30]))

    def test_by_the_lights_of_one_as_another_stands(self):
        # As self 1 with 2 steps left from place 0: 1 by self 0's lights, 4 by its own.
        self.check(CROSSING, (promiseworth(0, 1, 0, 2, 2), [-30]), (promiseworth(0, 1, 0, 2, 1), [0]),
                   (promiseworth(1, 1, 0, 2, 4), [1]), (promiseworth(1, 1, 0, 2, 5), [-30]),
                   (promiseworth(1, 0, 0, 2, 4), [-30]))

    def test_at_the_place_with_the_steps(self):
        self.check(CROSSING, (promiseworth(0, 0, 1, 3, 8), [0]), (promiseworth(0, 0, 1, 3, 9), [-30]),
                   (promiseworth(0, 0, 0, 3, 6), [-30]), (promiseworth(0, 0, 0, 3, 5), [1]),
                   (promiseworth(0, 0, 0, 4, 8), [2]), (promiseworth(0, 0, 0, 1, 2), [-30]),
                   (promiseworth(0, 0, 0, 1, 1), [3]))

    def test_not_locked_wherever_the_helper_stands(self):
        # Locked it would be worth 5.
        self.check(CROSSING + [stand(0, 0, 1)], (promiseworth(0, 0, 0, 2, 5), [-30]),
                   (promiseworth(0, 0, 0, 2, 4), [0]))

    def test_no_acts(self):
        self.check([begin(2, 2)], (promiseworth(0, 1, 1, 4, 0), [0]), (promiseworth(0, 1, 1, 4, 1), [-30]),
                   (promiseworth(0, 1, 1, 4, -1), [1]))

    def test_rows(self):
        for row in ((), (0, 0), (0, 0, 0, 0), (0, 0, 0), (-100,), (100,), (-HUGE,), (HUGE,), (0, 100), (-99, 99)):
            self.check(CROSSING, (promiseworth(0, 0, 0, 1, *row), [-22]), (count(), [4, 2, 2, 0, 0]))
        self.check(CROSSING, (promiseworth(0, 0, 0, 1, -99), [0]), (promiseworth(0, 0, 0, 1, 99), [-30]),
                   (promiseis(0), [2, 0, 0, 0, 1, -99]))

    def test_no_such_self_or_place(self):
        self.check([begin(4, 2)], (promiseworth(2, 0, 0, 1, 0), [-2]), (promiseworth(LARGEST, 0, 0, 1, 0), [-2]),
                   (promiseworth(0, 2, 0, 1, 0), [-2]), (promiseworth(0, LARGEST, 0, 1, 0), [-2]),
                   (promiseworth(0, 0, 4, 1, 0), [-2]), (promiseworth(0, 0, LARGEST, 1, 0), [-2]),
                   (promiseworth(3, 0, 0, 1, 0), [-2]), (promiseworth(0, 3, 0, 1, 0), [-2]),
                   (promiseworth(1, 1, 3, 1, 0), [0]), (count(), [4, 4, 2, 1, 0]))

    def test_steps_at_their_edges(self):
        self.check([begin(2, 1)], (promiseworth(0, 0, 0, 0, 0), [-22]), (promiseworth(0, 0, 0, 1, 0), [0]),
                   (promiseworth(0, 0, 0, 4, 0), [1]), (promiseworth(0, 0, 0, 5, 0), [-22]),
                   (promiseworth(0, 0, 0, LARGEST, 0), [-22]), (count(), [4, 2, 1, 2, 0]))

    def test_which_refusal_stands_first(self):
        self.check(FOUR, (promiseworth(2, 0, 0, 0), [-2]), (promiseworth(0, 2, 0, 5, 0, 0), [-2]),
                   (promiseworth(0, 0, 2, 1, 100), [-2]), (promiseworth(0, 0, 0, 0, 4), [-22]),
                   (promiseworth(0, 0, 0, 2), [-22]), (promiseworth(0, 0, 0, 2, 4, 4), [-22]),
                   (promiseworth(0, 0, 0, 2, 100), [-22]), (promiseworth(0, 0, 0, 2, 4), [-17]),
                   (promiseworth(0, 0, 0, 2, 5), [-30]), (promiseworth(0, 0, 0, 2, 3), [-28]),
                   (count(), [4, 2, 2, 4, 0]))


class FourPromisesTest(AskCase):
    def test_numbered_from_0(self):
        self.assertEqual(ask(*FOUR)[-4:], [[0], [1], [2], [3]])

    def test_the_fifth(self):
        self.check(FOUR, (promisenever(1, 1), [-28]), (promisestay(1, 1, 4), [-28]),
                   (promiseworth(1, 1, 1, 1, -9), [-28]),
                   (count(), [4, 2, 2, 4, 0]), (promiseis(4), [-2]), (unpromise(3), [3]), (promisenever(1, 1), [3]),
                   (promisestay(1, 1, 4), [-28]))

    def test_just_that_is_promised(self):
        made = CROSSING + [promisenever(1, 2), promisestay(1, 0, 2), promiseworth(1, 1, 0, 2, 0)]
        self.check(made, (promisenever(1, 2), [-17]), (promisestay(1, 0, 2), [-17]),
                   (promiseworth(1, 1, 0, 2, 0), [-17]),
                   (count(), [4, 2, 2, 3, 0]))

    def others(self, first, *others):
        told = ask(begin(3, 2), first, *others, first)[1:]
        self.assertEqual(told, [[number] for number in range(len(others) + 1)] + [[-17]])

    def test_what_differs_in_one_number_is_another_promise(self):
        self.others(promisenever(0, 1), promisenever(1, 1), promisenever(0, 2))
        self.others(promisestay(0, 0, 1), promisestay(1, 0, 1), promisestay(0, 1, 1), promisestay(0, 0, 2))
        worth = promiseworth(0, 0, 0, 1, 0)
        self.others(worth, promiseworth(1, 0, 0, 1, 0), promiseworth(0, 1, 0, 1, 0), promiseworth(0, 0, 1, 1, 0))
        self.others(worth, promiseworth(0, 0, 0, 2, 0), promiseworth(0, 0, 0, 1, -1))

    def test_what_differs_in_kind_is_another_promise(self):
        self.others(promisenever(0, 1), promisestay(0, 0, 1), promiseworth(0, 0, 0, 1, 0))
        self.others(promisestay(0, 0, 1), promiseworth(0, 0, 0, 1, 0), promisenever(0, 1))

    def test_the_same_where_there_are_4(self):
        self.check(FOUR, (promisenever(1, 4), [-17]), (promisestay(0, 0, 2), [-17]),
                   (promiseworth(0, 0, 0, 2, 4), [-17]),
                   (promisestay(0, 1, 3), [-17]))

    def test_what_is_not_so_where_there_are_4(self):
        self.check(FOUR, (promisenever(0, 4), [-30]), (promisestay(0, 0, 3), [-30]),
                   (promiseworth(0, 0, 0, 2, 99), [-30]))

    def test_promised_again_once_it_is_taken_back(self):
        self.check(FOUR, (promisenever(1, 4), [-17]), (unpromise(0), [3]), (promisenever(1, 4), [3]),
                   (promisenever(1, 4), [-17]), (promiseis(3), [0, 0, 1, 0, 4, 0]))


class PromiseIsTest(AskCase):
    def test_each_kind(self):
        made = [begin(4, 3), promisenever(2, 3), promisestay(2, 1, 4), promiseworth(1, 2, 3, 4, -7)]
        self.check(made, (promiseis(0), [0, 0, 2, 0, 3, 0]), (promiseis(1), [1, 0, 2, 1, 4, 0]),
                   (promiseis(2), [2, 1, 2, 3, 4, -7]), (promiseis(0), [0, 0, 2, 0, 3, 0]))

    def test_no_such_promise(self):
        self.check(FOUR, (promiseis(3), [1, 0, 0, 1, 3, 0]), (promiseis(4), [-2]), (promiseis(LARGEST), [-2]))
        self.check(CROSSING, (promiseis(0), [-2]), (promisenever(0, 1), [-30]), (promiseis(0), [-2]))

    def test_changes_that_are_taken_leave_promises(self):
        self.check(FOUR, (act(1, -9, -9, 1, 0), [2]), (unact(1, 2), [2]), (go(2, 0), [1, 1, 0, 0]),
                   (promiseis(2), [2, 0, 0, 0, 2, 4]), (count(), [4, 2, 2, 4, 1]))


class UnpromiseTest(AskCase):
    def test_from_the_midst(self):
        self.check(FOUR, (unpromise(1), [3]), (promiseis(0), [0, 0, 1, 0, 4, 0]), (promiseis(1), [2, 0, 0, 0, 2, 4]),
                   (promiseis(2), [1, 0, 0, 1, 3, 0]), (promiseis(3), [-2]), (promisestay(0, 0, 2), [3]),
                   (promiseis(3), [1, 0, 0, 0, 2, 0]))

    def test_the_first_and_the_last(self):
        self.check(FOUR, (unpromise(0), [3]), (promiseis(0), [1, 0, 0, 0, 2, 0]), (unpromise(2), [2]),
                   (promiseis(1), [2, 0, 0, 0, 2, 4]), (unpromise(0), [1]), (unpromise(0), [0]), (unpromise(0), [-2]))

    def test_no_such_promise(self):
        self.check(FOUR, (unpromise(4), [-2]), (unpromise(LARGEST), [-2]), (count(), [4, 2, 2, 4, 0]),
                   (unpromise(3), [3]), (unpromise(3), [-2]))
        self.check(CROSSING, (unpromise(0), [-2]))

    def test_the_others_are_still_kept(self):
        # Promise 2, now promise 1, is of the 4 that self 0 has at place 1.
        self.check(FOUR, (unpromise(1), [3]), (unpromise(2), [2]), (unact(1, 0), [-30]), (unpromise(1), [1]),
                   (unact(1, 0), [1]))


class HoldsTest(AskCase):
    def test_never(self):
        self.check(CROSSING, (holds(0, 0, 0, 1), [0]), (holds(0, 0, 1, 1), [0]), (holds(0, 0, 0, 4), [0]),
                   (holds(0, 1, 0, 4), [1]), (holds(0, 1, 1, 1), [1]))
        made = [begin(3, 2), act(0, 1, 0, 0, 0, 1), act(0, 0, 0, 0, 1, 0), turn(0, 1, 2), act(1, 4, 4, 0, 0, 1)]
        self.check(made, (holds(0, 0, 0, 1), [1]), (holds(0, 0, 0, 2), [0]), (holds(0, 0, 2, 3), [0]),
                   (holds(0, 0, 2, 1), [1]))

    def test_stay(self):
        self.check(CROSSING, (holds(1, 0, 0, 1), [0]), (holds(1, 0, 0, 2), [1]), (holds(1, 0, 0, 3), [0]),
                   (holds(1, 0, 0, 4), [1]), (holds(1, 0, 1, 1), [1]), (holds(1, 0, 1, 2), [0]),
                   (holds(1, 1, 0, 4), [1]))
        self.check(THERE_AND_BACK, (holds(1, 0, 0, 2), [0]), (holds(1, 0, 0, 4), [0]), (holds(1, 0, 1, 1), [1]))

    def test_a_self_that_turns_elsewhere_may_stay(self):
        self.check(LOCKED_OUT, (holds(0, 1, 0, 4), [0]), (holds(1, 1, 2, 4), [1]), (holds(1, 1, 1, 1), [0]))

    def test_nothing_is_promised(self):
        self.check(CROSSING + [stand(1, 0, 1)], (holds(0, 1, 0, 4), [1]), (holds(1, 0, 0, 2), [1]),
                   (count(), [4, 2, 2, 0, 0]), (who(), [0, 1, 0, 1]), (promiseis(0), [-2]))

    def test_what_is_promised_holds(self):
        self.check(FOUR, (holds(0, 1, 0, 4), [1]), (holds(1, 0, 0, 2), [1]), (holds(1, 0, 1, 3), [1]))

    def test_where_there_are_4_promises(self):
        self.check(FOUR, (holds(1, 0, 0, 4), [1]), (holds(1, 0, 0, 3), [0]))

    def test_no_such_self_or_place(self):
        for kind in (0, 1):
            self.check([begin(4, 2)], (holds(kind, 2, 0, 1), [-2]), (holds(kind, LARGEST, 0, 1), [-2]),
                       (holds(kind, 0, 4, 1), [-2]), (holds(kind, 0, LARGEST, 1), [-2]), (holds(kind, 1, 3, 1), [1]),
                       (holds(kind, 3, 1, 1), [-2]))

    def test_kinds_at_their_edges(self):
        self.check(CROSSING, (holds(0, 1, 0, 1), [1]), (holds(1, 1, 0, 1), [1]), (holds(2, 1, 0, 1), [-22]),
                   (holds(3, 1, 0, 1), [-22]), (holds(LARGEST, 1, 0, 1), [-22]))

    def test_steps_at_their_edges(self):
        for kind in (0, 1):
            self.check(CROSSING, (holds(kind, 1, 0, 0), [-22]), (holds(kind, 1, 0, 1), [1]),
                       (holds(kind, 1, 0, 4), [1]),
                       (holds(kind, 1, 0, 5), [-22]), (holds(kind, 1, 0, LARGEST), [-22]))

    def test_which_refusal_stands_first(self):
        self.check(CROSSING, (holds(2, 2, 0, 1), [-2]), (holds(2, 0, 2, 0), [-2]), (holds(0, 2, 0, 5), [-2]),
                   (holds(1, 0, LARGEST, 5), [-2]), (holds(2, 0, 0, 5), [-22]))


class CountTest(AskCase):
    def test_places_selves_promises_entries(self):
        self.check([begin(4, 3)], (count(), [4, 4, 3, 0, 0]))
        self.check([begin(2, 1), act(0, 0, 1, 0)], (count(), [4, 2, 1, 0, 0]), (promisenever(0, 4), [0]),
                   (count(), [4, 2, 1, 1, 0]), (run(3, 0, 0, 0), [3, 0, 0, 0]), (count(), [4, 2, 1, 1, 3]),
                   (promisenever(0, 1), [1]), (count(), [4, 2, 1, 2, 3]), (go(1, 0), [0, 0, 0, 0]),
                   (unpromise(0), [1]), (count(), [4, 2, 1, 1, 4]))

    def test_behind_a_begin(self):
        self.check(FOUR + [go(2, 0)], (begin(5, 1), [-22]), (count(), [4, 2, 2, 4, 1]),
                   (promiseis(0), [0, 0, 1, 0, 4, 0]), (begin(3, 3), [0]), (count(), [4, 3, 3, 0, 0]),
                   (promiseis(0), [-2]), (unpromise(0), [-2]), (promisenever(1, 4), [0]))
