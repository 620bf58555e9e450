from asking import (LARGEST, AskCase, act, addtwins, became, begin, count, entry, go, ifgo, lock, paid, promisenever,
                    run, stand, turn, unact, unpromise, who)
from houses import CROSSING, ENDING, THERE_AND_BACK


class EntryTest(AskCase):
    def test_the_act_the_steps_and_how_it_stood_and_stands(self):
        self.check(CROSSING, (go(2, 0), [1, 1, 0, 0]), (entry(0), [1, 2, 0, 0, 0, 1, 0, 0]), (go(1, 0), [0, 0, 0, 0]),
                   (entry(1), [0, 1, 1, 0, 0, 0, 0, 0]), (go(1, 0), [0, 1, 1, 0]), (go(4, 0), [1, 0, 1, 0]),
                   (entry(2), [0, 1, 0, 0, 0, 1, 1, 0]), (entry(3), [1, 4, 1, 1, 0, 0, 1, 0]),
                   (entry(0), [1, 2, 0, 0, 0, 1, 0, 0]))

    def test_locked_by_the_act_that_turns(self):
        self.check([begin(2, 2), act(0, 0, 0, 0, 1), turn(0, 0, 2), lock(0, 0, 1)], (go(3, 0), [0, 1, 1, 1]),
                   (entry(0), [0, 3, 0, 0, 0, 1, 1, 1]))

    def test_locked_ahead_of_it(self):
        self.check(THERE_AND_BACK + [stand(0, 0, 1), go(1, 0)], (entry(0), [0, 1, 0, 0, 1, 1, 0, 1]))

    def test_no_such_entry(self):
        self.check(CROSSING, (entry(0), [-2]), (entry(LARGEST), [-2]), (go(1, 0), [0, 1, 1, 0]), (entry(1), [-2]),
                   (entry(LARGEST), [-2]), (run(3, 0, 0, 0), [3, 0, 1, 0]), (entry(3), [1, 1, 1, 1, 0, 0, 1, 0]),
                   (entry(4), [-2]))

    def test_sixteen(self):
        self.check([begin(2, 1), act(0, 0, 1, 1)] + [go(1, 0)] * 15 + [go(2, 999)],
                   (entry(0), [0, 1, 0, 0, 0, 0, 0, 0]),
                   (entry(15), [0, 2, 0, 0, 0, 1, 0, 0]), (entry(16), [-2]))

    def test_where_it_is_put_is_no_entry_and_changes_none(self):
        self.check(CROSSING + [stand(1, 0, 0), go(1, 0), stand(1, 1, 1), stand(0, 0, 1)],
                   (entry(0), [0, 1, 1, 0, 0, 0, 0, 0]), (entry(1), [-2]), (go(1, 0), [0, 1, 0, 1]),
                   (entry(1), [0, 1, 0, 0, 1, 1, 0, 1]))

    def test_what_was_done_stays_written(self):
        first = [0, 1, 0, 0, 0, 1, 1, 0]
        self.check(CROSSING + [go(1, 0)], (entry(0), first), (paid(), [1, 1, 0]), (became(), [1]),
                   (turn(0, 0, 0), [2]), (entry(0), first), (became(), [1]), (lock(0, 0, 1), [0]), (entry(0), first),
                   (unact(0, 0), [1]), (entry(0), first), (paid(), [1, 1, 0]), (unact(0, 0), [0]),
                   (act(0, 9, 9, 1, 0), [0]), (turn(0, 0, 1), [0]), (addtwins(0), [1]), (entry(0), first),
                   (paid(), [1, 1, 0]), (became(), [1]), (stand(0, 0, 1), [0, 1, 1, 0]), (entry(0), first))

    def test_what_is_refused_or_told_ahead_is_no_entry(self):
        self.check(ENDING, (go(5, 0), [-22]), (go(1, 1000), [-22]), (run(1), [-22]), (ifgo(1, 0), [0, 1, 0, 0]),
                   (stand(2, 0, 0), [0, 0, 0, 0]), (go(1, 0), [-33]), (run(1, 0), [0, 2, 0, 0]), (entry(0), [-2]),
                   (paid(), [0, 0]), (became(), [0]), (count(), [4, 3, 1, 0, 0]))

    def test_a_begin_takes_all_entries(self):
        self.check(THERE_AND_BACK + [run(3, 0, 0, 0)], (begin(9, 9), [-22]), (entry(2), [0, 1, 0, 0, 0, 1, 1, 0]),
                   (paid(), [3, 5, 1]), (became(), [3]), (begin(2, 3), [0]), (entry(0), [-2]), (paid(), [0, 0, 0, 0]),
                   (became(), [0]), (count(), [4, 2, 3, 0, 0]))


class PaidTest(AskCase):
    def test_by_each_self_s_lights_whoever_did_it(self):
        self.check(THERE_AND_BACK, (go(4, 0), [0, 1, 1, 0]), (paid(), [1, 1, -2]), (go(3, 0), [0, 0, 0, 0]),
                   (paid(), [2, 4, 3]), (run(3, 0, 0, 0), [3, 1, 1, 0]), (paid(), [5, 9, 4]))

    def test_none(self):
        for v in (1, 2, 3):
            self.check([begin(2, v)], (paid(), [0] + [0] * v))

    def test_by_the_lights_of_a_self_that_never_was(self):
        made = [begin(2, 3), act(0, 1, 0, 7, 0, 1), act(1, 2, 0, -9, 1, 0)]
        self.check(made, (run(3, 0, 0, 0), [3, 1, 0, 0]), (paid(), [3, 4, 0, 5]), (became(), [0]))

    def test_below_0(self):
        self.check([begin(2, 2), act(0, -9, 9, 1, 0)] + [run(4, 0, 0, 0, 0)] * 4, (paid(), [16, -144, 144]))

    def test_as_they_were_then(self):
        # The act that paid 3 is taken out, and another one of its number pays 5.
        self.check([begin(2, 1), act(0, 3, 1, 0), go(1, 0), unact(0, 0)], (paid(), [1, 3]), (act(0, 5, 1, 0), [0]),
                   (paid(), [1, 3]), (go(1, 0), [0, 0, 0, 0]), (paid(), [2, 8]), (unact(0, 0), [0]), (paid(), [2, 8]))

    def test_just_the_acts_that_were_done(self):
        self.check(ENDING, (run(4, 0, 0, 999, 0), [3, 2, 0, 0]), (paid(), [3, 4]))

    def test_not_what_it_is_worth_later(self):
        # Act 1 is done as it brings the most, but pays nothing.
        self.check(CROSSING, (go(2, 0), [1, 1, 0, 0]), (paid(), [1, 0, 0]))


class BecameTest(AskCase):
    def test_each_time(self):
        self.check(THERE_AND_BACK, (became(), [0]), (go(1, 0), [0, 1, 1, 0]), (became(), [1]), (go(1, 0), [0, 0, 0, 0]),
                   (became(), [2]), (run(4, 0, 0, 0, 0), [4, 0, 0, 0]), (became(), [6]))

    def test_into_oneself_is_no_other(self):
        self.check([begin(2, 2), act(0, 0, 0, 1, 0), turn(0, 0, 1)], (run(2, 0, 0), [2, 0, 0, 0]), (became(), [0]),
                   (stand(0, 1, 0), [0, 0, 0, 0]), (go(1, 0), [0, 0, 0, 0]), (became(), [1]))

    def test_locked_it_is_no_other(self):
        self.check(THERE_AND_BACK + [stand(0, 0, 1)], (run(4, 0, 0, 0, 0), [4, 0, 0, 1]), (became(), [0]))

    def test_locked_by_the_act_that_turns_it_is_another(self):
        self.check(THERE_AND_BACK + [lock(0, 0, 1)], (run(4, 0, 0, 0, 0), [4, 0, 1, 1]), (became(), [1]))

    def test_put_down_as_another_one_is_no_entry(self):
        self.check(CROSSING, (stand(1, 1, 0), [0, 0, 0, 0]), (became(), [0]), (go(1, 0), [1, 0, 1, 0]), (became(), [0]))

    def test_at_the_last_step(self):
        self.check(CROSSING, (run(3, 0, 0, 0), [3, 1, 1, 0]), (became(), [1]))

    def test_promises_leave_what_was_done(self):
        self.check(CROSSING + [go(1, 0)], (promisenever(1, 4), [0]), (entry(0), [0, 1, 0, 0, 0, 1, 1, 0]),
                   (became(), [1]), (unpromise(0), [0]), (paid(), [1, 1, 0]), (who(), [0, 1, 1, 0]))
