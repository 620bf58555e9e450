from asking import (LARGEST, AskCase, act, begin, count, lock, promisestay, run, stand, still, turn, unact, who)
from houses import CROSSING, ENDING, THERE_AND_BACK


class StillTest(AskCase):
    def test_with_one_step_less_each_time(self):
        # Self 0 turns at place 0 with its last step alone.
        self.check(CROSSING, (still(0), [0, 1, 1]), (still(1), [0, 0, 1]), (still(2), [0, 1, 1]), (still(3), [0, 0, 1]),
                   (still(4), [0, 1, 1]), (stand(1, 0, 0), [0, 0, 0, 0]), (still(0), [0, 1, 1]), (still(1), [0, 1, 1]),
                   (still(2), [0, 0, 1]), (still(3), [0, 1, 1]), (still(4), [0, 0, 1]))

    def test_an_act_that_turns_one_into_oneself(self):
        self.check(CROSSING + [stand(0, 1, 0)], (still(1), [0, 1, 1]), (still(2), [0, 1, 1]), (still(4), [0, 1, 1]))

    def test_it_may_have_been_another_one_between(self):
        # The promise, though, is of each of the steps.
        self.check(THERE_AND_BACK, (still(1), [0, 0, 1]), (still(2), [0, 1, 1]), (still(3), [0, 0, 1]),
                   (still(4), [0, 1, 1]), (promisestay(0, 0, 2), [-30]), (promisestay(0, 0, 4), [-30]))

    def test_locked_it_is_still_who_it_was(self):
        self.check(THERE_AND_BACK + [stand(0, 0, 1)], *[(still(k), [0, 1, 1]) for k in range(5)])
        self.check(CROSSING + [stand(0, 0, 1)], *[(still(k), [0, 1, 1]) for k in range(5)])

    def test_locked_by_the_act_that_turns(self):
        self.check(THERE_AND_BACK + [lock(0, 0, 1)], (still(0), [0, 1, 1]), (still(1), [0, 0, 1]),
                   (still(2), [0, 0, 1]),
                   (still(4), [0, 0, 1]))

    def test_locked_ahead_of_what_turns(self):
        made = [begin(2, 2), act(0, 0, 0, 0, 1), act(1, 0, 0, 0, 1), turn(1, 0, 2)]
        self.check(made, (still(1), [0, 1, 1]), (still(2), [0, 0, 1]), (lock(0, 0, 1), [0]), (still(2), [0, 1, 1]),
                   (still(4), [0, 1, 1]))

    def test_where_there_is_no_act_it_stays(self):
        self.check(ENDING, *[(still(k), [0, 1, 1]) for k in range(5)])
        # A third of all ways leads to place 1, where it turns; at place 2 it ends.
        made = [begin(3, 2), act(0, 0, 0, 0, 1, 2), act(1, 0, 0, 0, 1, 0), turn(1, 0, 2)]
        self.check(made, (still(1), [0, 1, 1]), (still(2), [0, 2, 3]), (still(3), [0, 2, 3]), (still(4), [0, 2, 3]),
                   (stand(2, 1, 0), [0, 0, 0, 0]), (still(4), [0, 1, 1]))

    def test_halves(self):
        # At place 1 it turns; each step leads to either place.
        made = [begin(2, 2), act(0, 0, 0, 1, 1), act(1, 0, 0, 1, 1), turn(1, 0, 2)]
        self.check(made, (still(1), [0, 1, 1]), (still(2), [0, 1, 2]), (still(3), [0, 1, 4]), (still(4), [0, 1, 8]),
                   (stand(1, 0, 0), [0, 0, 0, 0]), (still(1), [0, 0, 1]), (still(4), [0, 0, 1]),
                   (stand(1, 1, 0), [0, 1, 0, 0]), (still(4), [0, 1, 1]))

    def test_turned_back_by_some_ways(self):
        # Place 0 makes self 1, place 1 self 0; each step leads to either place as likely, or twice as likely to 1.
        made = [begin(2, 2), act(0, 0, 0, 2, 4), turn(0, 0, 2), act(1, 0, 0, 3, 3), turn(1, 0, 1)]
        # Behind 1 step it is self 1, at place 1 with 2 of 3; behind 2 steps self 0 with those 2 of 3. Behind 2 steps it
        # is at place 1 with 1 by 3 times 2 by 3, and 2 by 3 times 1 by 2: 5 by 9, which is who is self 0 behind 3.
        self.check(made, (still(1), [0, 0, 1]), (still(2), [0, 2, 3]), (still(3), [0, 5, 9]))

    def test_lowest_terms_and_unlike_lower_numbers(self):
        # To place 1 with 1 by 4, where half is turned behind the next step; to place 2 with 1 by 3, where 2 by 3 are.
        made = [begin(4, 2), act(0, 0, 0, 5, 3, 4, 0), act(1, 0, 0, 0, 0, 2, 2), act(2, 0, 0, 0, 0, 6, 3),
                act(3, 0, 0, 0, 0, 0, 1), turn(3, 0, 2)]
        # Behind 3 steps it was at place 3 behind 2: 1 by 4 times 1 by 2, and 1 by 3 times 1 by 3: 17 by 72 turned.
        self.check(made, (still(2), [0, 1, 1]), (still(3), [0, 55, 72]))

    def test_as_who_it_is_then_it_does_what_that_one_does(self):
        # Self 0 is made self 1, who at place 1 does act 1, which makes it self 0 again; self 0 would do act 0 there.
        made = [begin(2, 2), act(0, 0, 0, 0, 1), turn(0, 0, 2), act(1, 1, 0, 0, 1), act(1, 0, 1, 0, 1), turn(1, 1, 1)]
        self.check(made, (still(1), [0, 0, 1]), (still(2), [0, 1, 1]), (still(3), [0, 1, 1]))

    def test_three_selves(self):
        made = [begin(2, 3), act(0, 0, 0, 0, 1, 0), turn(0, 0, 3), stand(0, 1, 0)]
        self.check(made, (still(0), [0, 1, 1]), (still(1), [0, 0, 1]), (still(4), [0, 0, 1]),
                   (stand(0, 2, 0), [0, 0, 1, 0]), (still(4), [0, 1, 1]))

    def test_no_acts_at_all(self):
        self.check([begin(4, 3), stand(3, 2, 0)], (still(0), [0, 1, 1]), (still(4), [0, 1, 1]))
        self.check(CROSSING + [unact(0, 0), unact(0, 0)], (still(1), [0, 1, 1]))

    def test_steps_at_their_edges(self):
        self.check(CROSSING, (still(0), [0, 1, 1]), (still(4), [0, 1, 1]), (still(5), [-22]), (still(LARGEST), [-22]))
        self.check([begin(2, 1)], (still(5), [-22]))

    def test_nothing_is_done(self):
        self.check(THERE_AND_BACK + [run(1, 0)], (still(3), [0, 0, 1]), (still(5), [-22]), (who(), [0, 1, 1, 0]),
                   (count(), [4, 2, 2, 0, 1]))
