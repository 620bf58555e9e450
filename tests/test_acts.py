from asking import LARGEST, AskCase, act, begin, does, lights, lock, stand, turn, unact, who

HUGE = 10 ** 30


class ActTest(AskCase):
    def test_numbered_from_0_at_each_place(self):
        self.check([begin(2, 1)], (act(0, 1, 1, 1), [0]), (act(0, 2, 1, 1), [1]), (act(1, 3, 1, 1), [0]),
                   (act(0, 4, 1, 1), [2]), (act(1, 5, 1, 1), [1]))

    def test_pays_stand_ahead_of_weights(self):
        # By self 0's lights 2 and by self 1's 3 at place 0; it leads to place 1 alone, where 5 and 7 are paid.
        self.check([begin(2, 2), act(0, 2, 3, 0, 1), act(1, 5, 7, 1, 0)],
                   (lights(0, 0, 0, 1), [2, 2, 1, 3, 1]), (lights(0, 0, 0, 2), [2, 7, 1, 10, 1]))

    def test_neither_turns_nor_locks_at_first(self):
        self.check([begin(2, 3), act(1, 1, 1, 1, 0, 1)], (turn(1, 0, 0), [0]), (lock(1, 0, 0), [0]))

    def test_the_last_numbers_that_are_taken(self):
        self.check([begin(4, 3)], (act(0, -9, -9, -9, 9, 9, 9, 9), [0]), (act(0, 9, 9, 9, 0, 0, 0, 1), [1]),
                   (act(3, 0, 0, 0, 1, 0, 0, 0), [0]))

    def test_each_pay_at_its_edges(self):
        for at in range(3):
            for wrong in (-10, 10, LARGEST, -HUGE, HUGE):
                row = [1, 1, 1, 1, 1, 1, 1]
                row[at] = wrong
                self.check([begin(4, 3)], (act(0, *row), [-22]), (does(0, 0, 0, 1), [-33]))

    def test_each_weight_at_its_edges(self):
        for at in range(3, 7):
            for wrong in (-1, 10, LARGEST, -HUGE, HUGE):
                row = [1, 1, 1, 1, 1, 1, 1]
                row[at] = wrong
                self.check([begin(4, 3)], (act(0, *row), [-22]), (does(0, 0, 0, 1), [-33]))

    def test_weights_of_which_one_is_below_0_and_the_sum_is_not(self):
        self.check([begin(2, 1)], (act(0, 1, -1, 2), [-22]), (act(0, 1, 2, -1), [-22]))

    def test_all_weights_0(self):
        self.check([begin(2, 1)], (act(0, 1, 0, 0), [-22]), (act(0, 0, 0, 0), [-22]), (act(0, 1, 1, 0), [0]))

    def test_rows_of_the_wrong_length(self):
        for n in (2, 3, 4):
            for v in (1, 2, 3):
                for length in range(10):
                    told = [0] if length == n + v else [-22]
                    self.check([begin(n, v)], (act(0, *[1] * length), told))

    def test_no_such_place(self):
        self.check([begin(2, 1)], (act(2, 1, 1, 1), [-2]), (act(LARGEST, 1, 1, 1), [-2]), (act(1, 1, 1, 1), [0]))

    def test_the_fourth_is_refused_and_changes_nothing(self):
        self.check([begin(2, 1), act(0, 1, 0, 1), act(0, 2, 0, 1), act(0, 3, 0, 1)],
                   (act(0, 9, 1, 0), [-28]), (does(0, 0, 0, 1), [2]), (lights(0, 0, 0, 1), [1, 3, 1]),
                   (act(1, 9, 1, 0), [0]), (unact(0, 2), [2]), (act(0, 9, 0, 1), [2]))

    def test_which_refusal_stands_first(self):
        full = [begin(2, 1), act(0, 1, 1, 1), act(0, 1, 1, 1), act(0, 1, 1, 1)]
        self.check(full, (act(2), [-2]), (act(2, 10, 1, 1), [-2]), (act(0), [-22]), (act(0, 10, 1, 1), [-22]),
                   (act(0, 9, 1, 1), [-28]))

    def test_a_refused_row_changes_nothing(self):
        self.check([begin(2, 1), act(0, 1, 1, 0)], (act(0, 9, 0, 0), [-22]), (act(0, 9), [-22]),
                   (lights(0, 0, 0, 1), [1, 1, 1]), (act(0, 2, 1, 0), [1]))


class UnactTest(AskCase):
    made = [begin(2, 1), act(0, 1, 0, 1), act(0, 3, 0, 1), act(0, 2, 0, 1), act(1, 5, 0, 1)]

    def test_those_behind_it_are_numbered_one_less(self):
        self.check(self.made, (does(0, 0, 0, 1), [1]), (unact(0, 1), [2]), (does(0, 0, 0, 1), [1]),
                   (lights(0, 0, 0, 1), [1, 2, 1]), (unact(0, 0), [1]), (does(0, 0, 0, 1), [0]),
                   (lights(0, 0, 0, 1), [1, 2, 1]), (unact(0, 0), [0]), (does(0, 0, 0, 1), [-33]),
                   (lights(1, 0, 0, 1), [1, 5, 1]))

    def test_turn_and_lock_go_along(self):
        self.check(self.made + [turn(0, 2, 1), lock(0, 1, 1)], (unact(0, 0), [2]),
                   (turn(0, 0, 0), [0]), (turn(0, 1, 0), [1]), (lock(0, 0, 0), [1]), (lock(0, 1, 0), [0]))

    def test_no_such_act(self):
        self.check(self.made, (unact(0, 3), [-2]), (unact(0, LARGEST), [-2]), (unact(1, 1), [-2]),
                   (unact(0, 2), [2]), (unact(0, 2), [-2]), (unact(0, 1), [1]), (unact(0, 0), [0]), (unact(0, 0), [-2]))

    def test_no_such_place(self):
        self.check(self.made, (unact(2, 0), [-2]), (unact(LARGEST, LARGEST), [-2]))

    def test_a_refusal_changes_nothing(self):
        self.check(self.made, (unact(0, 3), [-2]), (unact(2, 0), [-2]), (does(0, 0, 0, 1), [1]), (unact(0, 2), [2]))


class TurnTest(AskCase):
    made = [begin(2, 3), act(0, 1, 1, 1, 0, 1), act(0, 1, 1, 1, 0, 1)]

    def test_tells_what_it_was(self):
        self.check(self.made, (turn(0, 0, 2), [0]), (turn(0, 0, 3), [2]), (turn(0, 0, 1), [3]),
                   (turn(0, 0, 0), [1]), (turn(0, 0, 0), [0]))

    def test_one_act_alone(self):
        self.check(self.made, (turn(0, 1, 2), [0]), (turn(0, 0, 0), [0]), (lock(0, 1, 0), [0]), (turn(0, 1, 0), [2]))

    def test_above_how_many_selves_there_are(self):
        self.check(self.made, (turn(0, 0, 3), [0]), (turn(0, 0, 4), [-22]), (turn(0, 0, LARGEST), [-22]),
                   (turn(0, 0, 0), [3]))
        self.check([begin(2, 1), act(0, 1, 1, 1)], (turn(0, 0, 1), [0]), (turn(0, 0, 2), [-22]), (turn(0, 0, 0), [1]))

    def test_no_such_place_or_act(self):
        self.check(self.made, (turn(2, 0, 0), [-2]), (turn(LARGEST, 0, 0), [-2]), (turn(0, 2, 0), [-2]),
                   (turn(0, LARGEST, 0), [-2]), (turn(1, 0, 0), [-2]))

    def test_which_refusal_stands_first(self):
        self.check(self.made, (turn(0, 2, 4), [-2]), (turn(2, 0, 4), [-2]), (turn(0, 1, 4), [-22]))


class LockTest(AskCase):
    made = [begin(2, 2), act(0, 1, 1, 0, 1), act(0, 1, 1, 0, 1)]

    def test_tells_whether_it_did(self):
        self.check(self.made, (lock(0, 0, 1), [0]), (lock(0, 0, 1), [1]), (lock(0, 0, 0), [1]), (lock(0, 0, 0), [0]))

    def test_one_act_alone(self):
        self.check(self.made, (lock(0, 1, 1), [0]), (lock(0, 0, 0), [0]), (turn(0, 1, 0), [0]), (lock(0, 1, 0), [1]))

    def test_above_1(self):
        self.check(self.made, (lock(0, 0, 2), [-22]), (lock(0, 0, LARGEST), [-22]), (lock(0, 0, 1), [0]),
                   (lock(0, 0, 2), [-22]), (lock(0, 0, 0), [1]))

    def test_no_such_place_or_act(self):
        self.check(self.made, (lock(2, 0, 0), [-2]), (lock(LARGEST, 0, 0), [-2]), (lock(0, 2, 0), [-2]),
                   (lock(0, LARGEST, 0), [-2]), (lock(1, 0, 0), [-2]))

    def test_which_refusal_stands_first(self):
        self.check(self.made, (lock(0, 2, 2), [-2]), (lock(2, 0, 2), [-2]), (lock(0, 1, 2), [-22]))

    def test_turn_and_lock_leave_each_other(self):
        self.check(self.made, (turn(0, 0, 2), [0]), (lock(0, 0, 1), [0]), (turn(0, 0, 1), [2]),
                   (lock(0, 0, 0), [1]), (turn(0, 0, 0), [1]))

    def test_the_helper_stays_where_it_is_by_changes(self):
        self.check(self.made + [stand(1, 1, 1)], (act(1, 1, 1, 1, 0), [0]), (turn(1, 0, 1), [0]),
                   (lock(1, 0, 1), [0]), (unact(1, 0), [0]), (who(), [0, 1, 1, 1]))
