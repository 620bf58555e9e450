from asking import LARGEST, AskCase, act, addtwins, begin, does, lights, lock, lonely, turn, unact


class AddTwinsTest(AskCase):
    def test_the_twin_of_an_act_that_turns(self):
        # The twin is act 2, behind all others; alone there, it has act 0's pays and weights.
        self.check([begin(2, 2), act(0, 3, 4, 1, 1), act(0, 0, 0, 1, 0), turn(0, 0, 2)],
                   (lonely(), [1, 0, 0]), (addtwins(0), [1]), (lonely(), [0]), (turn(0, 2, 0), [0]),
                   (lock(0, 2, 0), [0]), (turn(0, 0, 2), [2]), (unact(0, 0), [2]), (unact(0, 0), [1]),
                   (lights(0, 0, 0, 1), [2, 3, 1, 4, 1]), (lights(0, 0, 0, 2), [2, 9, 2, 6, 1]))

    def test_no_acts(self):
        self.check([begin(2, 1)], (addtwins(0), [0]), (addtwins(1), [0]), (does(0, 0, 0, 1), [-33]))

    def test_an_act_that_does_not_turn_gets_none(self):
        self.check([begin(2, 1), act(0, 1, 1, 1), lock(0, 0, 1)], (addtwins(0), [0]), (unact(0, 0), [0]))

    def test_an_act_that_has_a_twin_gets_none(self):
        for first, second in ((0, 1), (1, 0)):
            self.check([begin(2, 1), act(0, 1, 1, 1), act(0, 1, 1, 1), turn(0, first, 1)],
                       (lonely(), [0]), (addtwins(0), [0]), (turn(0, second, 1), [0]), (lonely(), [2, 0, 0, 0, 1]))

    def test_just_that_place(self):
        self.check([begin(3, 1), act(0, 1, 1, 1, 1), act(2, 1, 1, 1, 1), turn(0, 0, 1), turn(2, 0, 1)],
                   (addtwins(1), [0]), (addtwins(2), [1]), (lonely(), [1, 0, 0]), (unact(0, 1), [-2]),
                   (unact(2, 1), [1]))

    def test_a_twin_that_locks_is_none(self):
        self.check([begin(2, 1), act(0, 1, 1, 1), act(0, 1, 1, 1), turn(0, 0, 1), lock(0, 1, 1)],
                   (lonely(), [1, 0, 0]), (addtwins(0), [1]), (lonely(), [0]), (lock(0, 2, 0), [0]))

    def test_a_twin_that_turns_is_none(self):
        self.check([begin(2, 2), act(0, 1, 1, 1, 1), act(0, 1, 1, 1, 1), turn(0, 0, 1), turn(0, 1, 2)],
                   (lonely(), [2, 0, 0, 0, 1]))

    def test_one_twin_serves_two_that_are_alike(self):
        self.check([begin(2, 2), act(0, 1, 1, 1, 1), act(0, 1, 1, 1, 1), turn(0, 0, 1), turn(0, 1, 2)],
                   (addtwins(0), [1]), (lonely(), [0]), (unact(0, 3), [-2]), (unact(0, 2), [2]))

    def test_an_act_that_turns_and_locks_gets_one_that_does_neither(self):
        self.check([begin(2, 1), act(0, 1, 1, 1), turn(0, 0, 1), lock(0, 0, 1)],
                   (lonely(), [1, 0, 0]), (addtwins(0), [1]), (lonely(), [0]), (lock(0, 1, 0), [0]),
                   (turn(0, 1, 0), [0]), (lock(0, 0, 0), [1]), (turn(0, 0, 0), [1]))

    def test_room_for_one_of_two(self):
        self.check([begin(2, 1), act(0, 1, 1, 1), act(0, 2, 1, 1), turn(0, 0, 1), turn(0, 1, 1)],
                   (lonely(), [2, 0, 0, 0, 1]), (addtwins(0), [1]), (lonely(), [1, 0, 1]), (addtwins(0), [0]),
                   (lonely(), [1, 0, 1]), (unact(0, 3), [-2]))

    def test_no_room_for_a_twin(self):
        self.check([begin(2, 1), act(0, 1, 1, 1), act(0, 2, 1, 1), act(0, 3, 1, 1), turn(0, 1, 1)],
                   (addtwins(0), [0]), (lonely(), [1, 0, 1]), (unact(0, 3), [-2]), (unact(0, 0), [2]),
                   (addtwins(0), [1]), (lonely(), [0]))

    def test_again_there_is_nothing_to_put_down(self):
        self.check([begin(2, 1), act(0, 1, 1, 1), turn(0, 0, 1)], (addtwins(0), [1]), (addtwins(0), [0]))

    def test_an_act_that_turns_one_into_oneself_turns(self):
        self.check([begin(2, 1), act(1, 1, 1, 1), turn(1, 0, 1)],
                   (lonely(), [1, 1, 0]), (addtwins(1), [1]), (lonely(), [0]))

    def test_the_twin_is_an_act_of_its_own(self):
        self.check([begin(2, 2), act(0, 1, 1, 1, 1), turn(0, 0, 1), addtwins(0)],
                   (turn(0, 1, 2), [0]), (lock(0, 1, 1), [0]), (turn(0, 0, 1), [1]), (lock(0, 0, 0), [0]),
                   (lonely(), [2, 0, 0, 0, 1]))

    def test_no_such_place(self):
        self.check([begin(2, 1)], (addtwins(2), [-2]), (addtwins(LARGEST), [-2]), (addtwins(1), [0]))


class LonelyTest(AskCase):
    def test_none(self):
        self.check([begin(2, 1)], (lonely(), [0]), (act(0, 1, 1, 1), [0]), (lonely(), [0]))

    def test_an_act_that_is_its_own_twin(self):
        self.check([begin(2, 1), act(0, 1, 1, 1)], (lonely(), [0]), (addtwins(0), [0]))

    def test_by_places_then_by_numbers(self):
        made = [begin(3, 1)]
        for place in (2, 0):
            made += [act(place, 1, 1, 1, 1), act(place, 2, 1, 1, 1), act(place, 3, 1, 1, 1)]
        made += [turn(2, 2, 1), turn(2, 1, 1), turn(0, 2, 1), turn(0, 0, 1)]
        self.check(made, (lonely(), [4, 0, 0, 0, 2, 2, 1, 2, 2]))

    def test_one_that_nobody_does(self):
        self.check([begin(2, 2), act(0, 5, 5, 1, 1), act(0, -9, -9, 1, 1), turn(0, 1, 2)],
                   (does(0, 0, 0, 1), [0]), (does(0, 1, 0, 1), [0]), (lonely(), [1, 0, 1]))

    def test_other_pays_make_no_twin(self):
        self.check([begin(2, 2), act(0, 1, 2, 1, 1), act(0, 1, 3, 1, 1), act(0, 2, 2, 1, 1), turn(0, 0, 1)],
                   (lonely(), [1, 0, 0]))

    def test_other_weights_make_no_twin(self):
        # Twice the weights lead to the same places as likely, but they are not the same weights.
        self.check([begin(2, 1), act(0, 1, 1, 1), act(0, 1, 2, 2), act(0, 1, 1, 2), turn(0, 0, 1)],
                   (lonely(), [1, 0, 0]))

    def test_a_twin_elsewhere_is_none(self):
        self.check([begin(2, 1), act(0, 1, 1, 1), act(1, 1, 1, 1), turn(0, 0, 1)], (lonely(), [1, 0, 0]))

    def test_no_more_when_it_does_not_turn(self):
        self.check([begin(2, 1), act(0, 1, 1, 1), turn(0, 0, 1)],
                   (lonely(), [1, 0, 0]), (turn(0, 0, 0), [1]), (lonely(), [0]))
