from asking import LARGEST, AskCase, begin, stand, who


class StandTest(AskCase):
    def test_tells_how_it_stood(self):
        self.check([begin(3, 2)], (stand(2, 1, 1), [0, 0, 0, 0]), (stand(1, 0, 0), [0, 2, 1, 1]),
                   (stand(1, 0, 0), [0, 1, 0, 0]), (who(), [0, 1, 0, 0]))

    def test_who_changes_nothing(self):
        self.check([begin(3, 2), stand(2, 1, 1)], (who(), [0, 2, 1, 1]), (who(), [0, 2, 1, 1]))

    def test_the_last_that_are_taken(self):
        self.check([begin(4, 3)], (stand(3, 2, 1), [0, 0, 0, 0]), (who(), [0, 3, 2, 1]))

    def test_a_place_without_acts(self):
        self.check([begin(2, 1)], (stand(1, 0, 0), [0, 0, 0, 0]), (who(), [0, 1, 0, 0]))

    def test_a_locked_one_may_be_put_down_as_another_one(self):
        self.check([begin(2, 2), stand(0, 0, 1)], (stand(0, 1, 0), [0, 0, 0, 1]), (who(), [0, 0, 1, 0]))

    def test_no_such_place(self):
        self.check([begin(2, 3)], (stand(2, 0, 0), [-2]), (stand(LARGEST, 0, 0), [-2]), (who(), [0, 0, 0, 0]))

    def test_no_such_self(self):
        self.check([begin(4, 2)], (stand(0, 2, 0), [-2]), (stand(0, LARGEST, 0), [-2]), (who(), [0, 0, 0, 0]))

    def test_locked_is_above_1(self):
        self.check([begin(2, 2), stand(1, 1, 1)], (stand(0, 0, 2), [-22]), (stand(0, 0, LARGEST), [-22]),
                   (who(), [0, 1, 1, 1]))

    def test_which_refusal_stands_first(self):
        self.check([begin(2, 2), stand(1, 0, 1)], (stand(2, 0, 2), [-2]), (stand(0, 2, 2), [-2]),
                   (stand(1, 1, 2), [-22]), (who(), [0, 1, 0, 1]))
