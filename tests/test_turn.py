import unittest

from tests.line import answers_of, begin, fewest, last, people, stones, to, turn, turns, why


class TurnIsMade(unittest.TestCase):
    def test_a_stone_goes_down(self):
        self.assertEqual(answers_of(begin(0, 1, stones(40)), turn(0), to()), [[40], [0]])

    def test_a_person_goes_down_alone(self):
        self.assertEqual(answers_of(begin(40, 1, people(40)), turn(0), to()), [[40], [0]])

    def test_all_that_go_change_places_and_no_others(self):
        self.assertEqual(
            answers_of(
                begin(10, 2, people(60) + stones(30, 25, 7)),
                turn(1, 2), to(0, 3), turn(0, 1, 2), to(1, 2, 3), turn(3), to(1, 2),
            ),
            [[55], [0], [5], [0], [7], [0]],
        )

    def test_things_in_any_order(self):
        for things in ((0, 1, 2), (2, 1, 0), (1, 0, 2)):
            self.assertEqual(
                answers_of(begin(10, 2, people(60) + stones(30, 25)), turn(2, 1), turn(*things), to(2, 1)),
                [[55], [5], [0]],
            )

    def test_unlike_by_just_the_limit_with_a_person_above(self):
        self.assertEqual(answers_of(begin(5, 1, people(55) + stones(50)), turn(1), turn(0, 1)), [[50], [5]])

    def test_unlike_by_just_the_limit_with_a_person_below(self):
        self.assertEqual(
            answers_of(begin(50, 1, stones(100) + people(50)), turn(1), turn(0, 1), to(1)), [[50], [50], [0]]
        )

    def test_stones_alone_may_be_unlike_by_more_than_the_limit(self):
        self.assertEqual(answers_of(begin(0, 1, stones(300, 1)), turn(1), turn(0, 1)), [[1], [299]])

    def test_a_basket_just_full(self):
        tower = begin(300, 5, people(60, 60, 60, 60, 60))
        self.assertEqual(answers_of(tower, turn(0, 1, 2, 3, 4), to()), [[300], [0]])
        self.assertEqual(answers_of(begin(0, 2, stones(9, 9)), turn(0, 1)), [[18]])

    def test_the_lower_basket_just_full(self):
        tower = begin(0, 2, stones(9, 9, 30))
        self.assertEqual(answers_of(tower, turn(0, 1), turn(0, 1, 2), to(0, 1)), [[18], [12], [0]])

    def test_each_basket_holds_so_many(self):
        self.assertEqual(
            answers_of(begin(0, 2, stones(9, 9, 30, 30)), turn(0, 1), turn(0, 1, 2, 3), to(0, 1)), [[18], [42], [0]]
        )

    def test_heaviest_and_lightest(self):
        self.assertEqual(answers_of(begin(300, 1, people(300)), turn(0)), [[300]])
        self.assertEqual(answers_of(begin(1, 1, people(1)), turn(0)), [[1]])
        self.assertEqual(answers_of(begin(0, 5, stones(300, 300, 300, 300, 300)), turn(4, 3, 2, 1, 0)), [[1500]])


class TurnIsRefused(unittest.TestCase):
    def test_a_thing_that_is_not_there(self):
        tower = begin(300, 5, stones(5, 6))
        for things in ((2,), (9,), (0, 2), (2, 0), (0, 1, 9)):
            self.assertEqual(answers_of(tower, turn(*things), to(0, 1)), [[-1], [0]])

    def test_a_thing_named_twice(self):
        tower = begin(300, 5, stones(5, 6))
        for things in ((0, 0), (1, 0, 1), (0, 1, 1), (0, 0, 0, 0, 0, 0)):
            self.assertEqual(answers_of(tower, turn(*things), to(0, 1)), [[-1], [0]])

    def test_the_upper_basket_too_full(self):
        self.assertEqual(answers_of(begin(300, 1, stones(5, 6)), turn(0, 1), to(0, 1)), [[-4], [0]])
        self.assertEqual(answers_of(begin(300, 4, stones(5, 6, 7, 8, 9)), turn(0, 1, 2, 3, 4)), [[-4]])

    def test_the_lower_basket_too_full(self):
        self.assertEqual(
            answers_of(begin(0, 1, stones(9, 9, 30)), turn(0), turn(1), turn(0, 1, 2), to(2)),
            [[9], [9], [-4], [0]],
        )

    def test_no_things(self):
        self.assertEqual(answers_of(begin(300, 5, people(5)), turn(), to(0)), [[-6], [0]])

    def test_baskets_alike(self):
        self.assertEqual(
            answers_of(begin(300, 1, people(50) + stones(50)), turn(1), turn(0, 1), to(0)), [[50], [-6], [0]]
        )
        self.assertEqual(answers_of(begin(0, 1, stones(50, 50)), turn(0), turn(0, 1), to(1)), [[50], [-6], [0]])

    def test_the_upper_basket_lighter(self):
        self.assertEqual(
            answers_of(begin(300, 1, people(50) + stones(51)), turn(1), turn(0, 1), to(0)), [[51], [-6], [0]]
        )

    def test_nothing_in_the_upper_basket(self):
        self.assertEqual(answers_of(begin(300, 1, people(50)), turn(0), turn(0), to()), [[50], [-6], [0]])

    def test_unlike_by_one_more_than_the_limit(self):
        tower = begin(4, 1, people(55) + stones(50))
        self.assertEqual(answers_of(tower, turn(1), turn(0, 1), to(0)), [[50], [-7], [0]])
        self.assertEqual(answers_of(begin(49, 1, people(50)), turn(0), to(0)), [[-7], [0]])
        self.assertEqual(answers_of(begin(299, 1, people(300)), turn(0)), [[-7]])

    def test_too_unlike_with_a_person_below_alone(self):
        self.assertEqual(
            answers_of(begin(50, 1, stones(101) + people(50)), turn(1), turn(0, 1), to(0)), [[50], [-7], [0]]
        )

    def test_limit_nought_lets_no_person_go(self):
        self.assertEqual(
            answers_of(begin(0, 1, people(51) + stones(50)), turn(0), turn(1), turn(0, 1)), [[-7], [50], [-7]]
        )

    def test_a_person_above_that_does_not_go_does_not_count(self):
        self.assertEqual(answers_of(begin(0, 1, people(51) + stones(50)), turn(1)), [[50]])


class TheFirstRefusalCounts(unittest.TestCase):
    def test_wrong_ahead_of_too_many(self):
        self.assertEqual(last(begin(300, 1, stones(5, 6)), turn(0, 1, 2)), [-1])
        self.assertEqual(last(begin(300, 1, stones(5, 6)), turn(0, 0)), [-1])

    def test_wrong_ahead_of_not_heavier(self):
        self.assertEqual(last(begin(300, 1, stones(5, 6)), turn(0), turn(0, 0)), [-1])
        self.assertEqual(last(begin(300, 1, stones(5, 6)), turn(9)), [-1])

    def test_wrong_ahead_of_too_unlike(self):
        self.assertEqual(last(begin(0, 5, people(5)), turn(0, 1)), [-1])
        self.assertEqual(last(begin(0, 5, people(5)), turn(0, 0)), [-1])

    def test_too_many_ahead_of_not_heavier(self):
        self.assertEqual(last(begin(0, 1, stones(5, 6)), turn(0), turn(1), turn(0, 1)), [-4])

    def test_too_many_ahead_of_too_unlike(self):
        self.assertEqual(last(begin(0, 1, people(5, 6)), turn(0, 1)), [-4])


class ARefusedTurnChangesNothing(unittest.TestCase):
    def test_what_can_be_made_is_as_it_was(self):
        refused = (turn(9), turn(0, 0), turn(0, 1, 2), turn(1), turn(0), turn())
        tower = begin(10, 1, people(50) + stones(45, 5))
        self.assertEqual(
            answers_of(tower, turn(1), turns(), fewest(), *refused, turns(), fewest(), to(0, 2)),
            [[45], [2, 1, 2], [1, 2, 0, 1], [-1], [-1], [-4], [-6], [-7], [-6], [2, 1, 2], [1, 2, 0, 1], [0]],
        )


class Why(unittest.TestCase):
    def test_nought_if_it_can_be_made(self):
        self.assertEqual(answers_of(begin(40, 1, people(40)), why(0)), [[0]])
        self.assertEqual(answers_of(begin(0, 2, stones(40, 3)), why(0), why(1), why(0, 1), why(1, 0)), [[0]] * 4)

    def test_nothing_is_turned(self):
        self.assertEqual(answers_of(begin(0, 1, stones(40)), why(0), why(0), to(0), turn(0)), [[0], [0], [0], [40]])

    def test_wrong_things(self):
        self.assertEqual(
            answers_of(begin(300, 1, stones(5, 6)), why(2), why(9), why(0, 0), why(0, 1, 2), why(1, 0, 1)), [[-1]] * 5
        )

    def test_too_many(self):
        self.assertEqual(answers_of(begin(0, 1, people(5, 6)), why(0, 1)), [[-4]])
        self.assertEqual(answers_of(begin(0, 1, stones(5, 6)), turn(0), turn(1), why(0, 1)), [[5], [6], [-4]])

    def test_not_heavier(self):
        tower = begin(300, 1, people(50) + stones(50))
        self.assertEqual(answers_of(tower, why(), turn(1), why(0, 1), why(1)), [[-6], [50], [-6], [-6]])

    def test_unlike_by_the_limit_and_by_one_more(self):
        self.assertEqual(answers_of(begin(5, 1, people(55) + stones(50)), turn(1), why(0, 1)), [[50], [0]])
        self.assertEqual(answers_of(begin(4, 1, people(55) + stones(50)), turn(1), why(0, 1)), [[50], [-7]])
        self.assertEqual(answers_of(begin(4, 1, stones(55, 50)), turn(1), why(0, 1)), [[50], [0]])

    def test_a_person_below(self):
        self.assertEqual(answers_of(begin(50, 1, stones(100) + people(50)), turn(1), why(0, 1)), [[50], [0]])
        self.assertEqual(answers_of(begin(50, 1, stones(101) + people(50)), turn(1), why(0, 1)), [[50], [-7]])


if __name__ == "__main__":
    unittest.main()
