import unittest

from tests.line import answers_of, begin, fewest, last, least, limit, look, people, stones, to, turn
from twobaskets.tower import Tower, answer_least

QUEEN = people(195, 105, 90) + stones(75)
# Person 1 gets down against the stone by 2, person 0 against person 1 by 3, and person 1 once more by 2.
CHAIN = people(50, 47) + stones(45)


class Least(unittest.TestCase):
    def test_nought_where_all_people_are_down_already(self):
        self.assertEqual(answers_of(begin(50, 1, people(50)), turn(0), least()), [[50], [0]])
        self.assertEqual(answers_of(begin(50, 1, people(50) + stones(9)), turn(0), least()), [[50], [0]])

    def test_nought_where_there_are_no_people(self):
        self.assertEqual(last(begin(0, 1, stones(300)), least()), [0])
        self.assertEqual(last(begin(300, 5, stones(1, 2, 3, 4, 5)), least()), [0])

    def test_a_person_alone(self):
        self.assertEqual(last(begin(0, 1, people(1)), least()), [1])
        self.assertEqual(last(begin(0, 1, people(50)), least()), [50])
        self.assertEqual(last(begin(0, 5, people(50, 70, 60)), least()), [50])
        self.assertEqual(last(begin(0, 1, people(50, 70, 20)), least()), [30])

    def test_three_hundred_at_most(self):
        self.assertEqual(last(begin(0, 1, people(300)), least()), [300])
        self.assertEqual(last(begin(0, 5, people(300, 300, 300, 300, 300)), least()), [300])
        self.assertEqual(last(begin(0, 1, people(300, 300) + stones(300)), least()), [300])

    def test_a_stone_helps(self):
        self.assertEqual(last(begin(10, 1, people(50) + stones(45)), least()), [5])
        self.assertEqual(last(begin(10, 1, people(50) + stones(50)), least()), [50])
        self.assertEqual(last(begin(10, 1, people(50) + stones(51)), least()), [50])

    def test_the_most_unlike_turn_of_the_way_counts(self):
        self.assertEqual(last(begin(0, 1, CHAIN), least()), [3])
        self.assertEqual(last(begin(0, 1, people(47, 50) + stones(45)), least()), [3])
        self.assertEqual(last(begin(0, 1, people(50, 48) + stones(45)), least()), [3])
        self.assertEqual(last(begin(0, 2, QUEEN), least()), [15])

    def test_a_longer_way_may_need_less(self):
        self.assertEqual(
            answers_of(begin(300, 1, CHAIN), fewest(), least(), limit(3), fewest()),
            [[2, 1, 0, 1, 1], [3], [300], [5, 1, 2, 2, 1, 2, 1, 2, 2, 0, 1, 2, 1, 2]],
        )

    def test_stones_may_stay_anywhere(self):
        # The person and the light stone get down against the heavy one by 1; with both stones above it would be 45.
        self.assertEqual(last(begin(0, 2, people(50) + stones(54, 5)), least()), [1])
        self.assertEqual(answers_of(begin(44, 2, people(50) + stones(54, 5)), to(1, 2), limit(45), to(1, 2))[::2], [
            [-6], [2, 1, 2, 2, 0, 2],
        ])

    def test_stones_may_be_unlike_by_more(self):
        # The heavy stone brings the light one up again, by 299 with no person in a basket.
        self.assertEqual(last(begin(0, 1, people(2) + stones(1, 300)), turn(1), least()), [1])

    def test_below_at_and_above_the_towers_own_limit(self):
        for own in (0, 2, 3, 4, 300):
            self.assertEqual(last(begin(own, 1, CHAIN), least()), [3])
        for own in (0, 14, 15, 16, 300):
            self.assertEqual(last(begin(own, 2, QUEEN), least()), [15])

    def test_it_is_enough_and_one_less_is_not(self):
        self.assertEqual(answers_of(begin(0, 1, CHAIN), limit(2), fewest(), least())[1:], [[-6], [3]])
        self.assertEqual(answers_of(begin(0, 1, CHAIN), limit(3), fewest())[1][0], 5)

    def test_what_a_basket_holds_counts(self):
        self.assertEqual(last(begin(0, 2, people(10, 10) + stones(18)), least()), [2])
        self.assertEqual(last(begin(0, 1, people(10, 10) + stones(18)), least()), [10])

    def test_from_where_things_are_now(self):
        # With both people above they go against the stone, by 2; person 0 left alone needs 6.
        self.assertEqual(answers_of(begin(3, 2, people(8, 2) + stones(8)), least(), turn(1), least()), [[2], [2], [6]])
        self.assertEqual(
            answers_of(begin(300, 1, people(50) + stones(45)), least(), turn(1), least(), turn(0, 1), least()),
            [[5], [45], [5], [5], [0]],
        )
        self.assertEqual(answers_of(begin(300, 1, people(50, 20)), least(), turn(0), least()), [[30], [50], [20]])

    def test_nothing_changes(self):
        looked = [1, 20, 2, 195, 1, 105, 1, 90, 1, 75, 0, 3, 0, 1, 2]
        given = answers_of(begin(20, 2, QUEEN), turn(3), fewest(), look(), least(), least(), look(), fewest())
        self.assertEqual(given[2:6], [looked, [15], [15], looked])
        self.assertEqual(given[1], given[6])


class NoLimitIsEnough(unittest.TestCase):
    """In a tower that begin takes each person can go alone by a limit of 300, so these are towers that it refuses."""

    def test_a_person_heavier_than_every_limit(self):
        self.assertEqual(answer_least(Tower(0, 1, people(301))), [-6])
        self.assertEqual(answer_least(Tower(300, 5, people(50, 700))), [-6])

    def test_baskets_that_hold_nothing(self):
        self.assertEqual(answer_least(Tower(300, 0, people(50))), [-6])


if __name__ == "__main__":
    unittest.main()
