import unittest

from tests.line import answers_of, begin, comes, fewest, last, limit, look, people, stones, turn, turns

QUEEN = begin(15, 2, people(195, 105, 90) + stones(75))


class Comes(unittest.TestCase):
    def test_as_things_are_now_counts_where_no_turn_can_be_made(self):
        self.assertEqual(answers_of(begin(49, 1, people(50)), turns(), comes()), [[0], [1]])
        self.assertEqual(answers_of(begin(0, 5, people(50, 9, 8, 7, 6)), turns(), comes()), [[0], [1]])
        self.assertEqual(answers_of(begin(50, 1, people(50)), turn(0), turns(), comes()), [[50], [0], [1]])

    def test_one_thing(self):
        self.assertEqual(answers_of(begin(50, 1, people(50)), comes()), [[2]])
        self.assertEqual(answers_of(begin(0, 5, stones(50)), comes()), [[2]])

    def test_behind_turns_one_after_another(self):
        # Both above, the person alone, the stone alone, none: a chain of three turns.
        tower = begin(10, 1, people(50) + stones(45))
        self.assertEqual(
            answers_of(tower, comes(), turn(1), comes(), turn(0, 1), comes(), turn(1), comes()),
            [[4], [45], [3], [5], [2], [45], [1]],
        )

    def test_all_ways_of_five_things(self):
        for holds in (1, 2, 5):
            self.assertEqual(last(begin(0, holds, stones(1, 2, 3, 4, 5)), comes()), [32])

    def test_some_ways_are_not_come_to(self):
        # No one goes alone: by 2 person 1 gets down against the stone, by 3 person 0 against person 1 too.
        self.assertEqual(last(begin(3, 1, people(50, 47) + stones(45)), comes()), [8])
        self.assertEqual(last(begin(2, 1, people(50, 47) + stones(45)), comes()), [4])
        self.assertEqual(last(begin(1, 1, people(50, 47) + stones(45)), comes()), [2])

    def test_what_a_basket_holds_counts(self):
        # Only both people at once are heavier than the stone.
        self.assertEqual(last(begin(2, 2, people(10, 10) + stones(18)), comes()), [4])
        self.assertEqual(last(begin(2, 1, people(10, 10) + stones(18)), comes()), [2])

    def test_the_queen(self):
        self.assertEqual(answers_of(QUEEN, comes(), turn(3), turn(2, 3), comes()), [[16], [75], [15], [14]])

    def test_by_the_limit_as_it_is(self):
        self.assertEqual(
            answers_of(QUEEN, comes(), limit(14), comes(), limit(15), comes()), [[16], [15], [2], [14], [16]]
        )

    def test_nothing_changes(self):
        looked = [1, 15, 2, 195, 1, 105, 1, 90, 1, 75, 0, 3, 0, 1, 2]
        given = answers_of(QUEEN, turn(3), fewest(), look(), comes(), comes(), look(), fewest())
        self.assertEqual(given[2:6], [looked, given[3], given[3], looked])
        self.assertEqual(given[1], given[6])


if __name__ == "__main__":
    unittest.main()
