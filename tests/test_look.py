import unittest

from tests.line import (
    answers_of, begin, comes, fewest, follow, last, least, limit, look, people, stones, to, turn, turns, why,
)

PAIR = begin(10, 1, people(50) + stones(45))


class Look(unittest.TestCase):
    def test_a_new_tower(self):
        self.assertEqual(last(PAIR, look()), [0, 10, 1, 50, 1, 45, 0, 2, 0, 1])
        self.assertEqual(last(begin(0, 5, stones(1)), look()), [0, 0, 5, 1, 0, 1, 0])
        self.assertEqual(last(begin(300, 1, people(300)), look()), [0, 300, 1, 300, 1, 1, 0])

    def test_five_things_in_their_order(self):
        things = [[9, 1], [300, 0], [1, 1], [9, 0], [7, 1]]
        self.assertEqual(
            last(begin(4, 3, things), look()), [0, 4, 3, 9, 1, 300, 0, 1, 1, 9, 0, 7, 1, 5, 0, 1, 2, 3, 4]
        )

    def test_who_is_above_rising(self):
        tower = begin(0, 2, stones(4, 3, 2, 1))
        looked = answers_of(tower, turn(3, 1), look(), turn(0, 3), look(), turn(2, 3), look())[1::2]
        self.assertEqual([given[11:] for given in looked], [[2, 0, 2], [2, 2, 3], [0]])

    def test_none_above(self):
        self.assertEqual(last(begin(50, 2, people(50)), turn(0), look()), [1, 50, 2, 50, 1, 0])


class TurnsMade(unittest.TestCase):
    def test_by_turn(self):
        self.assertEqual(
            answers_of(PAIR, turn(1), look(), turn(0, 1), look(), turn(1), look())[1::2],
            [[1, 10, 1, 50, 1, 45, 0, 1, 0], [2, 10, 1, 50, 1, 45, 0, 1, 1], [3, 10, 1, 50, 1, 45, 0, 0]],
        )

    def test_by_follow_each_turn(self):
        self.assertEqual(answers_of(PAIR, follow(2), look())[1][0], 2)
        self.assertEqual(answers_of(PAIR, follow(1), look(), follow(1), look())[1::2], [
            [1, 10, 1, 50, 1, 45, 0, 1, 0], [2, 10, 1, 50, 1, 45, 0, 1, 1],
        ])

    def test_by_both(self):
        self.assertEqual(answers_of(PAIR, turn(1), follow(1), turn(1), look())[3], [3, 10, 1, 50, 1, 45, 0, 0])

    def test_not_by_refused_ones(self):
        self.assertEqual(
            answers_of(PAIR, turn(9), turn(0, 0), turn(0, 1), turn(0), turn(), follow(0), follow(3), look()),
            [[-1], [-1], [-4], [-7], [-6], [-1], [-1], [0, 10, 1, 50, 1, 45, 0, 2, 0, 1]],
        )
        self.assertEqual(answers_of(PAIR, turn(1), turn(1), limit(4), follow(1), look())[1:], [
            [-6], [10], [-6], [1, 4, 1, 50, 1, 45, 0, 1, 0],
        ])

    def test_not_by_other_calls(self):
        others = (why(1), turns(), fewest(), to(), comes(), least(), limit(10), limit(301), look())
        self.assertEqual(last(PAIR, turn(1), *others, look()), [1, 10, 1, 50, 1, 45, 0, 1, 0])

    def test_more_turns_than_a_way_has(self):
        # The lightest stone comes up again against each of the others.
        tower = begin(0, 1, stones(1, 2, 3, 4, 5))
        made = [turn(0), turn(0, 1), turn(0), turn(0, 2), turn(0), turn(0, 3), turn(0), turn(0, 4), turn(0)]
        self.assertEqual(last(tower, *made, look()), [9, 0, 1, 1, 0, 2, 0, 3, 0, 4, 0, 5, 0, 0])


class ASecondBegin(unittest.TestCase):
    def test_all_anew(self):
        self.assertEqual(
            answers_of(PAIR, turn(1), follow(1), limit(20), look(), begin(30, 2, stones(8, 9)), look())[3:],
            [[2, 20, 1, 50, 1, 45, 0, 1, 1], [0], [0, 30, 2, 8, 0, 9, 0, 2, 0, 1]],
        )

    def test_the_same_tower(self):
        self.assertEqual(
            answers_of(PAIR, turn(1), follow(1), limit(20), PAIR, look(), turn(1), look())[3:],
            [[0], [0, 10, 1, 50, 1, 45, 0, 2, 0, 1], [45], [1, 10, 1, 50, 1, 45, 0, 1, 0]],
        )

    def test_a_refused_one_leaves_all(self):
        refused = (begin(301, 1, stones(8)), begin(30, 0, stones(8)), begin(30, 1, []), begin(30, 1, [[8]]))
        self.assertEqual(
            answers_of(PAIR, turn(1), follow(1), limit(20), *refused, look())[3:],
            [[-1]] * 4 + [[2, 20, 1, 50, 1, 45, 0, 1, 1]],
        )


class LookAlone(unittest.TestCase):
    def test_nothing_changes(self):
        given = answers_of(PAIR, turn(1), look(), look(), fewest(), look())
        self.assertEqual(given[1:], [given[1], given[1], [1, 2, 0, 1], given[1]])


if __name__ == "__main__":
    unittest.main()
