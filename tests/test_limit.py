import unittest

from tests.line import (
    answers_of, begin, comes, fewest, follow, least, limit, look, people, stones, to, turn, turns, why,
)

ONE = people(50)
PAIR = people(50) + stones(45)


class Limit(unittest.TestCase):
    def test_the_limit_that_was(self):
        self.assertEqual(answers_of(begin(10, 1, ONE), limit(20), limit(30), limit(30)), [[10], [20], [30]])

    def test_the_edges(self):
        self.assertEqual(answers_of(begin(300, 1, ONE), limit(0), limit(300), limit(0)), [[300], [0], [300]])
        self.assertEqual(answers_of(begin(0, 1, ONE), limit(300), limit(1), limit(299)), [[0], [300], [1]])

    def test_above_three_hundred_is_refused(self):
        self.assertEqual(answers_of(begin(10, 1, ONE), limit(301), limit(400), limit(302)), [[-1]] * 3)

    def test_a_refused_one_changes_nothing(self):
        self.assertEqual(
            answers_of(begin(10, 1, PAIR), turn(1), look(), limit(301), limit(400), look(), why(0), limit(11)),
            [[45], [1, 10, 1, 50, 1, 45, 0, 1, 0], [-1], [-1], [1, 10, 1, 50, 1, 45, 0, 1, 0], [-7], [10]],
        )

    def test_nothing_else_changes(self):
        self.assertEqual(
            answers_of(begin(10, 1, PAIR), turn(1), limit(7), look()), [[45], [10], [1, 7, 1, 50, 1, 45, 0, 1, 0]]
        )

    def test_it_is_that_of_the_tower_alone(self):
        self.assertEqual(
            answers_of(begin(10, 1, ONE), limit(60), begin(20, 1, ONE), look(), limit(5)),
            [[10], [0], [0, 20, 1, 50, 1, 1, 0], [20]],
        )

    def test_a_refused_begin_leaves_it(self):
        self.assertEqual(answers_of(begin(10, 1, ONE), limit(60), begin(20, 6, ONE), limit(5)), [[10], [-1], [60]])


class FromThenOn(unittest.TestCase):
    def test_turn(self):
        self.assertEqual(
            answers_of(begin(49, 1, ONE), turn(0), limit(50), turn(0), to()), [[-7], [49], [50], [0]]
        )
        self.assertEqual(answers_of(begin(50, 1, ONE), limit(49), turn(0), to(0)), [[50], [-7], [0]])

    def test_why(self):
        self.assertEqual(
            answers_of(begin(49, 1, ONE), why(0), limit(50), why(0), limit(49), why(0)), [[-7], [49], [0], [50], [-7]]
        )

    def test_turns(self):
        self.assertEqual(
            answers_of(begin(0, 2, PAIR), turns(), limit(50), turns(), limit(95), turns()),
            [[1, 1, 1], [0], [2, 1, 0], [50], [3, 1, 0]],
        )

    def test_fewest(self):
        self.assertEqual(
            answers_of(begin(4, 1, PAIR), fewest(), limit(5), fewest(), limit(50), fewest(), limit(0), fewest()),
            [[-6], [4], [2, 1, 1, 2, 0, 1], [5], [1, 1, 0], [50], [-6]],
        )

    def test_to(self):
        self.assertEqual(
            answers_of(begin(4, 1, PAIR), to(1), limit(5), to(1), limit(50), to(1), limit(4), to(1)),
            [[-6], [4], [2, 1, 1, 2, 0, 1], [5], [1, 1, 0], [50], [-6]],
        )

    def test_comes(self):
        self.assertEqual(
            answers_of(begin(4, 1, PAIR), comes(), limit(5), comes(), limit(4), comes()), [[2], [4], [4], [5], [2]]
        )

    def test_follow(self):
        self.assertEqual(
            answers_of(begin(4, 1, PAIR), follow(1), limit(50), follow(2), limit(5), follow(2), look()),
            [[-6], [4], [-1], [50], [1, 1], [2, 5, 1, 50, 1, 45, 0, 1, 1]],
        )

    def test_least_goes_by_none(self):
        self.assertEqual(
            answers_of(begin(4, 1, PAIR), least(), limit(0), least(), limit(300), least()), [[5], [4], [5], [0], [5]]
        )


if __name__ == "__main__":
    unittest.main()
