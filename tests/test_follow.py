import unittest

from tests.line import answers_of, begin, fewest, follow, last, limit, look, people, stones, to, turn, why

QUEEN = begin(15, 2, people(195, 105, 90) + stones(75))
# Who is above behind each turn of the way that fewest tells.
QUEENS_STEPS = [[0, 1, 2], [0, 1, 3], [0, 1], [0, 2], [0, 3], [0], [1, 3], [1], [2], [3]]
PAIR = begin(10, 1, people(50) + stones(45))


def looked(made, above):
    return [made, 15, 2, 195, 1, 105, 1, 90, 1, 75, 0, len(above)] + above


class FollowIsMade(unittest.TestCase):
    def test_one_turn(self):
        self.assertEqual(answers_of(PAIR, follow(1), to(0)), [[1, 0], [0]])

    def test_none_above_then(self):
        self.assertEqual(answers_of(begin(50, 1, people(50)), follow(1), to()), [[0], [0]])

    def test_just_as_many_as_the_way_has_turns(self):
        self.assertEqual(answers_of(PAIR, follow(2), fewest()), [[1, 1], [0]])
        self.assertEqual(answers_of(QUEEN, follow(10), fewest()), [[1, 3], [0]])

    def test_the_first_turns_of_the_way_and_no_more(self):
        for count in range(1, 11):
            above = QUEENS_STEPS[count - 1]
            self.assertEqual(
                answers_of(QUEEN, follow(count), look()), [[len(above)] + above, looked(count, above)]
            )

    def test_one_behind_another(self):
        given = answers_of(QUEEN, *[follow(1)] * 10)
        self.assertEqual(given, [[len(above)] + above for above in QUEENS_STEPS])
        self.assertEqual(
            answers_of(QUEEN, follow(3), follow(4), follow(3)), [[2, 0, 1], [2, 1, 3], [1, 3]]
        )

    def test_of_as_short_ways_the_first(self):
        self.assertEqual(answers_of(begin(300, 2, people(10, 10, 10)), follow(1)), [[2, 1, 2]])
        self.assertEqual(answers_of(begin(300, 2, people(10, 10, 10, 10)), follow(1)), [[2, 2, 3]])

    def test_from_where_things_are(self):
        self.assertEqual(
            answers_of(QUEEN, turn(3), follow(1), turn(3), follow(1)), [[75], [3, 0, 1, 3], [75], [2, 0, 2]]
        )

    def test_the_turns_that_are_made_count(self):
        self.assertEqual(
            answers_of(QUEEN, follow(2), look(), turn(3), look(), follow(7), look())[1::2],
            [looked(2, [0, 1, 3]), looked(3, [0, 1]), looked(10, [3])],
        )


class FollowIsRefused(unittest.TestCase):
    def test_nought(self):
        self.assertEqual(answers_of(PAIR, follow(0), look()), [[-1], [0, 10, 1, 50, 1, 45, 0, 2, 0, 1]])

    def test_more_than_the_way_has_turns(self):
        self.assertEqual(answers_of(PAIR, follow(3), follow(40), to(0, 1)), [[-1], [-1], [0]])
        self.assertEqual(answers_of(QUEEN, follow(11), follow(40), to(0, 1, 2, 3)), [[-1], [-1], [0]])
        self.assertEqual(answers_of(QUEEN, follow(4), follow(7), follow(6)), [[2, 0, 2], [-1], [1, 3]])

    def test_no_way_whatever_the_number_is(self):
        for count in (0, 1, 2, 39, 40):
            self.assertEqual(last(begin(49, 1, people(50)), follow(count)), [-6])
            self.assertEqual(last(begin(10, 1, people(50, 50) + stones(50)), follow(count)), [-6])

    def test_no_way_from_here_on(self):
        tower = begin(3, 2, people(8, 2) + stones(8))
        self.assertEqual(answers_of(tower, turn(1), follow(1), follow(0), look())[1:], [
            [-6], [-6], [1, 3, 2, 8, 1, 2, 1, 8, 0, 2, 0, 2],
        ])

    def test_all_people_are_down_already(self):
        for count in (0, 1, 2, 40):
            self.assertEqual(answers_of(begin(50, 1, people(50) + stones(9)), turn(0), follow(count)), [[50], [-1]])
            self.assertEqual(last(begin(50, 1, stones(9, 8)), follow(count)), [-1])
            self.assertEqual(answers_of(PAIR, follow(2), follow(count)), [[1, 1], [-1]])

    def test_a_refused_follow_changes_nothing(self):
        refused = (follow(0), follow(8), follow(40))
        given = answers_of(QUEEN, follow(3), fewest(), *refused, look(), fewest(), why(2), limit(14))
        self.assertEqual(given[2:6], [[-1], [-1], [-1], looked(3, [0, 1])])
        self.assertEqual(given[6], given[1])
        self.assertEqual(given[7:], [[-6], [15]])

    def test_a_follow_refused_for_want_of_a_way_changes_nothing(self):
        self.assertEqual(
            answers_of(QUEEN, turn(3), limit(14), follow(1), follow(0), look(), limit(15), look())[2:],
            [[-6], [-6], [1, 14] + looked(1, [0, 1, 2])[2:], [14], looked(1, [0, 1, 2])],
        )


if __name__ == "__main__":
    unittest.main()
