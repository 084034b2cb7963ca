import unittest

from tests.line import ask, begin, fewest, last, people, stones, to, turn, turns

QUEEN = begin(15, 2, people(195, 105, 90) + stones(75))
QUEENS_WAY = [10, 1, 3, 2, 2, 3, 1, 3, 2, 1, 2, 2, 2, 3, 1, 3, 3, 0, 1, 3, 1, 3, 2, 1, 2, 2, 2, 3]


class Turns(unittest.TestCase):
    def test_how_many_and_the_first(self):
        self.assertEqual(last(begin(10, 1, people(50) + stones(45)), turns()), [1, 1, 1])
        self.assertEqual(last(begin(10, 5, people(50) + stones(45, 5)), turns()), [3, 1, 1])

    def test_one_thing(self):
        self.assertEqual(last(begin(10, 1, people(10)), turns()), [1, 1, 0])

    def test_five_things(self):
        self.assertEqual(last(begin(0, 5, stones(1, 2, 3, 4, 5)), turns()), [31, 1, 0])
        self.assertEqual(last(begin(0, 2, stones(1, 2, 3, 4, 5)), turns()), [15, 1, 0])
        self.assertEqual(last(begin(0, 1, stones(1, 2, 3, 4, 5)), turns()), [5, 1, 0])

    def test_none_can_be_made(self):
        self.assertEqual(last(begin(49, 5, people(50, 50)), turns()), [0])
        self.assertEqual(last(begin(50, 1, people(50)), turn(0), turns()), [0])

    def test_fewer_things_are_ahead_of_lower_numbers(self):
        # With 0 and 2 above there are three: 2 alone, 0 against 1, and 0 with 2 against 1.
        self.assertEqual(last(begin(10, 5, people(50) + stones(45, 5)), turn(1), turns()), [3, 1, 2])

    def test_of_as_many_the_lower_number_where_they_first_differ(self):
        # With 0 and 1 above the turns of two are 0 and 3, 1 and 2, 1 and 3; no person can go alone.
        self.assertEqual(last(begin(9, 1, people(30, 38) + stones(31, 29)), turn(2), turn(3), turns()), [3, 2, 0, 3])

    def test_the_number_is_of_turns_now(self):
        self.assertEqual(
            ask(begin(0, 1, stones(4, 9)), turns(), turn(0), turns(), turn(1), turns()),
            [[0], [2, 1, 0], [4], [2, 1, 1], [9], [0]],
        )

    def test_nothing_changes(self):
        self.assertEqual(ask(QUEEN, turns(), turns(), to(0, 1, 2, 3)), [[0], [1, 1, 3], [1, 1, 3], [0]])


class Fewest(unittest.TestCase):
    def test_one_person(self):
        self.assertEqual(last(begin(50, 1, people(50)), fewest()), [1, 1, 0])

    def test_a_stone_helps(self):
        self.assertEqual(last(begin(10, 1, people(50) + stones(45)), fewest()), [2, 1, 1, 2, 0, 1])

    def test_the_queen(self):
        self.assertEqual(last(QUEEN, fewest()), QUEENS_WAY)

    def test_five_things(self):
        tower = begin(3, 3, [[2, 1], [10, 1], [8, 1], [4, 1], [2, 0]])
        way = [12, 1, 0, 1, 4, 2, 0, 3, 1, 0, 3, 0, 2, 3, 1, 0, 2, 0, 3, 1, 0, 2, 1, 2, 3, 0, 2, 3, 1, 0, 2, 3, 4]
        self.assertEqual(last(tower, fewest()), way)

    def test_fewer_turns_ahead_of_fewer_things(self):
        self.assertEqual(last(begin(300, 5, people(10, 10)), fewest()), [1, 2, 0, 1])
        self.assertEqual(last(begin(300, 5, people(10, 10) + stones(5)), fewest()), [1, 2, 0, 1])

    def test_of_as_short_ways_the_first(self):
        self.assertEqual(last(begin(300, 1, people(10, 10)), fewest()), [2, 1, 0, 1, 1])
        self.assertEqual(last(begin(300, 2, people(10, 10, 10)), fewest()), [2, 1, 0, 2, 1, 2])
        self.assertEqual(last(begin(300, 2, people(10, 10, 10, 10)), fewest()), [2, 2, 0, 1, 2, 2, 3])

    def test_of_several_last_turns_the_one_with_fewer_things(self):
        # 0 against 1 and 0 with 2 against 1 both bring the one person down.
        self.assertEqual(last(begin(10, 5, people(50) + stones(45, 5)), turn(1), fewest()), [1, 2, 0, 1])

    def test_stones_may_be_anywhere(self):
        self.assertEqual(last(begin(50, 1, people(50) + stones(300, 300)), turn(1), fewest()), [1, 1, 0])

    def test_all_people_are_down_already(self):
        self.assertEqual(ask(begin(50, 1, people(50) + stones(9)), turn(0), fewest()), [[0], [50], [0]])

    def test_there_are_no_people(self):
        self.assertEqual(last(begin(0, 1, stones(9, 8)), fewest()), [0])

    def test_there_is_no_way(self):
        self.assertEqual(last(begin(49, 1, people(50)), fewest()), [-6])
        self.assertEqual(last(begin(0, 5, people(51) + stones(50)), fewest()), [-6])
        self.assertEqual(last(begin(10, 1, people(50, 50) + stones(50)), fewest()), [-6])

    def test_there_is_no_way_from_here_on(self):
        # Person 0 gets down only with person 1 beside it, who can't come up again.
        tower = begin(3, 2, people(8, 2) + stones(8))
        self.assertEqual(ask(tower, fewest(), turn(1), fewest())[1:], [[2, 1, 2, 3, 0, 1, 2], [2], [-6]])

    def test_the_way_is_from_where_things_are(self):
        self.assertEqual(
            ask(QUEEN, turn(3), fewest(), turn(2, 3), fewest()),
            [[0], [75], [9] + QUEENS_WAY[3:], [15], [8] + QUEENS_WAY[6:]],
        )

    def test_nothing_changes(self):
        self.assertEqual(ask(QUEEN, fewest(), fewest(), to(0, 1, 2, 3))[1:], [QUEENS_WAY, QUEENS_WAY, [0]])


class To(unittest.TestCase):
    def test_just_these_are_above_already(self):
        self.assertEqual(last(QUEEN, to(0, 1, 2, 3)), [0])
        self.assertEqual(last(QUEEN, to(3, 1, 0, 2)), [0])
        self.assertEqual(last(QUEEN, turn(3), to(2, 1, 0)), [0])
        self.assertEqual(last(begin(5, 1, people(5)), turn(0), to()), [0])

    def test_just_these_and_no_others(self):
        tower = begin(10, 1, people(50) + stones(45))
        self.assertEqual(
            ask(tower, to(0), to(1), to(), to(0, 1)),
            [[0], [1, 1, 1], [2, 1, 1, 2, 0, 1], [3, 1, 1, 2, 0, 1, 1, 1], [0]],
        )

    def test_the_queen_with_the_stone_down_too(self):
        self.assertEqual(last(QUEEN, to()), [11] + QUEENS_WAY[1:] + [1, 3])
        self.assertEqual(last(QUEEN, to(3)), QUEENS_WAY)

    def test_things_in_any_order(self):
        tower = begin(0, 1, stones(10, 20, 30))
        self.assertEqual(ask(tower, to(1, 2), to(2, 1)), [[0], [1, 1, 0], [1, 1, 0]])

    def test_fewer_turns_ahead_of_fewer_things(self):
        self.assertEqual(last(begin(0, 3, stones(10, 20, 30)), to()), [1, 3, 0, 1, 2])

    def test_of_as_short_ways_the_first(self):
        self.assertEqual(last(begin(0, 2, stones(10, 20, 30)), to()), [2, 1, 0, 2, 1, 2])
        self.assertEqual(last(begin(0, 1, stones(10, 20, 30)), to()), [3, 1, 0, 1, 1, 1, 2])

    def test_things_come_up_again(self):
        self.assertEqual(last(begin(0, 1, stones(10, 20)), turn(0), to(0)), [1, 2, 0, 1])

    def test_there_is_no_way(self):
        self.assertEqual(last(begin(49, 1, people(50)), to()), [-6])
        self.assertEqual(last(begin(0, 1, stones(10, 20)), turn(1), to(0, 1)), [-6])
        self.assertEqual(last(begin(0, 1, stones(10, 20)), turn(0), turn(1), to(0)), [-6])

    def test_a_thing_that_is_not_there(self):
        tower = begin(0, 1, stones(10, 20))
        self.assertEqual(ask(tower, to(2), to(9), to(0, 1, 2), to(2, 0)), [[0]] + [[-1]] * 4)

    def test_a_thing_named_twice(self):
        tower = begin(0, 1, stones(10, 20))
        self.assertEqual(ask(tower, to(0, 0), to(0, 1, 0), to(1, 1, 1, 1, 1, 1)), [[0]] + [[-1]] * 3)

    def test_wrong_ahead_of_no_way(self):
        self.assertEqual(ask(begin(49, 1, people(50)), to(1), to(0, 0)), [[0], [-1], [-1]])

    def test_nothing_changes(self):
        self.assertEqual(ask(QUEEN, to(3), to(9), to(3), to(0, 1, 2, 3))[1:], [QUEENS_WAY, [-1], QUEENS_WAY, [0]])


if __name__ == "__main__":
    unittest.main()
