import unittest

from tests.line import ask, begin, fewest, last, people, stones, to, turn, turns, why


def answer(limit, holds, things):
    return last(begin(limit, holds, things))


class BeginTakes(unittest.TestCase):
    def test_ordinary_towers(self):
        self.assertEqual(answer(15, 2, people(195, 105, 90) + stones(75)), [0])
        self.assertEqual(answer(40, 3, stones(7, 300)), [0])

    def test_limits_at_the_edges(self):
        self.assertEqual(answer(0, 2, people(50)), [0])
        self.assertEqual(answer(300, 2, people(50)), [0])

    def test_holds_at_the_edges(self):
        self.assertEqual(answer(10, 1, people(50)), [0])
        self.assertEqual(answer(10, 5, people(50)), [0])

    def test_one_and_five_things(self):
        self.assertEqual(answer(10, 2, stones(50)), [0])
        self.assertEqual(answer(10, 2, people(1, 2, 3) + stones(4, 5)), [0])

    def test_weights_at_the_edges(self):
        self.assertEqual(answer(10, 2, [[1, 0], [1, 1], [300, 0], [300, 1]]), [0])

    def test_all_things_are_above(self):
        for count in range(1, 6):
            things = stones(*[10] * count)
            self.assertEqual(last(begin(0, 5, things), to(*range(count))), [0])

    def test_the_limit_is_kept(self):
        self.assertEqual(ask(begin(50, 1, people(50)), turn(0)), [[0], [50]])
        self.assertEqual(ask(begin(49, 1, people(50)), turn(0)), [[0], [-7]])

    def test_what_a_basket_holds_is_kept(self):
        self.assertEqual(ask(begin(0, 2, stones(1, 2)), turn(0, 1)), [[0], [3]])
        self.assertEqual(ask(begin(0, 1, stones(1, 2)), turn(0, 1)), [[0], [-4]])

    def test_weights_and_people_are_kept_in_their_order(self):
        self.assertEqual(
            ask(begin(5, 1, [[3, 0], [7, 1], [9, 0]]), why(0), why(1), why(2), turn(2), turn(0)),
            [[0], [0], [-7], [0], [9], [3]],
        )


class BeginRefuses(unittest.TestCase):
    def test_limits(self):
        self.assertEqual(answer(301, 2, people(50)), [-1])
        self.assertEqual(answer(400, 2, people(50)), [-1])

    def test_holds(self):
        for holds in (0, 6, 7, 9):
            self.assertEqual(answer(10, holds, people(50)), [-1])

    def test_no_things_and_six(self):
        self.assertEqual(answer(10, 2, []), [-1])
        self.assertEqual(answer(10, 2, stones(1, 2, 3, 4, 5, 6)), [-1])

    def test_things_of_none_one_and_three_numbers(self):
        for thing in ([], [50], [50, 1, 1], [1, 1, 0]):
            self.assertEqual(answer(10, 2, [thing]), [-1])
            self.assertEqual(answer(10, 2, people(50) + [thing]), [-1])
            self.assertEqual(answer(10, 2, [thing] + people(50)), [-1])

    def test_weights(self):
        for weight in (0, 301, 400):
            self.assertEqual(answer(10, 2, [[weight, 0]]), [-1])
            self.assertEqual(answer(10, 2, people(50) + [[weight, 1]] + people(50)), [-1])

    def test_neither_person_nor_stone(self):
        for kind in (2, 3, 400):
            self.assertEqual(answer(10, 2, [[50, kind]]), [-1])
            self.assertEqual(answer(10, 2, [[50, kind], [50, 1]]), [-1])

    def test_several_faults_are_one_refusal(self):
        self.assertEqual(answer(400, 9, [[], [0, 2, 0], [301]]), [-1])


class BeginAgain(unittest.TestCase):
    def test_a_second_tower_instead_of_the_first(self):
        self.assertEqual(
            ask(
                begin(10, 1, people(50) + stones(45)), turn(1), to(0),
                begin(300, 5, stones(8, 9, 10)), to(0, 1, 2), turn(0, 1, 2), to(),
            ),
            [[0], [45], [0], [0], [0], [27], [0]],
        )

    def test_the_same_tower_again_has_all_above(self):
        tower = begin(10, 1, people(50) + stones(45))
        self.assertEqual(
            ask(tower, turn(1), turn(0, 1), fewest(), tower, to(0, 1), fewest()),
            [[0], [45], [5], [0], [0], [0], [2, 1, 1, 2, 0, 1]],
        )

    def test_fewer_things_than_before(self):
        self.assertEqual(
            ask(begin(10, 5, stones(1, 2, 3)), why(2), begin(10, 5, stones(1)), why(2), why(0)),
            [[0], [0], [0], [-1], [0]],
        )

    def test_a_refused_begin_leaves_the_tower_that_was(self):
        self.assertEqual(
            ask(
                begin(10, 1, people(50) + stones(45)), turn(1),
                begin(301, 5, stones(8, 9, 10)), begin(9, 0, stones(8)), begin(9, 5, []), begin(9, 5, [[8, 2]]),
                to(0), turns(), turn(0, 1), to(1),
            ),
            [[0], [45], [-1], [-1], [-1], [-1], [0], [1, 2, 0, 1], [5], [0]],
        )


if __name__ == "__main__":
    unittest.main()
