import unittest

from tests import line
from tests.line import ask, begin, fewest, line_of, people, stones, to, turn, turns, why
from twobaskets.tower import answers

BUT_BEGIN = [
    turn(), turn(0), turn(9, 9, 9, 9, 9, 9), why(), why(0, 0), why(1, 2), turns(), fewest(), to(), to(0), to(7, 7),
    line.comes(), line.least(), line.limit(0), line.limit(301), line.limit(400), line.follow(0), line.follow(40),
    line.look(),
]
WHOLE_LINE = line_of([
    turn(0), begin(10, 1, people(50) + stones(45)), turns(), fewest(), to(1), why(0, 1), turn(1), turn(9), turn(1, 0),
    begin(301, 1, [[], [1], [1, 2, 3]]), to(0, 1), fewest(), to(), line.comes(), line.least(), line.look(),
    begin(4, 2, people(50) + stones(45)), line.follow(1), line.limit(400), line.limit(5), line.least(), line.comes(),
    line.follow(3), line.follow(2), line.look(),
])


class Frozen(list):
    """A list that can't be changed, not for a while either."""

    def refuse(self, *arguments, **named):
        raise AssertionError("what is handed in is changed")

    append = extend = insert = remove = pop = clear = sort = reverse = refuse
    __setitem__ = __delitem__ = __iadd__ = __imul__ = refuse


class WithoutATower(unittest.TestCase):
    def test_every_call_but_begin(self):
        for call in BUT_BEGIN:
            self.assertEqual(answers(call), [1, -9])

    def test_one_behind_another(self):
        self.assertEqual(ask(*BUT_BEGIN), [[-9]] * len(BUT_BEGIN))

    def test_behind_a_begin_that_is_refused(self):
        for refused in (begin(301, 1, stones(5)), begin(9, 0, stones(5)), begin(9, 1, []), begin(9, 1, [[5]])):
            self.assertEqual(ask(refused, *BUT_BEGIN), [[-1]] + [[-9]] * len(BUT_BEGIN))

    def test_till_a_begin_is_taken(self):
        self.assertEqual(
            ask(turn(0), begin(9, 6, stones(5)), turn(0), begin(9, 5, stones(5)), turn(0)), [[-9], [-1], [-9], [0], [5]]
        )


class WhatIsGivenBack(unittest.TestCase):
    def test_the_numbers_as_they_stand(self):
        self.assertEqual(
            answers(
                [0, 2, 10, 1, 2, 2, 50, 1, 2, 45, 0, 3, 0, 0, 4, 0, 0]
                + [1, 0, 1, 1, 1, 5, 0, 1, 0, 2, 0, 1, 2, 1, 0]
            ),
            [1, 0, 3, 1, 1, 1, 6, 2, 1, 1, 2, 0, 1, 1, 45, 6, 2, 2, 0, 1, 1, 1, 1, 0],
        )

    def test_the_numbers_of_the_other_calls(self):
        self.assertEqual(
            answers(
                [0, 2, 4, 1, 2, 2, 50, 1, 2, 45, 0, 6, 0, 0, 7, 0, 0, 9, 1, 1, 0, 8, 1, 10, 0, 9, 1, 2, 0, 10, 0, 0]
                + [8, 1, 301, 0, 9, 1, 0, 0]
            ),
            [1, 0, 1, 2, 1, 5, 1, -6, 1, 4, 2, 1, 1, 9, 2, 10, 1, 50, 1, 45, 0, 1, 1, 1, -1, 1, -1],
        )

    def test_a_call_alone(self):
        self.assertEqual(answers([0, 2, 0, 1, 1, 2, 1, 0]), [1, 0])
        self.assertEqual(answers([0, 2, 0, 0, 0]), [1, -1])
        self.assertEqual(answers([1, 0, 1, 0]), [1, -9])

    def test_a_new_list_of_whole_numbers(self):
        given = answers(WHOLE_LINE)
        self.assertIs(type(given), list)
        self.assertEqual({type(number) for number in given}, {int})

    def test_a_line_of_sixty_calls(self):
        things = people(60, 61, 62) + stones(63, 64)
        calls = [begin(15, 2, things)] + [fewest(), to(), turns()] * 19 + [why(4), turn(4)]
        self.assertEqual(len(calls), 60)
        given = ask(*calls)
        self.assertEqual(given[1:4] * 19, given[1:58])
        self.assertEqual(given[58:], [[0], [64]])


class WhatIsHandedIn(unittest.TestCase):
    def test_is_as_it_was(self):
        handed_in = list(WHOLE_LINE)
        answers(handed_in)
        self.assertEqual(handed_in, WHOLE_LINE)

    def test_is_not_changed_for_a_while_either(self):
        self.assertEqual(answers(Frozen(WHOLE_LINE)), answers(WHOLE_LINE))

    def test_the_same_list_twice_is_answered_alike(self):
        first = answers(WHOLE_LINE)
        self.assertEqual(answers(WHOLE_LINE), first)

    def test_what_was_given_back_may_be_changed(self):
        first = answers(WHOLE_LINE)
        kept = list(first)
        first.clear()
        self.assertEqual(answers(WHOLE_LINE), kept)

    def test_no_tower_is_left_from_another_time(self):
        self.assertEqual(ask(begin(10, 1, stones(45))), [[0]])
        self.assertEqual(ask(turn(0), fewest()), [[-9], [-9]])


if __name__ == "__main__":
    unittest.main()
