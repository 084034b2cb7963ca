import random
import unittest

from tests import line
from tests.reference import Reference

WITHOUT_ARGUMENTS = ("turns", "fewest", "comes", "least", "look")
WITH_THINGS = ("turn", "turn", "why", "to")


def some_things(source, count):
    heaviest = source.choice((4, 12, 40, 300))
    return [[source.randint(1, heaviest), source.choice((0, 1, 1))] for thing in range(count)]


def wrong_begin(source):
    things = [
        [source.choice((0, 1, 2, 300, 301, 400)) for number in range(source.choice((0, 1, 2, 2, 2, 3)))]
        for thing in range(source.randint(0, 6))
    ]
    return ("begin", (source.choice((0, 20, 300, 301, 400)), source.randint(0, 9), things))


def some_limit(source):
    return source.choice((source.randint(0, 5), source.randint(0, 60), source.randint(0, 300)))


def some_begin(source):
    holds = source.randint(1, source.choice((2, 5)))
    return ("begin", (some_limit(source), holds, some_things(source, source.choice((1, 2, 3, 4, 4, 5, 5)))))


def call_with_things(source, name):
    if source.randint(0, 7) == 0:
        return (name, tuple(source.randint(0, 9) for thing in range(source.randint(0, 6))))
    return (name, tuple(source.sample(range(source.choice((3, 4, 5))), source.choice((0, 1, 1, 2, 2, 3)))))


def some_call(source):
    name = source.choice(WITHOUT_ARGUMENTS + WITH_THINGS + ("limit", "follow"))
    if name in WITH_THINGS:
        return call_with_things(source, name)
    if name == "limit":
        return (name, (source.choice((some_limit(source), some_limit(source), source.randint(290, 400))),))
    if name == "follow":
        return (name, (source.choice((1, 1, 2, source.randint(0, 4), source.randint(0, 40))),))
    return (name, ())


def some_line(source, count):
    calls = [some_call(source)] if source.randint(0, 3) == 0 else []
    calls.append(some_begin(source))
    while len(calls) < count:
        chance = source.randint(0, 24)
        if chance == 0:
            calls.append(some_begin(source))
        elif chance == 1:
            calls.append(wrong_begin(source))
        else:
            calls.append(some_call(source))
    return calls[:count]


def asked(calls):
    return line.ask(*[getattr(line, name)(*arguments) for name, arguments in calls])


class AgainstTheReference(unittest.TestCase):
    def hold(self, calls):
        reference = Reference()
        expected = [reference.answer(name, arguments) for name, arguments in calls]
        self.assertEqual(asked(calls), expected, calls)

    def test_short_lines(self):
        source = random.Random(20261118)
        for each in range(300):
            self.hold(some_line(source, source.randint(1, 15)))

    def test_lines_of_sixty_calls(self):
        source = random.Random(60)
        for each in range(100):
            self.hold(some_line(source, 60))

    def test_every_goal_of_some_towers(self):
        source = random.Random(7)
        for each in range(12):
            begun = some_begin(source)
            count = len(begun[1][2])
            goals = [[number for number in range(count) if goal >> number & 1] for goal in range(1 << count)]
            self.hold([begun, ("turns", ()), ("fewest", ())] + [("to", tuple(goal)) for goal in goals])

    def test_ways_followed_to_their_end_by_any_steps(self):
        source = random.Random(10)
        for each in range(60):
            calls = [some_begin(source), ("least", ()), ("fewest", ())]
            for step in range(8):
                calls += [("follow", (source.randint(1, 3),)), ("look", ()), ("comes", ()), ("least", ())]
            self.hold(calls)


class WhatHoldsBetweenCalls(unittest.TestCase):
    def test_the_least_limit_is_enough_and_none_below_it(self):
        source = random.Random(8)
        for each in range(100):
            begun = some_begin(source)
            least = asked([begun, ("least", ())])[1][0]
            self.assertIn(least, range(301), begun)
            self.assertNotEqual(asked([begun, ("limit", (least,)), ("fewest", ())])[2], [-6], begun)
            if least > 0:
                self.assertEqual(asked([begun, ("limit", (least - 1,)), ("fewest", ())])[2], [-6], begun)

    def test_comes_counts_the_goals_that_to_has_a_way_to(self):
        source = random.Random(9)
        for each in range(30):
            begun = some_begin(source)
            count = len(begun[1][2])
            goals = [[number for number in range(count) if goal >> number & 1] for goal in range(1 << count)]
            given = asked([begun, ("comes", ())] + [("to", tuple(goal)) for goal in goals])
            self.assertEqual(given[1], [len([way for way in given[2:] if way != [-6]])], begun)


if __name__ == "__main__":
    unittest.main()
