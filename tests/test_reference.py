import random
import unittest

from tests import line
from tests.reference import Reference


def some_things(source, count):
    heaviest = source.choice((4, 12, 40, 300))
    return [[source.randint(1, heaviest), source.choice((0, 1, 1))] for thing in range(count)]


def wrong_begin(source):
    things = [
        [source.choice((0, 1, 2, 300, 301, 400)) for number in range(source.choice((0, 1, 2, 2, 2, 3)))]
        for thing in range(source.randint(0, 6))
    ]
    return ("begin", (source.choice((0, 20, 300, 301, 400)), source.randint(0, 9), things))


def some_begin(source):
    limit = source.choice((source.randint(0, 5), source.randint(0, 60), source.randint(0, 300)))
    return ("begin", (limit, source.randint(1, source.choice((2, 5))), some_things(source, source.randint(1, 5))))


def some_call(source):
    name = source.choice(("turn", "turn", "why", "to", "turns", "fewest"))
    if name in ("turns", "fewest"):
        return (name, ())
    if source.randint(0, 4) == 0:
        return (name, tuple(source.randint(0, 9) for thing in range(source.randint(0, 6))))
    return (name, tuple(source.sample(range(5), source.randint(0, 4))))


def some_line(source):
    calls = [some_call(source)] if source.randint(0, 3) == 0 else []
    calls.append(some_begin(source))
    for each in range(14):
        chance = source.randint(0, 19)
        if chance == 0:
            calls.append(some_begin(source))
        elif chance == 1:
            calls.append(wrong_begin(source))
        else:
            calls.append(some_call(source))
    return calls


class AgainstTheReference(unittest.TestCase):
    def hold(self, calls):
        reference = Reference()
        expected = [reference.answer(name, arguments) for name, arguments in calls]
        given = line.ask(*[getattr(line, name)(*arguments) for name, arguments in calls])
        self.assertEqual(given, expected, calls)

    def test_lines_of_many_calls(self):
        source = random.Random(20261118)
        for each in range(400):
            self.hold(some_line(source))

    def test_every_goal_of_some_towers(self):
        source = random.Random(7)
        for each in range(12):
            begun = some_begin(source)
            count = len(begun[1][2])
            goals = [[number for number in range(count) if goal >> number & 1] for goal in range(1 << count)]
            self.hold([begun, ("turns", ()), ("fewest", ())] + [("to", tuple(goal)) for goal in goals])


if __name__ == "__main__":
    unittest.main()
