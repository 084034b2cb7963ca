"""Writes lines of calls as the program takes them, and splits what it answers."""

from twobaskets.tower import answers

PERSON = 1
STONE = 0


def with_count(numbers):
    return [len(numbers)] + list(numbers)


def call(place, numbers=(), lists=()):
    written = [place] + with_count(numbers) + [len(lists)]
    for numbers_of_list in lists:
        written += with_count(numbers_of_list)
    return written


def begin(limit, holds, things):
    return call(0, (limit, holds), things)


def turn(*things):
    return call(1, (), [things])


def why(*things):
    return call(2, (), [things])


def turns():
    return call(3)


def fewest():
    return call(4)


def to(*things):
    return call(5, (), [things])


def comes():
    return call(6)


def least():
    return call(7)


def limit(number):
    return call(8, (number,))


def follow(number):
    return call(9, (number,))


def look():
    return call(10)


def people(*weights):
    return [[weight, PERSON] for weight in weights]


def stones(*weights):
    return [[weight, STONE] for weight in weights]


def line_of(calls):
    numbers = []
    for written in calls:
        numbers += written
    return numbers


def split(given):
    found = []
    at = 0
    while at < len(given):
        count = given[at]
        if count < 1 or at + 1 + count > len(given):
            raise AssertionError(f"not a list of answers: {given}")
        found.append(given[at + 1:at + 1 + count])
        at += 1 + count
    return found


def ask(*calls):
    """The answers to a line of these calls, a list each."""
    found = split(answers(line_of(calls)))
    if len(found) != len(calls):
        raise AssertionError(f"{len(calls)} calls, {len(found)} answers")
    return found


def last(*calls):
    """The answer to the last of these calls."""
    return ask(*calls)[-1]


def answers_of(tower, *calls):
    """The answers but the begin's, which is to be taken."""
    given = ask(tower, *calls)
    if given[0] != [0]:
        raise AssertionError("the tower is refused")
    return given[1:]
