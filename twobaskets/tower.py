"""Two baskets on a rope over a wheel: the calls that a line makes on one tower, and their answers.

A row is a tuple of numbers of things, rising. Which things are above is told by such a row too.
"""

BEGIN = 0
TURN = 1
WHY = 2
TURNS = 3
FEWEST = 4
TO = 5
COMES = 6
LEAST = 7
LIMIT = 8
FOLLOW = 9

DONE = 0
WRONG = -1
TOO_MANY = -4
NOT_HEAVIER = -6
NO_WAY = -6
TOO_UNLIKE = -7
NO_TOWER = -9

MOST_LIMIT = 300
MOST_HOLDS = 5
MOST_THINGS = 5
MOST_WEIGHT = 300
STONE = 0
PERSON = 1


class Tower:
    """The things, which of them are above behind the turns that were made, and what the baskets and the limit allow."""

    def __init__(self, limit, holds, things):
        self.limit = limit
        self.holds = holds
        self.weights = [thing[0] for thing in things]
        self.people = [number for number in range(len(things)) if things[number][1] == PERSON]
        self.rows = rows_of(len(things))
        self.above = tuple(range(len(things)))
        self.made = 0


class Line:
    """Goes through the numbers of a list of calls and leaves the list as it is."""

    def __init__(self, calls):
        self.calls = calls
        self.at = 0

    def at_end(self):
        return self.at >= len(self.calls)

    def take_number(self):
        number = self.calls[self.at]
        self.at += 1
        return number

    def take_list(self):
        count = self.take_number()
        start = self.at
        self.at = start + count
        return self.calls[start:self.at]

    def take_lists(self):
        lists = []
        for taken in range(self.take_number()):
            lists.append(self.take_list())
        return lists


def longer_rows(rows, count):
    """Each row with one more thing behind its last, out of so many things; in the order of the rows."""
    longer = []
    for row in rows:
        lowest = row[-1] + 1 if len(row) > 0 else 0
        for number in range(lowest, count):
            longer.append(row + (number,))
    return longer


def rows_of(count):
    """All rows out of so many things, the first one first.

    The row of no things is left out: empty baskets are alike, so it is never a turn that can be made.
    """
    found = []
    rows = [()]
    for size in range(count):
        rows = longer_rows(rows, count)
        found.extend(rows)
    return found


def weight_of(tower, numbers):
    return sum([tower.weights[number] for number in numbers])


def overfull(tower, above, things):
    """Whether one of the baskets would have more than it holds."""
    upper = len([number for number in things if number in above])
    lower = len(things) - upper
    return upper > tower.holds or lower > tower.holds


def unlike(tower, above, things):
    """By how much the upper basket would be the heavier one; below 0 if it would be the lighter one."""
    upper = [number for number in things if number in above]
    lower = [number for number in things if number not in above]
    return weight_of(tower, upper) - weight_of(tower, lower)


def person_among(tower, numbers):
    return len([number for number in numbers if number in tower.people]) > 0


def needed_limit(tower, above, things):
    """The least limit that lets these go, where the upper basket is the heavier one."""
    return unlike(tower, above, things) if person_among(tower, things) else 0


def verdict(tower, above, things):
    """DONE if a turn of these things can be made with just those above, else as what it is refused."""
    if overfull(tower, above, things):
        return TOO_MANY
    if unlike(tower, above, things) <= 0:
        return NOT_HEAVIER
    if needed_limit(tower, above, things) > tower.limit:
        return TOO_UNLIKE
    return DONE


def possible_rows(tower, above):
    """The turns that can be made with just those above, the first one first."""
    return [row for row in tower.rows if verdict(tower, above, row) == DONE]


def rows_but_for_limit(tower, above):
    """The turns that could be made with just those above if the limit were high enough."""
    return [row for row in tower.rows if verdict(tower, above, row) in (DONE, TOO_UNLIKE)]


def turned(tower, above, things):
    """Which are above behind a turn of these things: all that go change places."""
    count = len(tower.weights)
    return tuple([number for number in range(count) if (number in above) != (number in things)])


def first_ways(tower):
    """For each row that can be above, the first of the shortest ways to it, nearer rows ahead.

    Rows wait in the order of their ways, and turns are tried in their order. So the first way that comes
    to a row is the first of the shortest, and the dict keeps the rows in the order of their ways.
    """
    ways = {tower.above: []}
    waiting = [tower.above]
    at = 0
    while at < len(waiting):
        above = waiting[at]
        for row in possible_rows(tower, above):
            behind = turned(tower, above, row)
            if behind not in ways:
                ways[behind] = ways[above] + [row]
                waiting.append(behind)
        at += 1
    return ways


def fewest_way(tower):
    """The first of the shortest ways behind which all people are down; None if there is none."""
    ways = first_ways(tower)
    for above in ways:
        if not person_among(tower, above):
            return ways[above]
    return None


def least_limits(tower):
    """For each row that could be above with some limit, the least with which there is a way to it.

    Of the rows that wait, that with the least limit is gone on from: a way by another one needs no less, so what
    is found of this row stands.
    """
    limits = {tower.above: 0}
    waiting = [tower.above]
    while len(waiting) > 0:
        above = min(waiting, key=lambda each: limits[each])
        waiting.remove(above)
        for row in rows_but_for_limit(tower, above):
            behind = turned(tower, above, row)
            needed = max(limits[above], needed_limit(tower, above, row))
            if behind not in limits:
                waiting.append(behind)
                limits[behind] = needed
            limits[behind] = min(limits[behind], needed)
    return limits


def make_turn(tower, things):
    tower.above = turned(tower, tower.above, things)
    tower.made += 1


def told_row(row):
    return [len(row)] + list(row)


def told_way(way):
    numbers = [len(way)]
    for row in way:
        numbers.extend(told_row(row))
    return numbers


def right_thing(thing):
    if len(thing) != 2:
        return False
    return 1 <= thing[0] <= MOST_WEIGHT and thing[1] in (STONE, PERSON)


def right_tower(limit, holds, things):
    if limit > MOST_LIMIT or not 1 <= holds <= MOST_HOLDS or not 1 <= len(things) <= MOST_THINGS:
        return False
    return all([right_thing(thing) for thing in things])


def right_things(tower, things):
    """Whether each of these is there and none is named twice."""
    missing = [number for number in things if number >= len(tower.weights)]
    return len(missing) == 0 and len(set(things)) == len(things)


def judge(tower, things):
    if not right_things(tower, things):
        return WRONG
    return verdict(tower, tower.above, things)


def answer_turn(tower, things):
    refusal = judge(tower, things)
    if refusal != DONE:
        return [refusal]
    difference = unlike(tower, tower.above, things)
    make_turn(tower, things)
    return [difference]


def answer_why(tower, things):
    return [judge(tower, things)]


def answer_turns(tower):
    rows = possible_rows(tower, tower.above)
    if len(rows) == 0:
        return [0]
    return [len(rows)] + told_row(rows[0])


def answer_fewest(tower):
    way = fewest_way(tower)
    if way is None:
        return [NO_WAY]
    return told_way(way)


def answer_to(tower, things):
    if not right_things(tower, things):
        return [WRONG]
    ways = first_ways(tower)
    wanted = tuple(sorted(things))
    if wanted not in ways:
        return [NO_WAY]
    return told_way(ways[wanted])


def answer_comes(tower):
    return [len(first_ways(tower))]


def answer_least(tower):
    limits = least_limits(tower)
    enough = [limits[above] for above in limits if not person_among(tower, above)]
    if len(enough) == 0 or min(enough) > MOST_LIMIT:
        return [NO_WAY]
    return [min(enough)]


def answer_limit(tower, limit):
    if limit > MOST_LIMIT:
        return [WRONG]
    before = tower.limit
    tower.limit = limit
    return [before]


def answer_follow(tower, count):
    way = fewest_way(tower)
    if way is None:
        return [NO_WAY]
    if count == 0 or count > len(way):
        return [WRONG]
    for row in way[:count]:
        make_turn(tower, row)
    return told_row(tower.above)


def answer_look(tower):
    numbers = [tower.made, tower.limit, tower.holds]
    for number in range(len(tower.weights)):
        numbers.append(tower.weights[number])
        numbers.append(PERSON if number in tower.people else STONE)
    return numbers + told_row(tower.above)


def answer_on(tower, place, numbers, lists):
    """What a call other than begin answers on a tower."""
    if place == TURN:
        return answer_turn(tower, lists[0])
    if place == WHY:
        return answer_why(tower, lists[0])
    if place == TURNS:
        return answer_turns(tower)
    if place == FEWEST:
        return answer_fewest(tower)
    if place == TO:
        return answer_to(tower, lists[0])
    if place == COMES:
        return answer_comes(tower)
    if place == LEAST:
        return answer_least(tower)
    if place == LIMIT:
        return answer_limit(tower, numbers[0])
    if place == FOLLOW:
        return answer_follow(tower, numbers[0])
    return answer_look(tower)


class Baskets:
    """What the calls of one line are made on: no tower till a begin is answered 0."""

    def __init__(self):
        self.tower = None

    def begin(self, limit, holds, things):
        if not right_tower(limit, holds, things):
            return [WRONG]
        self.tower = Tower(limit, holds, things)
        return [DONE]

    def answer(self, place, numbers, lists):
        if place == BEGIN:
            return self.begin(numbers[0], numbers[1], lists)
        if self.tower is None:
            return [NO_TOWER]
        return answer_on(self.tower, place, numbers, lists)


def answers(calls):
    """Of each call in the list, in order, how many numbers are answered, then these."""
    line = Line(calls)
    baskets = Baskets()
    given = []
    while not line.at_end():
        place = line.take_number()
        numbers = line.take_list()
        lists = line.take_lists()
        told = baskets.answer(place, numbers, lists)
        given.append(len(told))
        given.extend(told)
    return given
