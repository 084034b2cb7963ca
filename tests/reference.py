"""The document's words told a second time, another way, to hold the program's answers against.

Ways are found from their end: how far each state is from the goal, then turn by turn the first that comes nearer.
The least limit is found by trying each, from 0 on.
"""

from itertools import combinations


class Reference:
    def __init__(self):
        self.tower = None

    def answer(self, name, arguments):
        if name == "begin":
            return self.begin(*arguments)
        if self.tower is None:
            return [-9]
        return getattr(self, name)(*arguments)

    def begin(self, limit, holds, things):
        fits = limit in range(301) and holds in range(1, 6) and len(things) in range(1, 6)
        for thing in things:
            fits = fits and len(thing) == 2 and thing[0] in range(1, 301) and thing[1] in (0, 1)
        if not fits:
            return [-1]
        self.tower = (limit, holds, [tuple(thing) for thing in things])
        self.above = frozenset(range(len(things)))
        self.made = 0
        self.folk = frozenset(number for number in self.numbers() if things[number][1] == 1)
        self.moves = {above: self.moves_from(above) for above in self.states()}
        return [0]

    def numbers(self):
        return range(len(self.tower[2]))

    def rows(self):
        for size in range(len(self.tower[2]) + 1):
            yield from combinations(self.numbers(), size)

    def states(self):
        return [frozenset(row) for row in self.rows()]

    def baskets(self, above, row):
        upper = [self.tower[2][number] for number in row if number in above]
        lower = [self.tower[2][number] for number in row if number not in above]
        return upper, lower

    def difference(self, above, row):
        upper, lower = self.baskets(above, row)
        return sum(weight for weight, kind in upper) - sum(weight for weight, kind in lower)

    def moves_from(self, above):
        """The turns that no limit, or only a limit, could forbid: the row, the state behind it, the limit it needs."""
        found = []
        for row in self.rows():
            if self.refusal(above, row) in (0, -7):
                needs = self.difference(above, row) if self.folk & frozenset(row) else 0
                found.append((row, above ^ frozenset(row), needs))
        return found

    def able(self, above, limit):
        return [(row, behind) for row, behind, needs in self.moves[above] if needs <= limit]

    def refusal(self, above, row):
        limit, holds, things = self.tower
        upper, lower = self.baskets(above, row)
        if len(upper) > holds or len(lower) > holds:
            return -4
        if self.difference(above, row) < 1:
            return -6
        if any(kind == 1 for weight, kind in upper + lower) and self.difference(above, row) > limit:
            return -7
        return 0

    def is_wrong(self, things):
        return any(things.count(thing) > 1 or thing not in self.numbers() for thing in things)

    def why(self, *things):
        return [-1] if self.is_wrong(things) else [self.refusal(self.above, things)]

    def turn(self, *things):
        refusal = self.why(*things)
        if refusal != [0]:
            return refusal
        unlike = self.difference(self.above, things)
        self.above = self.above ^ frozenset(things)
        self.made += 1
        return [unlike]

    def turns(self):
        able = [row for row in self.rows() if self.refusal(self.above, row) == 0]
        return [len(able), len(able[0]), *able[0]] if able else [0]

    def distances(self, goals):
        far = {goal: 0 for goal in goals}
        grown = True
        while grown:
            grown = False
            for above in self.states():
                reached = [far[behind] + 1 for row, behind in self.able(above, self.tower[0]) if behind in far]
                if reached and min(reached) < far.get(above, 1000):
                    far[above] = min(reached)
                    grown = True
        return far

    def way(self, goals):
        """The rows of the first of the shortest ways to a goal; None if there is none."""
        far = self.distances(goals)
        above = self.above
        if above not in far:
            return None
        rows = []
        while far[above] > 0:
            nearer = [move for move in self.able(above, self.tower[0]) if far.get(move[1]) == far[above] - 1]
            rows.append(nearer[0][0])
            above = nearer[0][1]
        return rows

    def told(self, way):
        if way is None:
            return [-6]
        return [len(way)] + [number for row in way for number in (len(row), *row)]

    def way_down(self):
        return self.way([state for state in self.states() if not state & self.folk])

    def fewest(self):
        return self.told(self.way_down())

    def to(self, *things):
        return [-1] if self.is_wrong(things) else self.told(self.way([frozenset(things)]))

    def within(self, limit):
        """All states that turns lead to from here with this limit."""
        found = {self.above}
        edge = {self.above}
        while edge:
            edge = {behind for above in edge for row, behind in self.able(above, limit)} - found
            found |= edge
        return found

    def comes(self):
        return [len(self.within(self.tower[0]))]

    def least(self):
        for limit in range(301):
            if any(not above & self.folk for above in self.within(limit)):
                return [limit]
        return [-6]

    def limit(self, limit):
        if limit > 300:
            return [-1]
        was = self.tower[0]
        self.tower = (limit,) + self.tower[1:]
        return [was]

    def told_above(self):
        return [len(self.above)] + sorted(self.above)

    def follow(self, count):
        way = self.way_down()
        if way is None:
            return [-6]
        if count not in range(1, len(way) + 1):
            return [-1]
        for row in way[:count]:
            self.turn(*row)
        return self.told_above()

    def look(self):
        things = [number for thing in self.tower[2] for number in thing]
        return [self.made, *self.tower[:2], *things, *self.told_above()]
