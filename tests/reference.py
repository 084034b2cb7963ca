"""The document's words told a second time, another way, to hold the program's answers against.

Ways are found from their end: how far each state is from the goal, then turn by turn the first that comes nearer.
"""

from itertools import combinations


class Reference:
    def __init__(self):
        self.tower = None

    def answer(self, name, arguments):
        if name == "begin":
            return self.begin(*arguments)
        if self.tower is None:
            return [-9]
        return getattr(self, name)(*arguments)

    def begin(self, limit, holds, things):
        fits = limit in range(301) and holds in range(1, 6) and len(things) in range(1, 6)
        for thing in things:
            fits = fits and len(thing) == 2 and thing[0] in range(1, 301) and thing[1] in (0, 1)
        if not fits:
            return [-1]
        self.tower = (limit, holds, [tuple(thing) for thing in things])
        self.above = frozenset(range(len(things)))
        return [0]

    def numbers(self):
        return range(len(self.tower[2]))

    def rows(self):
        for size in range(len(self.tower[2]) + 1):
            yield from combinations(self.numbers(), size)

    def states(self):
        return [frozenset(row) for row in self.rows()]

    def baskets(self, above, row):
        upper = [self.tower[2][number] for number in row if number in above]
        lower = [self.tower[2][number] for number in row if number not in above]
        return upper, lower

    def difference(self, above, row):
        upper, lower = self.baskets(above, row)
        return sum(weight for weight, kind in upper) - sum(weight for weight, kind in lower)

    def refusal(self, above, row):
        limit, holds, things = self.tower
        upper, lower = self.baskets(above, row)
        if len(upper) > holds or len(lower) > holds:
            return -4
        if self.difference(above, row) < 1:
            return -6
        if any(kind == 1 for weight, kind in upper + lower) and self.difference(above, row) > limit:
            return -7
        return 0

    def is_wrong(self, things):
        return any(things.count(thing) > 1 or thing not in self.numbers() for thing in things)

    def why(self, *things):
        return [-1] if self.is_wrong(things) else [self.refusal(self.above, things)]

    def turn(self, *things):
        refusal = self.why(*things)
        if refusal != [0]:
            return refusal
        made = self.difference(self.above, things)
        self.above = self.above ^ frozenset(things)
        return [made]

    def turns(self):
        able = [row for row in self.rows() if self.refusal(self.above, row) == 0]
        return [len(able), len(able[0]), *able[0]] if able else [0]

    def distances(self, goals):
        far = {goal: 0 for goal in goals}
        grown = True
        while grown:
            grown = False
            for above in self.states():
                behind = [above ^ frozenset(row) for row in self.rows() if self.refusal(above, row) == 0]
                reached = [far[state] + 1 for state in behind if state in far]
                if reached and min(reached) < far.get(above, 1000):
                    far[above] = min(reached)
                    grown = True
        return far

    def way(self, goals):
        far = self.distances(goals)
        above = self.above
        if above not in far:
            return [-6]
        told = [far[above]]
        while far[above] > 0:
            for row in self.rows():
                behind = above ^ frozenset(row)
                if self.refusal(above, row) == 0 and far.get(behind) == far[above] - 1:
                    break
            told += [len(row), *row]
            above = behind
        return told

    def fewest(self):
        folk = {number for number in self.numbers() if self.tower[2][number][1] == 1}
        return self.way([state for state in self.states() if not state & folk])

    def to(self, *things):
        return [-1] if self.is_wrong(things) else self.way([frozenset(things)])
