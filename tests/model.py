"""The calls once more, written another way: all lines are kept, and minors tell whether whole exponents meet them.

Equations A x = b with A of full row rank m have a whole solution just where the greatest common divisor of the
m by m minors of A is that of the minors of A with the column b. Each root brings a name that no earlier line
has, with an exponent that is not 0, so the rows of the lines are always of full rank.
"""

from itertools import combinations
from math import gcd


def determinant(rows):
    if not rows:
        return 1
    total = 0
    for column, head in enumerate(rows[0]):
        if head != 0:
            rest = [row[:column] + row[column + 1:] for row in rows[1:]]
            total += (-1) ** column * head * determinant(rest)
    return total


def gcd_of_minors(rows):
    return gcd(*[determinant([[row[column] for column in columns] for row in rows])
                 for columns in combinations(range(len(rows[0])), len(rows))])


def can_be(lines):
    """Whether some way fits lines of 13 exponents, each of which is to come out as the unit of a pure number."""
    plain = gcd_of_minors([line[:6] for line in lines])
    return all(gcd_of_minors([line[:6] + [line[6 + unit]] for line in lines]) == plain for unit in range(7))


class Model:
    def __init__(self):
        self.init()

    def init(self):
        self.names = 0
        self.formulas = []
        self.lines = []
        return 0

    def push(self, exponents):
        self.formulas.append(exponents)
        return len(self.formulas) - 1

    def push_if_small(self, exponents):
        if len(self.formulas) == 64 or min(exponents) < -6 or max(exponents) > 6:
            return -2
        return self.push(exponents)

    def push_name(self):
        exponents = [0] * 13
        exponents[self.names] = 1
        self.names += 1
        return self.push(exponents)

    def name(self):
        if self.names == 6 or len(self.formulas) == 64:
            return -2
        return self.push_name()

    def base(self, exponents):
        return -2 if len(exponents) != 7 else self.push_if_small([0] * 6 + exponents)

    def mul(self, a, b, sign=1):
        if max(a, b) >= len(self.formulas):
            return -1
        return self.push_if_small([x + sign * y for x, y in zip(self.formulas[a], self.formulas[b])])

    def power(self, a, k):
        return -1 if a >= len(self.formulas) else self.push_if_small([k * x for x in self.formulas[a]])

    def root(self, a, k):
        if a >= len(self.formulas):
            return -1
        if k not in range(1, 7) or self.names == 6 or len(self.formulas) == 64:
            return -2
        line = list(self.formulas[a])
        line[self.names] -= k
        if not can_be(self.lines + [line]):
            return -3
        self.lines.append(line)
        return self.push_name()

    def answer(self, call):
        if call[0] == 0:
            return self.init()
        if call[0] == 1:
            return self.name()
        if call[0] == 2:
            return self.base(call[2:])
        if call[0] == 3:
            return self.mul(call[1], call[2])
        if call[0] == 4:
            return self.mul(call[1], call[2], -1)
        if call[0] == 5:
            return self.power(call[1], call[2])
        return self.root(call[1], call[2])
