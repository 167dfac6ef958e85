"""The calls once more, written another way: lines are kept as they are told, and minors tell what is possible.

Equations A x = b with A of full row rank m have a whole solution just where the greatest common divisor of the
m by m minors of A is that of the minors of A with the column b. A line whose names' exponents follow from those
of the lines that were told before says nothing new, or can't be; so the others are kept, and are of full rank.
"""

from itertools import combinations
from math import gcd


def determinant(rows):
    """By Bareiss: each division comes out whole."""
    rows = [list(row) for row in rows]
    sign, before = 1, 1
    for k in range(len(rows)):
        pivots = [i for i in range(k, len(rows)) if rows[i][k] != 0]
        if not pivots:
            return 0
        if pivots[0] != k:
            rows[k], rows[pivots[0]] = rows[pivots[0]], rows[k]
            sign = -sign
        for i in range(k + 1, len(rows)):
            for j in range(k + 1, len(rows)):
                rows[i][j] = (rows[i][j] * rows[k][k] - rows[i][k] * rows[k][j]) // before
        before = rows[k][k]
    return sign * before


def minor(rows, columns):
    return determinant([[row[column] for column in columns] for row in rows])


def gcd_of_minors(rows):
    """0 where the rows depend on one another."""
    if not rows:
        return 1
    return gcd(*[minor(rows, columns) for columns in combinations(range(len(rows[0])), len(rows))])


def names_of(lines):
    return [line[:6] for line in lines]


def in_unit(lines, unit):
    """The lines' names' exponents with that of one base unit behind them."""
    return [line[:6] + [line[6 + unit]] for line in lines]


def can_be(lines):
    """Whether some way fits independent lines of 13 exponents, each of which is to come out as a pure number."""
    plain = gcd_of_minors(names_of(lines))
    return all(gcd_of_minors(in_unit(lines, unit)) == plain for unit in range(7))


def is_new(lines, line):
    """Whether the line's names' exponents don't follow from those of the independent lines."""
    return gcd_of_minors(names_of(lines + [line])) != 0


def fits(lines, line):
    """Whether the line can be, where the independent lines hold."""
    if is_new(lines, line):
        return can_be(lines + [line])
    return all(gcd_of_minors(in_unit(lines + [line], unit)) == 0 for unit in range(7))


def prime_factors(number):
    factors = []
    prime = 2
    while number > 1:
        while number % prime == 0:
            factors.append(prime)
            number //= prime
        prime += 1
    return factors


def may_have(lines, exponents, unit, value, gap):
    """Whether the formula's exponent of the base unit may differ from the value by a multiple of the gap."""
    rows = [row[:6] + [0, row[6]] for row in in_unit(lines, unit)]
    rows.append(exponents[:6] + [gap, exponents[6 + unit] - value])
    return gcd_of_minors([row[:7] for row in rows]) == gcd_of_minors(rows)


def residue(lines, exponents, unit, gap):
    """The only exponent of the base unit from 0 to gap - 1, by one prime factor of the gap after another."""
    value, reached = 0, 1
    for prime in prime_factors(gap):
        tried = [value + k * reached for k in range(prime)]
        reached *= prime
        value, = [number for number in tried if may_have(lines, exponents, unit, number, reached)]
    return value


def only_value(lines, exponents, unit):
    """The only exponent of the base unit: with it, minors of the lines and the formula are 0."""
    columns = [found for found in combinations(range(6), len(lines)) if minor(names_of(lines), found) != 0][0]
    rows = in_unit(lines, unit) + [exponents[:6] + [0]]
    value, rest = divmod(minor(rows, columns + (6,)), minor(names_of(lines), columns))
    if rest != 0:
        raise AssertionError("not whole")
    return exponents[6 + unit] + value


def gap_of(lines, exponents):
    if not is_new(lines, exponents):
        return 0
    return gcd_of_minors(names_of(lines + [exponents])) // gcd_of_minors(names_of(lines))


def units_of(lines, exponents):
    """The pair of g and seven exponents that unit tells of a formula."""
    gap = gap_of(lines, exponents)
    if gap == 0:
        return (0, tuple(only_value(lines, exponents, unit) for unit in range(7)))
    return (gap, tuple(residue(lines, exponents, unit, gap) for unit in range(7)))


def are_units_of(lines, exponents, told):
    """Whether the pair is what unit tells of a formula, without a search that takes long where g is large."""
    gap = gap_of(lines, exponents)
    if gap == 0:
        return told == units_of(lines, exponents)
    return told[0] == gap and all(0 <= value < gap and may_have(lines, exponents, unit, value, gap)
                                  for unit, value in enumerate(told[1]))


class Model:
    def __init__(self):
        self.init()

    def init(self):
        self.names = 0
        self.formulas = []
        self.lines = []
        self.kept = []
        return 0

    def push(self, exponents):
        self.formulas.append(exponents)
        return len(self.formulas) - 1

    def push_if_small(self, exponents):
        if len(self.formulas) == 64 or min(exponents) < -6 or max(exponents) > 6:
            return -2
        return self.push(exponents)

    def push_name(self):
        exponents = [0] * 13
        exponents[self.names] = 1
        self.names += 1
        return self.push(exponents)

    def quotient(self, a, b):
        return [x - y for x, y in zip(self.formulas[a], self.formulas[b])]

    def takes(self, line):
        if not fits(self.lines, line):
            return False
        if is_new(self.lines, line):
            self.lines.append(line)
        return True

    def name(self):
        if self.names == 6 or len(self.formulas) == 64:
            return -2
        return self.push_name()

    def base(self, exponents):
        return -2 if len(exponents) != 7 else self.push_if_small([0] * 6 + exponents)

    def mul(self, a, b, sign=1):
        if max(a, b) >= len(self.formulas):
            return -1
        return self.push_if_small([x + sign * y for x, y in zip(self.formulas[a], self.formulas[b])])

    def div(self, a, b):
        return self.mul(a, b, -1)

    def power(self, a, k):
        return -1 if a >= len(self.formulas) else self.push_if_small([k * x for x in self.formulas[a]])

    def root(self, a, k):
        if a >= len(self.formulas):
            return -1
        if k not in range(1, 7) or self.names == 6 or len(self.formulas) == 64:
            return -2
        line = list(self.formulas[a])
        line[self.names] -= k
        return self.push_name() if self.takes(line) else -3

    def add(self, a, b):
        if max(a, b) >= len(self.formulas):
            return -1
        if len(self.formulas) == 64:
            return -2
        return self.push(self.formulas[a]) if self.takes(self.quotient(a, b)) else -3

    def eq(self, a, b):
        if max(a, b) >= len(self.formulas):
            return -1
        return 0 if self.takes(self.quotient(a, b)) else -3

    def compare(self, a, b):
        if max(a, b) >= len(self.formulas):
            return -1
        line = self.quotient(a, b)
        if not fits(self.lines, line):
            return 2
        return 1 if is_new(self.lines, line) else 0

    def unit(self, a):
        return -1 if a >= len(self.formulas) else units_of(self.lines, self.formulas[a])

    def keep(self):
        if len(self.kept) == 8:
            return -2
        self.kept.append((self.names, list(self.formulas), list(self.lines)))
        return len(self.kept)

    def back(self):
        if not self.kept:
            return -1
        self.names, self.formulas, self.lines = self.kept.pop()
        return len(self.kept)

    def answer(self, call):
        if call[0] == 2:
            return self.base(call[2:])
        names = ["init", "name", "base", "mul", "div", "power", "root", "add", "eq", "compare", "unit", "keep", "back"]
        return getattr(self, names[call[0]])(*call[1:])
