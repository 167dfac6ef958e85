"""Lists of calls that look random and are the same in every run, with what the model answers."""

from calls import BACK, GREATEST, GREATEST_SIGNED, INIT, KEEP, LEAST_SIGNED, NAME, add, base, compare, div, eq, known
from calls import mul, power, root, unit
from model import Model


class Chance:
    def __init__(self, seed):
        self.state = seed

    def below(self, bound):
        self.state = (self.state * 6364136223846793005 + 1442695040888963407) % (1 << 64)
        return (self.state >> 33) % bound

    def one_of(self, values):
        return values[self.below(len(values))]

    def shuffled(self, values):
        left = list(values)
        return [left.pop(self.below(len(left))) for value in values]


def formula(chance, made):
    if chance.below(40) == 0:
        return chance.one_of([made, made + 1, 64, GREATEST])
    return chance.below(max(made, 1))


def exponent(chance):
    return chance.one_of([0, 0, 1, -1, 2, -2, 3, 4])


def base_call(chance):
    if chance.below(12) == 0:
        return base(*[0] * chance.one_of([0, 6, 8, 100]))
    if chance.below(12) == 0:
        return known(0, chance.one_of([6, -6, 7, -7, GREATEST_SIGNED, LEAST_SIGNED]))
    return known(*[exponent(chance) for place in range(1 + chance.below(3))])


def some_power(chance):
    if chance.below(12) == 0:
        return chance.one_of([LEAST_SIGNED, GREATEST_SIGNED])
    return chance.one_of([0, -1, 2, -2, 3, 4, 6, 7])


def some_degree(chance):
    if chance.below(12) == 0:
        return chance.one_of([0, 7, -1, LEAST_SIGNED, GREATEST_SIGNED])
    return chance.one_of([1, 2, 2, 2, 3, 3, 4, 5, 6])


def making_call(chance, made):
    """A call that makes a formula, where so many were made."""
    kind = chance.below(24)
    if kind < 4:
        return NAME
    if kind < 7:
        return base_call(chance)
    if kind < 14:
        return mul(formula(chance, made), formula(chance, made))
    if kind < 19:
        return div(formula(chance, made), formula(chance, made))
    if kind < 22:
        return power(formula(chance, made), some_power(chance))
    return root(formula(chance, made), some_degree(chance))


def some_call(chance, made):
    """A call of any kind but init, where so many formulas were made."""
    kind = chance.below(24)
    if kind < 12:
        return making_call(chance, made)
    if kind < 14:
        return add(formula(chance, made), formula(chance, made))
    if kind < 16:
        return eq(formula(chance, made), formula(chance, made))
    if kind < 18:
        return compare(formula(chance, made), formula(chance, made))
    if kind < 22:
        return unit(formula(chance, made))
    return KEEP if kind == 22 else BACK


def some_calls(seed, count):
    """Calls and what the model answers to them."""
    chance = Chance(seed)
    model = Model()
    calls = [NAME, known(1)]
    found = [model.answer(call) for call in calls]
    while len(calls) < count:
        call = INIT if chance.below(60) == 0 else some_call(chance, len(model.formulas))
        calls.append(call)
        found.append(model.answer(call))
    return calls, found
