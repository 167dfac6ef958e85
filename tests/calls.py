"""The calls in the form in which `answers` takes them, and what it answers to them.

An answer is told here by its number alone; what unit answers is the pair of g and its seven exponents.
"""

from unitformulas.uni import answers

GREATEST = 18446744073709551615
GREATEST_SIGNED = 9223372036854775807
LEAST_SIGNED = -9223372036854775808

INIT = [0]
NAME = [1]
PURE = [2, 7, 0, 0, 0, 0, 0, 0, 0]
KEEP = [11]
BACK = [12]

ANY = (1, (0, 0, 0, 0, 0, 0, 0))


def base(*exponents):
    """The call base with just these exponents."""
    return [2, len(exponents)] + list(exponents)


def seven(*exponents):
    """These exponents first, and 0 for the other base units."""
    return tuple(exponents) + (0,) * (7 - len(exponents))


def known(*exponents):
    """The call base with these exponents first, and 0 for the other base units."""
    return base(*seven(*exponents))


def mul(a, b):
    return [3, a, b]


def div(a, b):
    return [4, a, b]


def power(a, k):
    return [5, a, k]


def root(a, k):
    return [6, a, k]


def add(a, b):
    return [7, a, b]


def eq(a, b):
    return [8, a, b]


def compare(a, b):
    """The call test."""
    return [9, a, b]


def unit(a):
    return [10, a]


def joined(calls):
    return [number for call in calls for number in call]


def is_refused(answer):
    return not isinstance(answer, tuple) and answer < 0


def whole_answer(answer):
    if isinstance(answer, tuple):
        return [10, answer[0], 0, 7] + list(answer[1])
    return [3, answer, 0, 0]


def whole(found):
    """The list that `answers` gives back where these are answered."""
    return joined([whole_answer(answer) for answer in found])


def answers_to(calls, told):
    """The answers in what was given back to the calls, after a look at the form of all of it."""
    found = []
    place = 0
    for call in calls:
        numbers = told[place + 1:place + 1 + told[place]]
        place += 1 + told[place]
        with_exponents = call[0] == 10 and numbers[0] >= 0
        found.append((numbers[0], tuple(numbers[3:])) if with_exponents else numbers[0])
    if told != whole(found):
        raise AssertionError(f"not of the form of answers: {told}")
    return found


def run(*calls):
    return answers_to(calls, answers(joined(calls)))


def last(*calls):
    return run(*calls)[-1]


def behind(calls, more):
    """What is answered to more calls behind the first ones."""
    return run(*calls, *more)[len(calls):]


def count_made(calls):
    """How many formulas there are behind the calls."""
    return len([told for told in behind(calls, [unit(a) for a in range(64)]) if told != -1])


def all_units(calls):
    """What is told of the unit of every formula that there is behind the calls."""
    return behind(calls, [unit(a) for a in range(count_made(calls))])


def all_told(calls):
    """The same, and what is told of every two of them."""
    told = all_units(calls)
    made = range(len(told))
    for a in made:
        told.extend(behind(calls, [compare(a, b) for b in made]))
    return told


def filled_to(count):
    """Calls that make this many formulas, the first a name, the second the first base unit, the others pure."""
    return [NAME, known(1)] + [PURE] * (count - 2)
