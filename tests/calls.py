"""The calls in the form in which `answers` takes them, and what it answers to them."""

from unitformulas.uni import answers

GREATEST = 18446744073709551615
GREATEST_SIGNED = 9223372036854775807
LEAST_SIGNED = -9223372036854775808

INIT = [0]
NAME = [1]
PURE = [2, 7, 0, 0, 0, 0, 0, 0, 0]


def base(*exponents):
    """The call base with just these exponents."""
    return [2, len(exponents)] + list(exponents)


def known(*exponents):
    """The call base with these exponents first, and 0 for the other base units."""
    return base(*(list(exponents) + [0] * (7 - len(exponents))))


def mul(a, b):
    return [3, a, b]


def div(a, b):
    return [4, a, b]


def power(a, k):
    return [5, a, k]


def root(a, k):
    return [6, a, k]


def joined(calls):
    return [number for call in calls for number in call]


def whole(numbers):
    """The list that `answers` gives back where these numbers are answered."""
    return [told for number in numbers for told in (3, number, 0, 0)]


def numbers_of(told):
    """The numbers that are answered, after a look at the form of all that was given back."""
    numbers = told[1::4]
    if told != whole(numbers):
        raise AssertionError(f"not of the form 3, number, 0, 0: {told}")
    return numbers


def run(*calls):
    return numbers_of(answers(joined(calls)))


def last(*calls):
    return run(*calls)[-1]


def filled_to(count):
    """Calls that make this many formulas, the first a name, the second the first base unit, the others pure."""
    return [NAME, known(1)] + [PURE] * (count - 2)
