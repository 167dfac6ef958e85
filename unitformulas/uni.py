"""Units of measure through formulas: a list of calls goes in, the list of their answers comes out.

A formula is kept as thirteen exponents in a row, first those of the names, then those of the base units.
"""

INIT = 0
NAME = 1
BASE = 2
MUL = 3
DIV = 4
POW = 5
ROOT = 6
ADD = 7
EQ = 8
TEST = 9
UNIT = 10
KEEP = 11
BACK = 12

NONE_THERE = -1
TOO_MUCH = -2
CANNOT_BE = -3

NAMES = 6
BASE_UNITS = 7
FORMULAS = 64
LARGEST_EXPONENT = 6
LARGEST_ROOT = 6
MOST_KEPT = 8

ALWAYS_SAME = 0
SOMETIMES_SAME = 1
NEVER_SAME = 2


class Ways:
    """The ways that fit: a start for each base unit, and the steps that lead from it to all the others.

    The lines ask the same of the names' exponents in every base unit, but for the known exponents. So the
    seven base units have starts of their own and share the steps. Each start and each step is a row of
    numbers, one for each name; what can be reached is a start and any whole multiples of the steps.
    """

    def __init__(self, starts, steps):
        self.starts = starts
        self.steps = steps


class Sheet:
    """The names, formulas and lines that were accepted so far, and what was kept of them on the way."""

    def __init__(self):
        self.begin()

    def begin(self):
        self.names = 0
        self.formulas = []
        self.ways = every_way()
        self.kept = []

    def keep(self):
        # The list of formulas grows; what stands in it, and the ways, are never changed and need no copy.
        self.kept.append((self.names, list(self.formulas), self.ways))

    def go_back(self):
        last = self.kept.pop()
        self.names = last[0]
        self.formulas = last[1]
        self.ways = last[2]


class Reader:
    """Reads the calls' numbers one behind another and leaves their list as it is."""

    def __init__(self, numbers):
        self.numbers = numbers
        self.place = 0

    def has_more(self):
        return self.place < len(self.numbers)

    def number(self):
        self.place += 1
        return self.numbers[self.place - 1]

    def row(self):
        length = self.number()
        first = self.place
        self.place += length
        return self.numbers[first:self.place]


def product(xs, ys):
    return sum([x * y for x, y in zip(xs, ys)])


def with_multiple(xs, times, ys):
    return [x + times * y for x, y in zip(xs, ys)]


def single(place, length):
    return [1 if k == place else 0 for k in range(length)]


def every_way():
    # Names that are not there yet have their places already: no line speaks of them, so they bind nothing.
    starts = [[0] * NAMES for base_unit in range(BASE_UNITS)]
    return Ways(starts, [single(name, NAMES) for name in range(NAMES)])


def parted_pair(lead, step, names):
    """Two steps that reach what lead and step reach, the second of which leaves the product with names alone."""
    while product(names, step) != 0:
        times = product(names, lead) // product(names, step)
        remainder = with_multiple(lead, -times, step)
        lead = step
        step = remainder
    return (lead, step)


def parted_steps(steps, names):
    """One step and a list of steps that together reach what steps reach.

    Those of the list leave the product with names alone. So the one alone changes it, by the least that the
    steps can; it is a row of zeros where none of them does.
    """
    lead = [0] * NAMES
    idle = []
    for step in steps:
        if product(names, step) == 0:
            idle.append(step)
        elif product(names, lead) == 0:
            lead = step
        else:
            pair = parted_pair(lead, step, names)
            lead = pair[0]
            idle.append(pair[1])
    return (lead, idle)


def times_needed(change, missing):
    """How many times change makes up what is missing, or None if no whole number of times does."""
    if change == 0:
        return 0 if missing == 0 else None
    return missing // change if missing % change == 0 else None


def ways_with_line(ways, line):
    """Those of the ways in which a formula of the line's exponents is a pure number, or None if there are none."""
    names = line[:NAMES]
    parted = parted_steps(ways.steps, names)
    lead = parted[0]
    change = product(names, lead)
    starts = []
    for start, known in zip(ways.starts, line[NAMES:]):
        times = times_needed(change, -known - product(names, start))
        if times is None:
            return None
        starts.append(with_multiple(start, times, lead))
    return Ways(starts, parted[1])


def units_in(ways, exponents):
    """The units that a formula of these exponents has in the ways: by how much they differ, and one of them.

    The ways go any steps in each base unit, whatever they go in the others, so each exponent may differ by any
    multiple of the first.
    """
    names = exponents[:NAMES]
    lead = parted_steps(ways.steps, names)[0]
    gap = abs(product(names, lead))
    unit = [product(names, start) + known for start, known in zip(ways.starts, exponents[NAMES:])]
    if gap == 0:
        return (gap, unit)
    return (gap, [exponent % gap for exponent in unit])


def has_formula(sheet, a):
    return a < len(sheet.formulas)


def has_formulas(sheet, a, b):
    return has_formula(sheet, a) and has_formula(sheet, b)


def has_room(sheet):
    return len(sheet.formulas) < FORMULAS


def has_room_for_name(sheet):
    return sheet.names < NAMES and has_room(sheet)


def is_small(exponents):
    return all([abs(exponent) <= LARGEST_EXPONENT for exponent in exponents])


def quotient(sheet, a, b):
    """The exponents of a by b: those of a pure number just where a and b have one unit."""
    return with_multiple(sheet.formulas[a], -1, sheet.formulas[b])


def accepts_line(sheet, line):
    """Whether the line can be; if so, it holds from now on."""
    ways = ways_with_line(sheet.ways, line)
    if ways is None:
        return False
    sheet.ways = ways
    return True


def next_name(sheet):
    return single(sheet.names, NAMES + BASE_UNITS)


def keep_formula(sheet, exponents):
    if not has_room(sheet) or not is_small(exponents):
        return TOO_MUCH
    sheet.formulas.append(exponents)
    return len(sheet.formulas) - 1


def keep_next_name(sheet):
    exponents = next_name(sheet)
    sheet.names += 1
    return keep_formula(sheet, exponents)


def answer_init(sheet):
    sheet.begin()
    return 0


def answer_name(sheet):
    if not has_room_for_name(sheet):
        return TOO_MUCH
    return keep_next_name(sheet)


def answer_base(sheet, exponents):
    if len(exponents) != BASE_UNITS:
        return TOO_MUCH
    return keep_formula(sheet, [0] * NAMES + exponents)


def answer_product(sheet, a, b, power):
    """The answer of a formula whose unit is a's times the given power of b's."""
    if not has_formulas(sheet, a, b):
        return NONE_THERE
    return keep_formula(sheet, with_multiple(sheet.formulas[a], power, sheet.formulas[b]))


def answer_pow(sheet, a, k):
    if not has_formula(sheet, a):
        return NONE_THERE
    return keep_formula(sheet, [k * exponent for exponent in sheet.formulas[a]])


def answer_root(sheet, a, k):
    if not has_formula(sheet, a):
        return NONE_THERE
    if k < 1 or k > LARGEST_ROOT or not has_room_for_name(sheet):
        return TOO_MUCH
    if not accepts_line(sheet, with_multiple(sheet.formulas[a], -k, next_name(sheet))):
        return CANNOT_BE
    return keep_next_name(sheet)


def answer_add(sheet, a, b):
    if not has_formulas(sheet, a, b):
        return NONE_THERE
    if not has_room(sheet):
        return TOO_MUCH
    if not accepts_line(sheet, quotient(sheet, a, b)):
        return CANNOT_BE
    return keep_formula(sheet, list(sheet.formulas[a]))


def answer_eq(sheet, a, b):
    if not has_formulas(sheet, a, b):
        return NONE_THERE
    return 0 if accepts_line(sheet, quotient(sheet, a, b)) else CANNOT_BE


def answer_test(sheet, a, b):
    if not has_formulas(sheet, a, b):
        return NONE_THERE
    units = units_in(sheet.ways, quotient(sheet, a, b))
    if units[1] != [0] * BASE_UNITS:
        return NEVER_SAME
    return ALWAYS_SAME if units[0] == 0 else SOMETIMES_SAME


def answer_keep(sheet):
    if len(sheet.kept) == MOST_KEPT:
        return TOO_MUCH
    sheet.keep()
    return len(sheet.kept)


def answer_back(sheet):
    if len(sheet.kept) == 0:
        return NONE_THERE
    sheet.go_back()
    return len(sheet.kept)


def whole_answer(number, exponents):
    # The 0 says that no bytes are told.
    return [number, 0, len(exponents)] + exponents


def answer_unit(sheet, a):
    """The whole answer, as this call alone tells exponents too."""
    if not has_formula(sheet, a):
        return whole_answer(NONE_THERE, [])
    units = units_in(sheet.ways, sheet.formulas[a])
    return whole_answer(units[0], units[1])


def answer_of_none(sheet, call):
    if call == INIT:
        return answer_init(sheet)
    if call == NAME:
        return answer_name(sheet)
    if call == KEEP:
        return answer_keep(sheet)
    return answer_back(sheet)


def answer_of_two(sheet, call, a, b):
    if call == MUL:
        return answer_product(sheet, a, b, 1)
    if call == DIV:
        return answer_product(sheet, a, b, -1)
    if call == POW:
        return answer_pow(sheet, a, b)
    if call == ROOT:
        return answer_root(sheet, a, b)
    if call == ADD:
        return answer_add(sheet, a, b)
    if call == EQ:
        return answer_eq(sheet, a, b)
    return answer_test(sheet, a, b)


def next_answer(sheet, reader):
    call = reader.number()
    if call in (INIT, NAME, KEEP, BACK):
        return whole_answer(answer_of_none(sheet, call), [])
    if call == BASE:
        return whole_answer(answer_base(sheet, reader.row()), [])
    if call == UNIT:
        return answer_unit(sheet, reader.number())
    a = reader.number()
    b = reader.number()
    return whole_answer(answer_of_two(sheet, call, a, b), [])


def answers(calls):
    """The answers to the calls, each with how many numbers it has before it."""
    sheet = Sheet()
    reader = Reader(calls)
    told = []
    while reader.has_more():
        answer = next_answer(sheet, reader)
        told.append(len(answer))
        told.extend(answer)
    return told
