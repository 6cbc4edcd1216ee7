"""What the tests share: things to ask, and slow definitions written apart from the package."""

import copy
import itertools
import random

from cornersteps.errors import CornerError, NoPaper

RULES = ("first", "least", "most")

# Things of all kinds that fit nothing, to be asked wherever "any thing" may be asked.
ODD_THINGS = [
    None, True, False, 0, 1, -1, 10 ** 399, "", "first", "1", "((1,),)", [], [1], [[1]], [(1,)], {}, {"a": 1},
    {0: (1,)}, (), ((),), ((), (), ()), (None,), (True,), ("1",), ([1],), ({},), ((True,),), ((None,),),
    (("1",),), (((1,),),), [[[[[None]]]]], ((((((True,),),),),),),
]

BIG = 987654321012


def numbers_table(seed, rows, columns, size):
    """A table of numbers from -size to size, the same one for the same arguments."""
    chance = random.Random(seed * 1000003 + rows * 1009 + columns * 13 + size)
    return tuple(tuple(chance.randint(-size, size) for _ in range(columns)) for _ in range(rows))


def summed_table(seed, rows, columns, size):
    """A table of three rows or more whose last row is the sum of the others."""
    table = numbers_table(seed, rows - 1, columns, size)
    return table + (tuple(sum(row[j] for row in table) for j in range(columns)),)


def gapped_table(seed, rows, columns, size):
    """A table with a column of noughts in front and one more behind."""
    table = numbers_table(seed, rows, columns, size)
    gaps = (0, columns - 2)
    return tuple(tuple(0 if j in gaps else number for j, number in enumerate(row)) for row in table)


def determinant(rows):
    """By the first row's numbers, one column struck out at a time."""
    if not rows:
        return 1
    total = 0
    for j, number in enumerate(rows[0]):
        rest = [row[:j] + row[j + 1:] for row in rows[1:]]
        total += (-1) ** j * number * determinant(rest)
    return total


def corner_told(table, rows, columns):
    return determinant([tuple(table[i][j] for j in columns) for i in rows])


def by_prime(prime):
    """The corner of a table at rows and columns, what is left of it by the prime."""
    return lambda table, rows, columns: corner_told(table, rows, columns) % prime


def poly_sum(*polys):
    """The polys added place by place, without noughts behind."""
    summed = [sum(poly[k] for poly in polys if k < len(poly)) for k in range(max(map(len, polys), default=0))]
    while summed and summed[-1] == 0:
        summed.pop()
    return tuple(summed)


def poly_product(one, other):
    """The sum of the one times each number of the other, so many places farther."""
    return poly_sum((), *[(0,) * k + tuple(factor * number for number in one) for k, factor in enumerate(other)])


def poly_corner_told(table, rows, columns):
    """The corner of a table of polys, by its first row's polys, one column struck out at a time."""
    if not rows:
        return (1,)
    parts = []
    for j, column in enumerate(columns):
        rest = poly_corner_told(table, rows[1:], columns[:j] + columns[j + 1:])
        parts.append(poly_product(poly_product(((-1) ** j,), table[rows[0]][column]), rest))
    return poly_sum(*parts)


def poly_table(seed, rows, columns, size):
    """A table of polys of at most three numbers, the same one for the same arguments."""
    chance = random.Random(seed * 1009 + rows * 17 + columns)
    return tuple(
        tuple(poly_sum(tuple(chance.randint(-size, size) for _ in range(chance.randint(0, 3)))) for _ in range(columns))
        for _ in range(rows)
    )


def stand_told(table, picked, corner_of=corner_told, nought=0):
    """The STAND of point 3, each number from its own corner."""
    rows = [pair[0] for pair in picked]
    columns = [pair[1] for pair in picked]

    def number_told(i, j):
        if i not in rows:
            return nought if j in columns else corner_of(table, rows + [i], columns + [j])
        at = rows.index(i)
        if j in columns[:at] + columns[at + 1:]:
            return nought
        return corner_of(table, rows, columns[:at] + [j] + columns[at + 1:])

    numbers = tuple(tuple(number_told(i, j) for j in range(len(table[0]))) for i in range(len(table)))
    return (tuple(picked), corner_of(table, rows, columns), numbers)


def picks_of(table, seed, many):
    """Some picks of so many rows and columns, not rising as a rule."""
    chance = random.Random(seed * 31 + many)
    for _ in range(4):
        rows = tuple(chance.sample(range(len(table)), many))
        columns = tuple(chance.sample(range(len(table[0])), many))
        yield (rows, columns)


def just_tuples(thing):
    """Whether the thing is made of tuples and whole numbers alone, each of just that kind."""
    if type(thing) is tuple:
        return all(just_tuples(part) for part in thing)
    return type(thing) is int


def just_told(thing):
    """Whether the thing is made of tuples, whole numbers and texts alone, each of just that kind."""
    if type(thing) is tuple:
        return all(just_told(part) for part in thing)
    return type(thing) in (int, str)


def told_alike(ask, *things):
    """What is told of the things; it is told alike again, and the things stay as they were."""
    kept = copy.deepcopy(things)
    told = ask(*things)
    assert told == ask(*things) and kept == things and repr(kept) == repr(things)
    return told


def refusal_of(ask, *things):
    """(word, place) of the NoPaper, of its class alone, with which the last of the things is refused, twice."""
    kept = repr(things)
    refusals = []
    for _ in range(2):
        try:
            told = ask(*things)
        except CornerError as error:
            assert type(error) is NoPaper, error
            assert type(error.word) is str and type(error.place) is int
            refusals.append((error.word, error.place))
        else:
            raise AssertionError(f"told {told} of {things}")
    assert refusals[0] == refusals[1] and kept == repr(things)
    return refusals[0]


def steps_told(table, rule, wide, corner_of=corner_told, nought=0):
    """The STEPS by the words of point 15, each stand from its own corners."""
    stands = [stand_told(table, (), corner_of, nought)]
    pair = pair_told(stands[-1], rule, wide)
    while pair is not None:
        stands.append(stand_told(table, stands[-1][0] + (pair,), corner_of, nought))
        pair = pair_told(stands[-1], rule, wide)
    return tuple(stands)


def last_told(table, rule, wide):
    """The last of the STEPS."""
    return steps_told(table, rule, wide)[-1]


def pair_told(stand, rule, wide):
    """The next pair by the words of point 15, written apart from the package."""
    picked, _, numbers = stand
    for column in range(wide):
        rows = [i for i in range(len(numbers)) if i not in [r for r, _ in picked] and numbers[i][column]]
        if column in [c for _, c in picked] or not rows:
            continue
        keys = {"first": lambda i: i, "least": lambda i: (abs(numbers[i][column]), i),
                "most": lambda i: (-abs(numbers[i][column]), i)}
        return (sorted(rows, key=keys[rule])[0], column)
    return None


def whole_corner(table):
    """The corner of a square table at all rows and columns."""
    return determinant(table)


def adjoined(table):
    """In row j at column i the corner without row i and column j, signed."""
    many = len(table)

    def number(i, j):
        rows = [row[:j] + row[j + 1:] for at, row in enumerate(table) if at != i]
        return (-1) ** (i + j) * determinant(rows)

    return tuple(tuple(number(i, j) for i in range(many)) for j in range(many))


def rank_told(table, corner_of=corner_told):
    """The greatest k with some corner of k rows and columns that isn't 0, by all of them."""
    for many in range(min(len(table), len(table[0])), 0, -1):
        for rows in itertools.combinations(range(len(table)), many):
            for columns in itertools.combinations(range(len(table[0])), many):
                if corner_of(table, rows, columns):
                    return many
    return 0


def lead_through(factors, table):
    return tuple(sum(f * row[j] for f, row in zip(factors, table)) for j in range(len(table[0])))


def lead_home(table, row):
    return tuple(sum(a * b for a, b in zip(line, row)) for line in table)


def turn(table):
    return tuple(zip(*table))


def put(thing, place, part):
    """The tuple with another thing at the place."""
    return thing[:place] + (part,) + thing[place + 1:]


def put_deep(thing, places, part):
    """The tuple with another thing at the place within it that the places lead to."""
    if not places:
        return part
    return put(thing, places[0], put_deep(thing[places[0]], places[1:], part))


def places_left(stand):
    """The pairs at which a step can be made."""
    picked, _, numbers = stand
    return [
        (i, j) for i, row in enumerate(numbers) for j, number in enumerate(row)
        if i not in [r for r, _ in picked] and j not in [c for _, c in picked] and number
    ]


def random_paper(table, seed, many, corner_of=corner_told, nought=0):
    """A paper of at most so many steps at any pairs, each stand from its own corners, no step made."""
    chance = random.Random(seed * 7 + many)
    paper = [stand_told(table, (), corner_of, nought)]
    for _ in range(many):
        left = places_left(paper[-1])
        if not left:
            break
        paper.append(stand_told(table, paper[-1][0] + (chance.choice(left),), corner_of, nought))
    return tuple(paper)


def misshapen_stands(stand, no_numbers):
    """Near misses of the form of the stand; no_numbers are things that can't stand where numbers do."""
    picked, under, numbers = stand
    rows, columns = len(numbers), len(numbers[0])
    yield from [
        list(stand), (list(picked), under, numbers), (picked, under, list(numbers)), stand[:2], stand + (0,),
        (under, picked, numbers), (picked, numbers, under), (picked, under, numbers + numbers[:1]),
        (picked, under, numbers[:-1]), (picked, under, tuple(row + row[:1] for row in numbers)),
        (picked, under, tuple(row[:-1] for row in numbers)), (picked, under, put(numbers, 0, list(numbers[0]))),
        (picked, under, put(numbers, rows - 1, numbers[-1] + numbers[-1][:1])), (picked, under, ()),
        (picked, under, {}), (None, under, numbers), (((0, 0), (0, 0)), under, numbers), (((0, 0, 0),), under, numbers),
        (((0, columns),), under, numbers), (((rows, 0),), under, numbers), (((-1, 0),), under, numbers),
        (((0, -1),), under, numbers), (((False, 0),), under, numbers), (((0, False),), under, numbers),
        (([0, 0],), under, numbers), ((("0", 0),), under, numbers), ((0, 0), under, numbers),
        (((0, 0), (rows, 1)), under, numbers),
    ]
    for odd in no_numbers:
        yield (picked, odd, numbers)
        for i, j in itertools.product(range(rows), range(columns)):
            yield (picked, under, put_deep(numbers, (i, j), odd))


def picks_amiss(paper, place):
    """Pairs of the form that can't stand in the paper there."""
    picked, _, numbers = paper[place]
    rows, columns = len(numbers), len(numbers[0])
    if place == 0:
        yield ((0, 0),)
        yield ((rows - 1, columns - 1),)
        return
    ahead = paper[place - 1]
    yield from [ahead[0], (), picked[:-1]]
    if place > 1:
        yield from [picked[1:], picked[::-1], picked[-1:]]
    left = [(i, j) for i in range(rows) for j in range(columns)
            if i not in [r for r, _ in ahead[0]] and j not in [c for _, c in ahead[0]]]
    for pair in left:
        if not ahead[2][pair[0]][pair[1]]:
            yield ahead[0] + (pair,)
    more = [(i, j) for i, j in left if i != picked[-1][0] and j != picked[-1][1]]
    for pair in more[:2]:
        yield picked + (pair,)


def papers_amiss(paper, others_of, no_numbers):
    """(thing, (word, place)) of papers that are spoiled once; others_of tells other numbers than one that fit."""
    for thing in ODD_THINGS:
        if type(thing) is not tuple or thing == ():
            yield (thing, ("shape", -1))
        else:
            yield (thing, ("shape", 0))
    yield (list(paper), ("shape", -1))
    yield (paper[0], ("shape", 0))
    for place, (picked, under, numbers) in enumerate(paper):
        for thing in ODD_THINGS + list(misshapen_stands(paper[place], no_numbers)):
            yield (put(paper, place, thing), ("shape", place))
        for amiss in picks_amiss(paper, place):
            yield (put_deep(paper, (place, 0), amiss), ("pick", place))
        for other in others_of(under):
            yield (put_deep(paper, (place, 1), other), ("under", place))
        for i, row in enumerate(numbers):
            for j, number in enumerate(row):
                for other in others_of(number):
                    yield (put_deep(paper, (place, 2, i, j), other), ("numbers", place))
        yield (paper[:place + 1] + paper[place:], ("pick", place + 1))
        yield (paper + paper[place:place + 1], ("pick", len(paper)))
        yield (paper + (None,), ("shape", len(paper)))
        if place + 1 < len(paper):
            yield (paper[:place] + paper[place + 1:], ("pick", place))


def papers_amiss_twice(paper, others_of):
    """(thing, (word, place)) of papers with two things amiss, the first of which is due."""
    def spoiled(place):
        picked, under, numbers = paper[place]
        amiss = next(iter(picks_amiss(paper, place)))
        other_under, other_number = others_of(under)[0], others_of(numbers[0][0])[0]
        other_numbers = put_deep(numbers, (0, 0), other_number)
        return [
            ("shape", None), ("shape", [amiss, other_under, other_numbers]), ("shape", (amiss, other_under, ())),
            ("pick", (amiss, other_under, other_numbers)), ("pick", (amiss, under, other_numbers)),
            ("pick", (amiss, other_under, numbers)), ("under", (picked, other_under, other_numbers)),
            ("numbers", (picked, under, other_numbers)),
        ]

    for place in range(len(paper)):
        for word, thing in spoiled(place):
            yield (put(paper, place, thing), (word, place))
            for later in range(place + 1, len(paper)):
                for _, other in spoiled(later):
                    yield (put(put(paper, place, thing), later, other), (word, place))


# Tables of all shapes: one row, one column, square, wide, tall, of noughts, with rows that are sums of others.
MANY_TABLES = [
    ((7,),), ((0,),), ((-3,),), ((0, 0), (0, 0)), ((0, -1, 2, 5),), ((3,), (-4,), (BIG,)), ((0,), (0,), (6,)),
    ((1, 2), (3, 4)), ((0, 1), (1, 0)), ((2, 4), (1, 2)), ((1, 2, 3), (4, 5, 6), (7, 8, 9)),
    ((0, 0, 1), (0, 2, 0), (-3, 0, 0)), ((0, 0, 0), (1, 2, 3), (0, 0, 0)),
    numbers_table(1, 2, 5, 3), numbers_table(2, 4, 2, 9), numbers_table(3, 3, 3, 10 ** 12 - 1),
    numbers_table(4, 4, 4, 2), numbers_table(5, 5, 6, 10 ** 12 - 1), numbers_table(6, 5, 5, 9),
    numbers_table(7, 5, 5, 1), summed_table(8, 5, 5, 9), summed_table(9, 4, 6, 99), summed_table(10, 3, 3, 10 ** 11),
    gapped_table(11, 4, 5, 9), gapped_table(12, 5, 6, 1), gapped_table(13, 3, 4, 10 ** 12 - 1),
]
SQUARES = [table for table in MANY_TABLES if len(table) == len(table[0])]

# Tables of polys likewise; X is the poly that at each number has this number as its value.
X = (0, 1)
POLY_TABLES = [
    (((),),), (((5,),),), ((X,),), (((), ()), ((), ())), (((), X, (1, 1)),), ((X,), ((),), ((-2, 1),)),
    ((X, (1,)), ((1,), X)), ((X, (0, 2)), ((3,), (6,))), (((1, 1), (-1, 1)), ((-1, 1), (1, 1))),
    (((), X), (X, ())), (((-999, 0, 999), (1,)), ((998, -1, 3), (0, 0, 7))),
    (((0, 1), (1,), ()), ((1,), (0, 1), (1,)), ((), (1,), (0, 1))),
    (((1,), (2,), (3,)), ((4,), (5,), (6,)), ((7,), (8,), (9,))),
    (((), (), X), ((), (1, 1), ()), ((2,), (), ())),
] + [poly_table(seed, rows, columns, size) for seed, (rows, columns, size) in enumerate([
    (2, 2, 1), (2, 3, 3), (3, 2, 9), (3, 3, 2), (3, 4, 1), (4, 3, 5), (4, 4, 1), (4, 4, 999), (1, 4, 9), (4, 1, 9),
])]
