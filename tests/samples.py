"""Programs that several tests use, and ways to make more."""

import random

from callpact.errors import TooMany
from callpact.looks import look, looked

PLAIN = ((0,), 0, ())
KEEPER = ((0, 1), 0, (2, 3))
BACK = ("back",)
FILL = ("put", 0, 1)

# What is handed in is told.
TELLS = ((PLAIN,), ((0, (BACK,)),))

# Routine 0 multiplies boxes 0 and 1 by adding, in routine 1, which keeps boxes 2 and 3.
TIMES = (
    (((0, 1), 0, ()), KEEPER),
    (
        (0, (
            ("move", 2, 0),
            ("put", 0, 0),
            ("zero", 1, 9),
            ("push", 1),
            ("move", 1, 2),
            ("call", 1),
            ("pop", 1),
            ("put", 4, 1),
            ("go", 10),
            BACK,
            ("take", 1, 1, 4),
            ("go", 2),
        )),
        (1, (("add", 0, 0, 1), ("say", 0), BACK)),
    ),
)

# Routine 0 counts down by calling itself, and says the numbers on the way back.
DOWN = (
    (((0,), 1, ()),),
    (
        (0, (
            ("zero", 0, 9),
            ("push", 0),
            ("put", 2, 1),
            ("take", 0, 0, 2),
            ("call", 0),
            ("pop", 0),
            ("say", 0),
            ("put", 1, 7),
            BACK,
            ("put", 1, 3),
            BACK,
        )),
    ),
)


def alone(rows, house=PLAIN):
    """A program of one house and one routine."""
    return ((house,), ((0, tuple(rows)),))


def pair(rows, called, caller_house=PLAIN, called_house=PLAIN):
    """A program of two houses, whose routine 0 may call routine 1."""
    return ((caller_house, called_house), ((0, tuple(rows)), (1, tuple(called))))


def diamonds(fill, at):
    """Rows that make each of boxes 1 to 5 good or leave it, with so many rows put between.

    The first of these rows is row `at`. Behind them 32 states are met by each row.
    """
    rows = [FILL] * fill[0]
    for box in range(1, 6):
        over = at + len(rows) + 2
        rows += [("zero", 0, over), ("put", box, 1)]
        rows += [FILL] * fill[box]
    return rows


def let_by_with_many(fill):
    """A routine that is let by, of as many states as the fill makes."""
    return alone(diamonds(fill, 0) + [BACK])


def broken_beside_many(fill, broken_first):
    """A routine with a way of 18 rows that breaks, and diamonds on the other ways."""
    if broken_first:
        rows = [("zero", 0, 3), ("push", 0), ("go", 1)] + diamonds(fill, 3) + [BACK]
    else:
        rows = diamonds(fill, 1) + [BACK]
        tail = len(rows) + 1
        rows = [("zero", 0, tail)] + rows + [("push", 0), ("go", tail)]
    return alone(rows)


WORDS = ("put", "move", "add", "take", "say", "zero", "go", "back") + 2 * (
    "push", "pop", "call", "move"
)


def random_row(chance, many_rows, callable_ones):
    """A row whose rows and routines are among the told."""
    word = chance.choice(WORDS)
    boxes = tuple(chance.randrange(6) for _ in range(3))
    if word == "put":
        return (word, boxes[0], chance.choice([0, 0, 1, 2, 500, 999]))
    if word == "zero":
        return (word, boxes[0], chance.randrange(many_rows))
    if word == "go":
        return (word, chance.randrange(many_rows))
    if word == "call":
        return (word, chance.choice(callable_ones))
    many = {"move": 2, "add": 3, "take": 3, "push": 1, "pop": 1, "say": 1, "back": 0}
    return (word, *boxes[:many[word]])


def random_house(chance):
    boxes = list(range(6))
    chance.shuffle(boxes)
    many, more = chance.randrange(3), chance.randrange(3)
    ins, kept = boxes[:many], boxes[many:many + more]
    out = chance.choice([box for box in range(6) if box not in kept])
    return (tuple(sorted(ins)), out, tuple(sorted(kept)))


def random_houses(chance):
    return tuple(random_house(chance) for _ in range(chance.randint(1, 3)))


def random_programs(seed, many, most_rows=8):
    """Programs of any rows, let by or not."""
    chance = random.Random(seed)
    told = []
    for _ in range(many):
        houses = random_houses(chance)
        count = chance.randint(1, 3)
        routines = []
        for _ in range(count):
            size = chance.randint(1, most_rows)
            rows = [random_row(chance, size, range(count)) for _ in range(size - 1)]
            rows.append(chance.choice([BACK, BACK, ("go", chance.randrange(size))]))
            routines.append((chance.randrange(len(houses)), tuple(rows)))
        told.append((houses, tuple(routines)))
    return told


def grown_rows(chance, houses, routines, number):
    """Rows by which a routine is let by, grown row by row; None where none came about."""
    house = routines[number][0]
    rows = []

    def holds(tried):
        there = routines[:number] + ((house, tuple(tried)),) + routines[number + 1:]
        try:
            return look((houses, there), number) is None
        except TooMany:
            return False

    # Most calls go to later routines alone, so that most runs come to an end.
    callable_ones = list(range(number + 1, len(routines)))
    if chance.randrange(8) == 0 or not callable_ones and chance.randrange(4) == 0:
        callable_ones.append(chance.randrange(number + 1))
    for _ in range(60):
        at = len(rows)
        row = random_row(chance, at + 2, callable_ones or [None])
        if row[0] in ("go", "back") or row == ("call", None):
            continue
        if holds(rows + [row, ("go", at + 1)]):
            rows.append(row)
        if len(rows) > 10 or (len(rows) > 5 and holds(rows + [BACK])):
            break
    # What was left on the pile is taken up again, where that mends the routine.
    for _ in range(9):
        if holds(rows + [BACK]):
            return tuple(rows) + (BACK,)
        for row in (("pop", chance.randrange(6)), ("put", chance.randrange(6), 1)):
            if holds(rows + [row, ("go", len(rows) + 1)]):
                rows.append(row)
    return None


def let_by_programs(seed, many):
    """Programs that looked lets by, with calls, loops and piles in them."""
    chance = random.Random(seed)
    told = []
    while len(told) < many:
        houses = random_houses(chance)
        count = chance.randint(2, 4)
        # A look hangs on houses, not on the rows of others, so these may stand in for them.
        routines = tuple((chance.randrange(len(houses)), (("go", 0),)) for _ in range(count))
        rows = [grown_rows(chance, houses, routines, number) for number in range(count)]
        if None not in rows:
            grown = tuple((routine[0], own) for routine, own in zip(routines, rows))
            assert looked((houses, grown)) is None
            told.append((houses, grown))
    return told


def spoilt_programs(seed, many):
    """Programs that were let by until one row of a routine became another."""
    chance = random.Random(seed)
    told = []
    for houses, routines in let_by_programs(seed, many):
        number = chance.randrange(len(routines))
        house, rows = routines[number]
        at = chance.randrange(len(rows) - 1)
        row = random_row(chance, len(rows), range(len(routines)))
        rows = rows[:at] + (row,) + rows[at + 1:]
        told.append((houses, routines[:number] + ((house, rows),) + routines[number + 1:]))
    return told


def straight_programs(seed, many):
    """Programs without ways that part, of which several lack nothing but some saves."""
    chance = random.Random(seed)
    told = []
    for _ in range(many):
        boxes = chance.sample(range(1, 6), 3)
        house = ((0,), 0, tuple(sorted(boxes[:chance.randrange(4)])))
        rows = [("put", box, 1) for box in boxes] + [("call", 1)] * chance.randrange(3)
        rows += [(chance.choice(["say", "push"]), box) for box in boxes[:chance.randrange(4)]]
        rows += [("pop", chance.randrange(1, 6)) for row in rows if row[0] == "push"]
        called_house = ((0,), 0, tuple(sorted(boxes[:chance.randrange(3)])))
        told.append(pair(rows + [BACK], [BACK], house, called_house))
    return told


def given_of(program, chance):
    """Numbers that routine 0 may be given."""
    ins = program[0][program[1][0][0]][0]
    return [chance.choice([0, 1, 2, 3, 999, chance.randrange(1000)]) for _ in ins]
