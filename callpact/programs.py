"""What a program is, and how what is none is refused."""

from callpact.errors import BadNumber, BadProgram

BOXES = 6
# A box holds a number below this one.
NUMBERS = 1000
MOST_HOUSES = 3
MOST_ROUTINES = 6
MOST_ROWS = 32

# For each word of a row, what stands behind it.
PLACES = {
    "put": ("box", "number"),
    "move": ("box", "box"),
    "add": ("box", "box", "box"),
    "take": ("box", "box", "box"),
    "push": ("box",),
    "pop": ("box",),
    "say": ("box",),
    "zero": ("box", "row"),
    "go": ("row",),
    "call": ("routine",),
    "back": (),
}


def is_below(value, limit):
    """Tell whether a value is a number from 0 on that is below the limit."""
    # True and False are integers to Python, but no numbers here.
    return isinstance(value, int) and not isinstance(value, bool) and 0 <= value < limit


def is_tuple_of(value, least, most):
    """Tell whether a value is a tuple of so many items."""
    return isinstance(value, tuple) and least <= len(value) <= most


def are_rising_boxes(value):
    """Tell whether a value is a tuple of boxes, each above the one ahead of it."""
    if not isinstance(value, tuple) or not all([is_below(box, BOXES) for box in value]):
        return False
    return all([low < high for low, high in zip(value, value[1:])])


def is_house(house):
    """Tell whether a value is a house."""
    if not is_tuple_of(house, 3, 3):
        return False
    ins, out, kept = house
    if not are_rising_boxes(ins) or not is_below(out, BOXES) or not are_rising_boxes(kept):
        return False
    return not any([box in ins or box == out for box in kept])


def is_row(row, limits):
    """Tell whether a value is a row, where limits tells what each place is below."""
    if not isinstance(row, tuple) or len(row) == 0 or not isinstance(row[0], str):
        return False
    places = PLACES.get(row[0])
    if places is None or len(row) != len(places) + 1:
        return False
    return all([is_below(value, limits[place]) for value, place in zip(row[1:], places)])


def check_houses(houses):
    """Refuse what are no houses."""
    if not is_tuple_of(houses, 1, MOST_HOUSES):
        raise BadProgram("houses", 0, -1)
    for number, house in enumerate(houses):
        if not is_house(house):
            raise BadProgram("house", number, -1)


def check_rows(rows, number, many_routines):
    """Refuse the first that is no row, or a last row that does not lead elsewhere."""
    limits = {"box": BOXES, "number": NUMBERS, "row": len(rows), "routine": many_routines}
    for at, row in enumerate(rows):
        if not is_row(row, limits):
            raise BadProgram("row", number, at)
    if rows[-1][0] not in ("go", "back"):
        raise BadProgram("end", number, -1)


def check_routines(routines, many_houses):
    """Refuse what are no routines."""
    if not is_tuple_of(routines, 1, MOST_ROUTINES):
        raise BadProgram("routines", 0, -1)
    for number, routine in enumerate(routines):
        if not is_tuple_of(routine, 2, 2):
            raise BadProgram("routine", number, -1)
        house, rows = routine
        if not is_below(house, many_houses) or not is_tuple_of(rows, 1, MOST_ROWS):
            raise BadProgram("routine", number, -1)
        check_rows(rows, number, len(routines))


def check_program(program):
    """Refuse what is no program."""
    # What is no pair has no houses to speak of, so the first of the words is told.
    if not is_tuple_of(program, 2, 2):
        raise BadProgram("houses", 0, -1)
    houses, routines = program
    check_houses(houses)
    check_routines(routines, len(houses))


def check_number(program, routine):
    """Refuse the number of a routine that a program does not have."""
    _, routines = program
    if not is_below(routine, len(routines)):
        raise BadNumber(f"there is no routine {routine}")


def house_of(program, routine):
    """Tell the house of a routine."""
    houses, routines = program
    number, _ = routines[routine]
    return houses[number]


def rows_of(program, routine):
    """Tell the rows of a routine."""
    _, routines = program
    _, rows = routines[routine]
    return rows
