"""Saves: pushes and pops about a call, or about the whole of a routine, which mend it."""

from itertools import combinations

from callpact.errors import BadSaves, TooMany
from callpact.looks import look_at
from callpact.programs import (BOXES, MOST_ROWS, check_number, check_program, house_of, is_below, is_tuple_of,
                               rows_of)

# Stands for the row of a save that is about the whole routine.
WHOLE = -1
MOST_SAVES = 3
MOST_CALLS = 2


def told_in(program, routine, row):
    """Tell the box in which what a save is about is told, or None if nothing is there to save."""
    if row == WHOLE:
        _, out, _ = house_of(program, routine)
        return out
    rows = rows_of(program, routine)
    if not is_below(row, len(rows)) or rows[row][0] != "call":
        return None
    _, out, _ = house_of(program, rows[row][1])
    return out


def is_save(program, routine, save):
    """Tell whether a value is a save that a routine can have."""
    if not is_tuple_of(save, 2, 2):
        return False
    row, box = save
    out = told_in(program, routine, row)
    return out is not None and is_below(box, BOXES) and box != out


def check_saves(program, routine, saves):
    """Refuse a list of others than saves, or one that does not rise."""
    if not all([is_save(program, routine, save) for save in saves]):
        raise BadSaves(f"the list holds others than saves of routine {routine}")
    if not all([low < high for low, high in zip(saves, saves[1:])]):
        raise BadSaves("the list of saves does not rise")


def boxes_about(saves, about):
    """Tell the boxes of the saves about a row, or about the whole, rising."""
    return [box for row, box in saves if row == about]


def pushes_of(boxes):
    """Tell the rows that push boxes, rising."""
    return [("push", box) for box in boxes]


def pops_of(boxes):
    """Tell the rows that pop boxes, falling."""
    return [("pop", box) for box in boxes[::-1]]


def blocks_of(rows, saves):
    """Tell for each row the list of rows that come of it: itself and what is put in about it."""
    whole = boxes_about(saves, WHOLE)
    blocks = []
    for number, row in enumerate(rows):
        if row[0] == "back":
            blocks.append(pops_of(whole) + [row])
        else:
            boxes = boxes_about(saves, number)
            blocks.append(pushes_of(boxes) + [row] + pops_of(boxes))
    return blocks


def led_anew(row, starts):
    """Tell a row that goes to where what it went to starts now."""
    if row[0] == "go":
        return ("go", starts[row[1]])
    if row[0] == "zero":
        return ("zero", row[1], starts[row[2]])
    return row


def saved_rows(rows, saves):
    """Tell the rows that come of rows with saves."""
    # Nothing goes to the pushes about the whole: they are done once, ahead of all.
    told = pushes_of(boxes_about(saves, WHOLE))
    blocks = blocks_of(rows, saves)
    starts = []
    start = len(told)
    for block in blocks:
        starts.append(start)
        start += len(block)
    for block in blocks:
        told.extend([led_anew(row, starts) for row in block])
    return tuple(told)


def with_rows(program, routine, rows):
    """Tell a program in which a routine has other rows."""
    houses, routines = program
    house, _ = routines[routine]
    return (houses, (*routines[:routine], (house, rows), *routines[routine + 1:]))


def put_in(program, routine, saves):
    """Tell the program with saves in a routine."""
    check_program(program)
    check_number(program, routine)
    check_saves(program, routine, saves)
    rows = saved_rows(rows_of(program, routine), saves)
    if len(rows) > MOST_ROWS:
        raise BadSaves(f"more than {MOST_ROWS} rows come of it")
    return with_rows(program, routine, rows)


def mend(program, routine, saves):
    """Tell whether a routine is let by with saves."""
    rows = saved_rows(rows_of(program, routine), saves)
    if len(rows) > MOST_ROWS:
        return False
    try:
        return look_at(with_rows(program, routine, rows), routine) is None
    except TooMany:
        return False


def fewest(program, routine):
    """Tell the first of the shortest lists of saves by which a routine is let by, or None."""
    check_program(program)
    check_number(program, routine)
    rows = rows_of(program, routine)
    if len([row for row in rows if row[0] == "call"]) > MOST_CALLS:
        raise TooMany(f"routine {routine} has more than {MOST_CALLS} calls")
    pairs = [(row, box) for row in range(WHOLE, len(rows)) for box in range(BOXES)]
    choices = [save for save in pairs if is_save(program, routine, save)]
    for many in range(MOST_SAVES + 1):
        for saves in combinations(choices, many):
            if mend(program, routine, saves):
                return list(saves)
    return None
