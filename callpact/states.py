"""States of a routine: what its rows do to them, and how they break the pact."""

from callpact.programs import BOXES, house_of, is_below, is_tuple_of, rows_of

GOOD = "good"
LOOSE = "loose"
# What a box, or a place of the pile, may be: a figure is what the caller has in that box.
MARKS = ("good", "loose", "0", "1", "2", "3", "4", "5")
DEEPEST = 8


def first_state(house):
    """Tell the state in which a routine of a house begins."""
    ins, _, kept = house
    boxes = [LOOSE] * BOXES
    for box in ins:
        boxes[box] = GOOD
    for box in kept:
        boxes[box] = str(box)
    return (0, tuple(boxes), ())


def are_marks(value):
    """Tell whether a tuple is one of marks alone."""
    return all([mark in MARKS for mark in value])


def is_state(value, many_rows):
    """Tell whether a value is a state of a routine with so many rows."""
    if not is_tuple_of(value, 3, 3):
        return False
    row, boxes, pile = value
    if not is_below(row, many_rows):
        return False
    if not is_tuple_of(boxes, BOXES, BOXES) or not is_tuple_of(pile, 0, DEEPEST):
        return False
    return are_marks(boxes) and are_marks(pile)


def looked_at(program, row):
    """Tell the boxes that a row looks at, in their order there."""
    word = row[0]
    if word in ("push", "say", "zero"):
        return row[1:2]
    if word in ("move", "add", "take"):
        return row[2:]
    if word == "call":
        ins, _, _ = house_of(program, row[1])
        return ins
    return ()


def first_unfit(boxes, wanted, carries):
    """Tell the first of the wanted boxes that may not be looked at, and why, or None."""
    for box in wanted:
        if boxes[box] == LOOSE:
            return ("loose", box)
        # What is only carried elsewhere is not looked into.
        if boxes[box] != GOOD and not carries:
            return ("caller", box)
    return None


def break_of_back(house, boxes, pile):
    """Tell how going back from a routine of a house breaks the pact, or None."""
    _, out, kept = house
    if len(pile) > 0:
        return ("pile", -1)
    for box in kept:
        if boxes[box] != str(box):
            return ("kept", box)
    return first_unfit(boxes, (out,), False)


def break_of(program, routine, state):
    """Tell how a state's row breaks the pact, as (why, box), or None."""
    number, boxes, pile = state
    row = rows_of(program, routine)[number]
    word = row[0]
    if word == "back":
        return break_of_back(house_of(program, routine), boxes, pile)
    unfit = first_unfit(boxes, looked_at(program, row), word in ("move", "push"))
    if unfit is not None:
        return unfit
    if word == "push" and len(pile) == DEEPEST:
        return ("deep", row[1])
    if word == "pop" and len(pile) == 0:
        return ("pile", row[1])
    return None


def boxes_behind_call(house, boxes):
    """Tell what the boxes are when a routine of a house went back."""
    _, out, kept = house
    behind = [LOOSE] * BOXES
    for box in kept:
        behind[box] = boxes[box]
    behind[out] = GOOD
    return behind


def next_rows(row, number):
    """Tell which rows may come behind a row of this number, rising."""
    word = row[0]
    if word == "back":
        return []
    if word == "go":
        return [row[1]]
    if word == "zero":
        return sorted({number + 1, row[2]})
    return [number + 1]


def come_of(program, routine, state):
    """Tell the states that come of one whose row does not break the pact, rising."""
    number, boxes, pile = state
    row = rows_of(program, routine)[number]
    word = row[0]
    behind = list(boxes)
    if word in ("put", "add", "take"):
        behind[row[1]] = GOOD
    elif word == "move":
        behind[row[1]] = boxes[row[2]]
    elif word == "push":
        pile = (*pile, boxes[row[1]])
    elif word == "pop":
        behind[row[1]] = pile[-1]
        pile = pile[:-1]
    elif word == "call":
        behind = boxes_behind_call(house_of(program, row[1]), boxes)
    return [(coming, tuple(behind), pile) for coming in next_rows(row, number)]
