"""A second, plainer reading of points 4 to 6 and 12 to 14, to hold the package against.

Its looks keep whole ways and take the least of them, where the package goes by order of
discovery. Its saves are put in one after the other, where the package lays out blocks of
rows.
"""

import itertools

GOOD, LOOSE = "good", "loose"


def start(program, routine):
    ins, _, kept = program[0][program[1][routine][0]]
    boxes = tuple(
        GOOD if box in ins else str(box) if box in kept else LOOSE for box in range(6)
    )
    return (0, boxes, ())


def fault(program, routine, state):
    """(why, box) of a state's row, or None."""
    houses, routines = program
    number, boxes, pile = state
    word, *rest = routines[routine][1][number]
    house = houses[routines[routine][0]]

    def unfit(seen, strict=True):
        faults = []
        for box in seen:
            if boxes[box] == LOOSE:
                faults.append(("loose", box))
            elif boxes[box] != GOOD and strict:
                faults.append(("caller", box))
        return faults

    faults = []
    if word == "move":
        faults += unfit([rest[1]], False)
    elif word == "push":
        faults += unfit(rest, False)
        faults += [("deep", rest[0])] if len(pile) > 7 else []
    elif word == "pop":
        faults += [] if pile else [("pile", rest[0])]
    elif word in ("add", "take"):
        faults += unfit(rest[1:])
    elif word == "say":
        faults += unfit(rest)
    elif word == "zero":
        faults += unfit(rest[:1])
    elif word == "call":
        faults += unfit(houses[routines[rest[0]][0]][0])
    elif word == "back":
        faults += [("pile", -1)] if pile else []
        faults += [("kept", box) for box in house[2] if boxes[box] != str(box)]
        faults += unfit([house[1]])
    return faults[0] if faults else None


def behind(program, routine, state):
    """The states that come of a state that does not break."""
    houses, routines = program
    number, boxes, pile = state
    word, *rest = routines[routine][1][number]
    held, lies = dict(enumerate(boxes)), list(pile)
    rows = [number + 1]
    if word in ("put", "add", "take"):
        held[rest[0]] = GOOD
    elif word == "move":
        held[rest[0]] = held[rest[1]]
    elif word == "push":
        lies.append(held[rest[0]])
    elif word == "pop":
        held[rest[0]] = lies.pop()
    elif word == "call":
        _, out, kept = houses[routines[rest[0]][0]]
        for box in range(6):
            if box == out:
                held[box] = GOOD
            elif box not in kept:
                held[box] = LOOSE
    elif word == "zero":
        rows.append(rest[1])
    elif word == "go":
        rows = [rest[0]]
    elif word == "back":
        rows = []
    return [(row, tuple(held[box] for box in range(6)), tuple(lies)) for row in rows]


def look(program, routine, most=10**9):
    """(told, states met by ways no longer than told, or by all)."""
    ways = {start(program, routine): [0]}
    met = set()
    while True:
        fresh = set(ways) - met
        met |= fresh
        broken = [
            (way, *fault(program, routine, state))
            for state, way in ways.items()
            if fault(program, routine, state) is not None
        ]
        if broken:
            return min(broken), met
        if not fresh or len(met) > most:
            return None, met
        longer = {}
        for state, way in ways.items():
            for coming in behind(program, routine, state):
                further = way + [coming[0]]
                if coming not in longer or further < longer[coming]:
                    longer[coming] = further
        ways = longer


def all_states(program, routine):
    """All states that are met by ways that do not break ahead of them."""
    met = {start(program, routine)}
    left = list(met)
    while left:
        state = left.pop()
        if fault(program, routine, state) is None:
            fresh = [coming for coming in behind(program, routine, state) if coming not in met]
            met.update(fresh)
            left += fresh
    return met


def put_in(program, routine, saves):
    """The rows of a routine with saves, one push or pop put in after the other.

    Here a row to which another one goes is held itself, not its number.
    """
    rows = [list(row) for row in program[1][routine][1]]
    for row in rows:
        if row[0] in ("go", "zero"):
            row[-1] = rows[row[-1]]
    told = list(rows)

    def place(row):
        return [row is other for other in told].index(True)

    def put_ahead(row, fresh):
        told.insert(place(row), fresh)
        for other in told:
            if other[0] in ("go", "zero") and other[-1] is row:
                other[-1] = fresh

    for number, box in saves:
        if number > -1:
            put_ahead(rows[number], ["push", box])
            told.insert(place(rows[number]) + 1, ["pop", box])
    whole = [box for number, box in saves if number == -1]
    for row in rows:
        if row[0] == "back":
            for box in reversed(whole):
                put_ahead(row, ["pop", box])
    told[:0] = [["push", box] for box in whole]
    return tuple(
        (*row[:-1], place(row[-1])) if row[0] in ("go", "zero") else tuple(row) for row in told
    )


def with_rows(program, routine, rows):
    houses, routines = program
    changed = [(house, rows if at == routine else own) for at, (house, own) in enumerate(routines)]
    return (houses, tuple(changed))


def outs(program, routine):
    """What saves may be about, each with the box in which is told there."""
    houses, routines = program
    told = {-1: houses[routines[routine][0]][1]}
    for number, row in enumerate(routines[routine][1]):
        if row[0] == "call":
            told[number] = houses[routines[row[1]][0]][1]
    return told


def fewest(program, routine):
    """The least of all lists of saves that mend a routine, found by judging every one of them."""
    choices = [
        (row, box) for row, out in outs(program, routine).items() for box in range(6) if box != out
    ]
    mending = []
    for many in range(4):
        for saves in itertools.combinations(choices, many):
            rows = put_in(program, routine, saves)
            if len(rows) < 33:
                told, met = look(with_rows(program, routine, rows), routine, 250)
                if told is None and len(met) < 251:
                    mending.append((many, sorted(saves)))
        if mending:
            return min(mending)[1]
    return None


def piles(program):
    """How high each routine's part of the pile gets, with those of the ones that it calls."""
    houses, routines = program
    highest, called = {}, {}
    for routine in range(len(routines)):
        called[routine] = {}
        highest[routine] = 0
        for row, _, pile in all_states(program, routine):
            highest[routine] = max(highest[routine], len(pile))
            word, *rest = routines[routine][1][row]
            if word == "call":
                ahead = called[routine].get(rest[0], 0)
                called[routine][rest[0]] = max(ahead, len(pile))

    def leads_to(routine):
        met, left = set(), [routine]
        while left:
            fresh = set(called[left.pop()]) - met
            met |= fresh
            left += fresh
        return met

    def most(routine):
        inner = [height + most(other) for other, height in called[routine].items()]
        return max([highest[routine]] + inner)

    round_ones = {routine for routine in highest if routine in leads_to(routine)}
    return [
        None if (leads_to(routine) | {routine}) & round_ones else most(routine)
        for routine in range(len(routines))
    ]
