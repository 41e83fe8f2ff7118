"""A second, plainer reading of points 4 to 6, to hold the package's looks against.

It keeps whole ways and takes the least of them, where the package goes by order of discovery.
"""

GOOD, LOOSE = "good", "loose"


def start(program, routine):
    ins, _, kept = program[0][program[1][routine][0]]
    boxes = tuple(
        GOOD if box in ins else str(box) if box in kept else LOOSE for box in range(6)
    )
    return (0, boxes, ())


def fault(program, routine, state):
    """(why, box) of a state's row, or None."""
    houses, routines = program
    number, boxes, pile = state
    word, *rest = routines[routine][1][number]
    house = houses[routines[routine][0]]

    def unfit(seen, strict=True):
        faults = []
        for box in seen:
            if boxes[box] == LOOSE:
                faults.append(("loose", box))
            elif boxes[box] != GOOD and strict:
                faults.append(("caller", box))
        return faults

    faults = []
    if word == "move":
        faults += unfit([rest[1]], False)
    elif word == "push":
        faults += unfit(rest, False)
        faults += [("deep", rest[0])] if len(pile) > 7 else []
    elif word == "pop":
        faults += [] if pile else [("pile", rest[0])]
    elif word in ("add", "take"):
        faults += unfit(rest[1:])
    elif word == "say":
        faults += unfit(rest)
    elif word == "zero":
        faults += unfit(rest[:1])
    elif word == "call":
        faults += unfit(houses[routines[rest[0]][0]][0])
    elif word == "back":
        faults += [("pile", -1)] if pile else []
        faults += [("kept", box) for box in house[2] if boxes[box] != str(box)]
        faults += unfit([house[1]])
    return faults[0] if faults else None


def behind(program, routine, state):
    """The states that come of a state that does not break."""
    houses, routines = program
    number, boxes, pile = state
    word, *rest = routines[routine][1][number]
    held, lies = dict(enumerate(boxes)), list(pile)
    rows = [number + 1]
    if word in ("put", "add", "take"):
        held[rest[0]] = GOOD
    elif word == "move":
        held[rest[0]] = held[rest[1]]
    elif word == "push":
        lies.append(held[rest[0]])
    elif word == "pop":
        held[rest[0]] = lies.pop()
    elif word == "call":
        _, out, kept = houses[routines[rest[0]][0]]
        for box in range(6):
            if box == out:
                held[box] = GOOD
            elif box not in kept:
                held[box] = LOOSE
    elif word == "zero":
        rows.append(rest[1])
    elif word == "go":
        rows = [rest[0]]
    elif word == "back":
        rows = []
    return [(row, tuple(held[box] for box in range(6)), tuple(lies)) for row in rows]


def look(program, routine, most=10**9):
    """(told, states met by ways no longer than told, or by all)."""
    ways = {start(program, routine): [0]}
    met = set()
    while True:
        fresh = set(ways) - met
        met |= fresh
        broken = [
            (way, *fault(program, routine, state))
            for state, way in ways.items()
            if fault(program, routine, state) is not None
        ]
        if broken:
            return min(broken), met
        if not fresh or len(met) > most:
            return None, met
        longer = {}
        for state, way in ways.items():
            for coming in behind(program, routine, state):
                further = way + [coming[0]]
                if coming not in longer or further < longer[coming]:
                    longer[coming] = further
        ways = longer


def all_states(program, routine):
    """All states that are met by ways that do not break ahead of them."""
    met = {start(program, routine)}
    left = list(met)
    while left:
        state = left.pop()
        if fault(program, routine, state) is None:
            fresh = [coming for coming in behind(program, routine, state) if coming not in met]
            met.update(fresh)
            left += fresh
    return met
