"""Looks at routines, each by itself, by all ways through its rows; and papers on them."""

from callpact.errors import BadStates, NotLet, TooMany
from callpact.programs import check_number, check_program, house_of, rows_of
from callpact.states import break_of, come_of, first_state, is_state

MOST_STATES = 250


def first_break(program, routine, states):
    """Tell the first of the states that breaks the pact, as (state, why, box), or None."""
    for state in states:
        fault = break_of(program, routine, state)
        if fault is not None:
            why, box = fault
            return (state, why, box)
    return None


def next_level(program, routine, level, origins):
    """Tell the states that are met first right behind a level, and note their origins."""
    found = []
    for state in level:
        for coming in come_of(program, routine, state):
            if coming not in origins:
                origins[coming] = state
                found.append(coming)
    return found


def survey(program, routine):
    """Tell (origins, fault): of each state that is met the one ahead of it, and the first break.

    A level holds the states that are met first by ways of one length, in the order of these
    ways. So the first break in it lies on the first of the shortest ways that break.
    """
    start = first_state(house_of(program, routine))
    origins = {start: None}
    level = [start]
    fault = None
    while len(level) > 0 and fault is None:
        # Ways as long as the shortest one count whole, so this comes ahead of the break.
        if len(origins) > MOST_STATES:
            raise TooMany(f"routine {routine} meets more than {MOST_STATES} states")
        fault = first_break(program, routine, level)
        if fault is None:
            level = next_level(program, routine, level, origins)
    return (origins, fault)


def way_to(origins, state):
    """Tell the rows of the way on which a state was met first."""
    way = []
    while state is not None:
        way.append(state[0])
        state = origins[state]
    return way[::-1]


def look_at(program, routine):
    """Tell what look tells, of what was checked already."""
    origins, fault = survey(program, routine)
    if fault is None:
        return None
    state, why, box = fault
    return (way_to(origins, state), why, box)


def look(program, routine):
    """Tell None if a routine is let by, else (way, why, box) of the first shortest break."""
    check_program(program)
    check_number(program, routine)
    return look_at(program, routine)


def looked(program):
    """Tell None if all routines are let by, else (routine, way, why, box) of the first other."""
    check_program(program)
    _, routines = program
    for routine in range(len(routines)):
        told = look_at(program, routine)
        if told is not None:
            way, why, box = told
            return (routine, way, why, box)
    return None


def paper(program, routine):
    """Tell all states that are met of a routine that is let by, rising."""
    check_program(program)
    check_number(program, routine)
    origins, fault = survey(program, routine)
    if fault is not None:
        raise NotLet(f"routine {routine} is not let by")
    return sorted(origins)


def shows(program, routine, states):
    """Tell whether a list of states shows that a routine is let by."""
    check_program(program)
    check_number(program, routine)
    many_rows = len(rows_of(program, routine))
    if not all([is_state(state, many_rows) for state in states]):
        raise BadStates(f"the list holds others than states of routine {routine}")
    listed = {state: True for state in states}
    if first_state(house_of(program, routine)) not in listed:
        return False
    if first_break(program, routine, list(listed)) is not None:
        return False
    for state in listed:
        if not all([coming in listed for coming in come_of(program, routine, state)]):
            return False
    return True
