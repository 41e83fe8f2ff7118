"""How many numbers the calls of routines may lay on the pile."""

from callpact.looks import paper
from callpact.programs import check_program, rows_of


def most_laid(program, routine, states, settled):
    """Tell how many numbers may lie there by a routine's states, or None if that isn't settled.

    What lies there in a call is what the routine itself laid there, and above it what the
    called one lays there.
    """
    rows = rows_of(program, routine)
    most = 0
    for number, _, pile in states:
        height = len(pile)
        if rows[number][0] == "call":
            above = settled[rows[number][1]]
            if above is None:
                return None
            height += above
        most = max(most, height)
    return most


def piles(program):
    """Tell for each routine how many numbers its calls may lay on the pile, or None."""
    check_program(program)
    _, routines = program
    # There is no paper of a routine that is not let by, so the one that looked tells is refused.
    papers = [paper(program, routine) for routine in range(len(routines))]
    settled = [None] * len(routines)
    # Each round settles those that call settled ones alone. So what never is settled calls
    # itself, or leads to one that does.
    for _ in routines:
        settled = [most_laid(program, routine, states, settled) for routine, states in enumerate(papers)]
    return settled
