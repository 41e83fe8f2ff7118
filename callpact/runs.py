"""Runs of a program: what is said and told, which breaks are seen, and runs with noise."""

from callpact.errors import BadFuel, BadGiven, BadNoise
from callpact.programs import BOXES, NUMBERS, check_program, house_of, is_below, rows_of

MOST_FUEL = 1000
MOST_NOISE = 8
# Stands for the routine and the row of a call that nobody did.
NOBODY = -1


class Play:
    """One run: what its boxes and its pile hold, and what came of it so far."""

    def __init__(self, program, given, noise):
        self.program = program
        self.noise = noise
        self.laid = 0
        self.boxes = [0] * BOXES
        self.pile = []
        self.said = []
        self.breaks = []
        self.end = "long"
        self.told = None
        self.routine = 0
        self.row = 0
        ins, _, _ = house_of(program, 0)
        self.lay_noise([box for box in range(BOXES) if box not in ins])
        for box, number in zip(ins, given):
            self.boxes[box] = number
        # Of each call that waits: where it stands, and what there was ahead of it.
        self.waiting = [(NOBODY, NOBODY, tuple(self.boxes), ())]

    def lay_noise(self, places):
        """Lay the next numbers of the noise, if there is any, into boxes."""
        if len(self.noise) == 0:
            return
        for box in places:
            self.boxes[box] = self.noise[self.laid % len(self.noise)]
            self.laid += 1

    def do_row(self):
        """Do the row that comes next."""
        at = self.row
        row = rows_of(self.program, self.routine)[at]
        word = row[0]
        self.row = at + 1
        if word == "go":
            self.row = row[1]
        elif word == "zero":
            if self.boxes[row[1]] == 0:
                self.row = row[2]
        elif word == "call":
            self.begin(row[1], at)
        elif word == "back":
            self.go_back()
        elif word == "push":
            self.pile.append(self.boxes[row[1]])
        elif word == "pop":
            self.take_up(row[1])
        elif word == "say":
            self.said.append(self.boxes[row[1]])
        else:
            self.boxes[row[1]] = self.worth(row)

    def worth(self, row):
        """Tell what a put, a move, an add or a take lays into its box."""
        word = row[0]
        if word == "put":
            return row[2]
        if word == "move":
            return self.boxes[row[2]]
        if word == "add":
            return (self.boxes[row[2]] + self.boxes[row[3]]) % NUMBERS
        return (self.boxes[row[2]] - self.boxes[row[3]]) % NUMBERS

    def take_up(self, box):
        """Take what lies uppermost into a box, or end the run where nothing lies."""
        if len(self.pile) == 0:
            self.end = "pile"
        else:
            self.boxes[box] = self.pile.pop()

    def begin(self, routine, at):
        """Begin a routine that is called by the row at which the run is."""
        self.waiting.append((self.routine, at, tuple(self.boxes), tuple(self.pile)))
        self.routine = routine
        self.row = 0

    def go_back(self):
        """Go on behind the call that waits, or end the run where nobody called."""
        _, out, kept = house_of(self.program, self.routine)
        routine, row, boxes, pile = self.waiting.pop()
        for box in kept:
            if self.boxes[box] != boxes[box]:
                self.breaks.append((routine, row, "kept", box))
        if tuple(self.pile) != pile:
            self.breaks.append((routine, row, "pile", -1))
        if routine == NOBODY:
            self.end = "back"
            self.told = self.boxes[out]
        else:
            self.lay_noise([box for box in range(BOXES) if box not in kept and box != out])
            self.routine = routine
            self.row = row + 1


def are_numbers(values):
    """Tell whether all of a list can lie in boxes."""
    return all([is_below(value, NUMBERS) for value in values])


def check_start(program, given, fuel):
    """Refuse what no run can start with."""
    check_program(program)
    ins, _, _ = house_of(program, 0)
    if len(given) != len(ins) or not are_numbers(given):
        raise BadGiven(f"routine 0 is handed {len(ins)} numbers below {NUMBERS}")
    if not is_below(fuel, MOST_FUEL + 1):
        raise BadFuel(f"fuel is a number from 0 to {MOST_FUEL}")


def played(program, given, fuel, noise):
    """Tell the play in which at most so many rows are done."""
    play = Play(program, given, noise)
    for _ in range(fuel):
        play.do_row()
        if play.end != "long":
            return play
    return play


def run(program, given, fuel):
    """Tell (said, end, told) of a run of routine 0."""
    check_start(program, given, fuel)
    play = played(program, given, fuel, [])
    return (play.said, play.end, play.told)


def noisy(program, given, fuel, noise):
    """Tell (said, end, told) of a run in which noise lies in boxes that promise nothing."""
    check_start(program, given, fuel)
    if not 1 <= len(noise) <= MOST_NOISE or not are_numbers(noise):
        raise BadNoise(f"noise is one to {MOST_NOISE} numbers below {NUMBERS}")
    play = played(program, given, fuel, noise)
    return (play.said, play.end, play.told)


def watched(program, given, fuel):
    """Tell the breaks that are seen in a run of routine 0, in turn."""
    check_start(program, given, fuel)
    return played(program, given, fuel, []).breaks
