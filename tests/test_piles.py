"""Point 14: piles."""

import random
import unittest

from callpact.errors import BadProgram, NotLet, TooMany
from callpact.looks import looked
from callpact.piles import piles
from callpact.runs import Play

import naive
from samples import (BACK, DOWN, FILL, PLAIN, TELLS, TIMES, alone, broken_beside_many, given_of,
                     let_by_programs, let_by_with_many, pair)


def lays(many, *rows):
    """Rows that lay numbers on the pile, do others, and take them up again."""
    return (*[("push", 0)] * many, *rows, *[("pop", 0)] * many)


def program_of(*routines):
    """A program of one house, told and handed in box 0."""
    return ((PLAIN,), tuple((0, (*rows, BACK)) for rows in routines))


def calls(*routines):
    return tuple(("call", routine) for routine in routines)


class Heights(unittest.TestCase):
    def check(self, program, *told):
        self.assertEqual(piles(program), list(told))

    def test_small_ones(self):
        self.check(TELLS, 0)
        self.check(TIMES, 1, 0)
        self.check(program_of(lays(1)), 1)
        self.check(program_of(lays(8)), 8)

    def test_the_most_that_lie_there_at_once(self):
        self.check(program_of(lays(2) + lays(3) + lays(1)), 3)
        self.check(program_of(lays(1, *lays(1), *lays(2))), 3)

    def test_a_loop_lays_no_more_each_time(self):
        self.check(alone([("push", 0), ("pop", 0), ("zero", 0, 0), BACK]), 1)
        self.check(alone([("push", 0), ("pop", 0), ("go", 0)]), 1)

    def test_by_all_ways(self):
        rows = [("zero", 0, 3), ("push", 0), ("pop", 0), BACK]
        self.check(alone(rows), 1)
        # No run goes on behind the zero, and yet the way is there.
        rows = [("put", 0, 0), ("zero", 0, 6), ("push", 0), ("push", 0), ("pop", 0), ("pop", 0), BACK]
        self.check(alone(rows), 2)
        # Nor does one go where the zero leads.
        rows = [FILL, ("zero", 0, 3), BACK, ("push", 0), ("pop", 0), BACK]
        self.check(alone(rows), 1)

    def test_rows_that_are_never_met(self):
        self.check(alone([BACK, ("push", 0), ("push", 0), BACK]), 0)

    def test_those_of_called_ones(self):
        self.check(program_of(lays(2, *calls(1)), lays(3)), 5, 3)
        self.check(program_of(calls(1), lays(3)), 3, 3)
        self.check(program_of(lays(4), lays(3)), 4, 3)

    def test_the_height_at_the_call_counts(self):
        self.check(program_of(lays(2) + calls(1), lays(3)), 3, 3)
        self.check(program_of(lays(4) + calls(1), lays(3)), 4, 3)
        self.check(program_of(lays(1, *calls(1), *lays(3)), lays(2)), 4, 2)
        self.check(program_of(lays(1, *lays(1), *calls(1)), lays(2)), 3, 2)

    def test_several_calls(self):
        self.check(program_of(lays(2, *calls(1)) + lays(1, *calls(2)), lays(1), lays(4)), 5, 1, 4)
        self.check(program_of(lays(2, *calls(2)) + lays(1, *calls(1)), lays(1), lays(4)), 6, 1, 4)

    def test_one_call_at_several_heights(self):
        # The call is met with one number on the pile and with two.
        rows = [("push", 0), ("zero", 0, 3), ("go", 6), ("push", 0), ("call", 1), ("pop", 0),
                ("call", 1), ("pop", 0)]
        self.check(program_of(rows, lays(3)), 5, 3)

    def test_called_ones_of_called_ones(self):
        self.check(program_of(lays(1, *calls(1)), lays(2, *calls(2)), lays(3)), 6, 5, 3)
        self.check(program_of(lays(3), lays(2, *calls(0)), lays(1, *calls(1))), 3, 5, 6)
        self.check(program_of(lays(1, *calls(2)), lays(3), lays(2, *calls(1))), 6, 3, 5)

    def test_six_that_lay_eight(self):
        rows = [lays(8, *calls(number + 1)) for number in range(5)] + [lays(8)]
        self.check(program_of(*rows), 48, 40, 32, 24, 16, 8)
        rows = [lays(8)] + [lays(8, *calls(number)) for number in range(5)]
        self.check(program_of(*rows), 8, 16, 24, 32, 40, 48)

    def test_a_routine_that_nobody_calls(self):
        self.check(program_of((), lays(2)), 0, 2)

    def test_against_a_plainer_reading(self):
        met = {}
        for program in let_by_programs(41, 80):
            told = piles(program)
            self.assertEqual(told, naive.piles(program), program)
            for height in told:
                met[height] = met.get(height, 0) + 1
        for height in (None, 0, 1, 2, 3):
            self.assertGreater(met[height], 5)

    def test_no_run_lays_more(self):
        chance = random.Random(4)
        reached = 0
        for program in let_by_programs(42, 60):
            most = piles(program)[0]
            play = Play(program, given_of(program, chance), [])
            highest = 0
            for _ in range(500):
                if play.end == "long":
                    play.do_row()
                    highest = max(highest, len(play.pile))
            if most is not None:
                self.assertLessEqual(highest, most, program)
                reached += highest == most > 0
        self.assertGreater(reached, 10)

    def test_kinds(self):
        self.assertEqual([type(height) for height in piles(TIMES)], [int, int])
        self.assertIs(type(piles(TIMES)), list)

    def test_what_is_told_may_be_changed(self):
        piles(TIMES).clear()
        self.assertEqual(piles(TIMES), [1, 0])


class Rounds(unittest.TestCase):
    def check(self, program, *told):
        self.assertEqual(piles(program), list(told))

    def test_a_routine_that_calls_itself(self):
        self.check(DOWN, None)
        self.check(program_of(calls(0)), None)
        self.check(program_of(calls(0), lays(2)), None, 2)

    def test_not_straight(self):
        self.check(program_of(calls(1), calls(0)), None, None)
        self.check(program_of(calls(1), calls(2), calls(3), calls(0), lays(1)),
                   None, None, None, None, 1)

    def test_ones_that_call_such(self):
        self.check(program_of(calls(1), calls(1)), None, None)
        self.check(program_of(calls(1), calls(2), calls(3), calls(2)), None, None, None, None)
        self.check(program_of(lays(3), calls(1), calls(0, 1), calls(0)), 3, None, None, 3)

    def test_ones_that_such_call(self):
        self.check(program_of(calls(0, 1), lays(1, *calls(2)), lays(2)), None, 3, 2)

    def test_calls_that_are_never_met(self):
        self.check(program_of((BACK,) + calls(0)), 0)
        self.check(program_of(lays(1) + (BACK,) + calls(1), (BACK,) + calls(0)), 1, 0)
        self.check(program_of(calls(1), lays(2) + (BACK,) + calls(0)), 2, 2)
        self.check(program_of(lays(1) + (BACK,) + calls(1), calls(1)), 1, None)
        self.check(alone([("go", 2), ("call", 0), BACK]), 0)

    def test_the_height_of_a_call_that_is_never_met(self):
        self.check(program_of(lays(1) + (BACK,) + calls(1), lays(4)), 1, 4)

    def test_calls_that_are_met_by_a_way_that_no_run_goes(self):
        self.check(alone([("put", 0, 0), ("zero", 0, 3), ("call", 0), BACK]), None)
        self.check(program_of(calls(1), (("go", 0),) + calls(0)), 0, 0)

    def test_a_call_behind_one_that_does_not_go_back(self):
        # A routine is looked at by itself, so what comes behind the call is met.
        self.check(program_of(calls(1, 0), (("go", 0),)), None, 0)


class Refusals(unittest.TestCase):
    SPOILT = (0, (("say", 1), BACK))
    MANY = let_by_with_many((1, 0, 1, 1, 1, 4))[1][0]
    FINE = (0, (BACK,))

    def test_not_let(self):
        for routines in ((self.SPOILT,), (self.FINE, self.SPOILT), (self.SPOILT, self.FINE)):
            with self.assertRaises(NotLet):
                piles(((PLAIN,), routines))

    def test_a_routine_that_nobody_calls_must_be_let_by(self):
        with self.assertRaises(NotLet):
            piles(pair([BACK], [("pop", 0), BACK]))

    def test_too_many(self):
        for routines in ((self.MANY,), (self.FINE, self.MANY)):
            with self.assertRaises(TooMany):
                piles(((PLAIN,), routines))
        self.assertEqual(piles(let_by_with_many((0, 0, 1, 1, 1, 4))), [0])

    def test_as_looked_does(self):
        with self.assertRaises(NotLet):
            piles(((PLAIN,), (self.SPOILT, self.MANY)))
        with self.assertRaises(TooMany):
            piles(((PLAIN,), (self.MANY, self.SPOILT)))
        with self.assertRaises(NotLet):
            piles(broken_beside_many((1, 0, 0, 2, 2, 3), False))
        with self.assertRaises(TooMany):
            piles(broken_beside_many((0, 1, 0, 2, 2, 3), False))

    def test_a_bad_program_comes_first(self):
        with self.assertRaises(BadProgram):
            piles(((PLAIN,), (self.SPOILT, (0, (FILL,)))))
        with self.assertRaises(BadProgram):
            piles(((PLAIN,), (self.MANY, (1, (BACK,)))))

    def test_a_round_does_not_mend(self):
        program = program_of(calls(0), (("say", 3),))
        self.assertIsNotNone(looked(program))
        with self.assertRaises(NotLet):
            piles(program)


if __name__ == "__main__":
    unittest.main()
