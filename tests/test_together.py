"""Point 11, and point 1: what holds of all parts together."""

import copy
import random
import unittest

from callpact.looks import look, looked, paper, shows
from callpact.notes import read, written
from callpact.piles import piles
from callpact.runs import noisy, run, watched
from callpact.saves import fewest, put_in

from samples import (BACK, DOWN, TELLS, TIMES, alone, given_of, let_by_programs, pair,
                     random_programs, spoilt_programs)


class LetBy(unittest.TestCase):
    @classmethod
    def setUpClass(cls):
        cls.programs = [TELLS, TIMES, DOWN] + let_by_programs(2, 200)

    def test_runs_of_what_is_let_by(self):
        chance = random.Random(5)
        ends = []
        for program in self.programs:
            for _ in range(4):
                given = given_of(program, chance)
                fuel = chance.choice([1000, 1000, chance.randrange(60)])
                noise = [chance.randrange(1000) for _ in range(chance.randint(1, 8))]
                told = run(program, given, fuel)
                ends.append(told[1])
                self.assertNotEqual(told[1], "pile", program)
                self.assertEqual(watched(program, given, fuel), [], program)
                self.assertEqual(noisy(program, given, fuel, noise), told, program)
        self.assertGreater(ends.count("back"), 300)
        self.assertGreater(ends.count("long"), 50)

    def test_a_look_hangs_on_own_rows_and_on_houses(self):
        for houses, routines in self.programs[3:60] + random_programs(8, 200):
            for number in range(len(routines)):
                others = tuple(
                    routine if at == number else (routine[0], (("say", 3), BACK))
                    for at, routine in enumerate(routines)
                )
                self.assertEqual(
                    look((houses, others), number), look((houses, routines), number)
                )

    def test_what_is_not_let_by_may_be_seen(self):
        chance = random.Random(9)
        seen = 0
        for program in spoilt_programs(12, 150):
            given = given_of(program, chance)
            breaks = watched(program, given, 1000)
            if breaks or run(program, given, 1000)[1] == "pile":
                seen += 1
                self.assertIsNotNone(looked(program), program)
        self.assertGreater(seen, 5)


class Again(unittest.TestCase):
    def test_asked_again_the_same_is_told(self):
        program = pair([("call", 1), ("push", 0), BACK], [("put", 2, 1), BACK], ((0,), 0, (2,)),
                       ((0,), 0, (2,)))
        given, noise, states, saves = [4], [1, 2], paper(TIMES, 0), [(-1, 2), (0, 3)]
        before = copy.deepcopy((program, given, noise, states, saves))
        asked = (
            lambda: look(program, 0),
            lambda: looked(program),
            lambda: paper(TIMES, 0),
            lambda: shows(TIMES, 0, states),
            lambda: run(program, given, 99),
            lambda: watched(program, given, 99),
            lambda: noisy(program, given, 99, noise),
            lambda: put_in(program, 0, saves),
            lambda: fewest(TIMES, 0),
            lambda: fewest(program, 1),
            lambda: piles(TIMES),
            lambda: written(program),
            lambda: read(written(program)),
        )
        first = [copy.deepcopy(ask()) for ask in asked]
        for told in [ask() for ask in asked]:
            if isinstance(told, list):
                told.clear()
        self.assertEqual([ask() for ask in asked], first)
        self.assertEqual((program, given, noise, states, saves), before)

    def test_what_is_told_does_not_hang_on_what_was_handed_in(self):
        saves = [(0, 3)]
        told = put_in(TIMES, 1, [])
        saved = put_in(pair([("call", 1), BACK], [BACK]), 0, saves)
        saves.clear()
        self.assertEqual(told, TIMES)
        self.assertEqual(len(saved[1][0][1]), 4)

    def test_the_functions_are_defined_in_their_files(self):
        for function in (look, looked, paper, shows):
            self.assertEqual(function.__module__, "callpact.looks")
        for function in (run, noisy, watched):
            self.assertEqual(function.__module__, "callpact.runs")
        for function in (put_in, fewest):
            self.assertEqual(function.__module__, "callpact.saves")
        self.assertEqual(piles.__module__, "callpact.piles")
        for function in (written, read):
            self.assertEqual(function.__module__, "callpact.notes")

    def test_what_breaks_is_seen_by_looks_and_runs(self):
        program = alone([("put", 2, 1), BACK], ((0,), 0, (2,)))
        self.assertEqual(looked(program), (0, [0, 1], "kept", 2))
        self.assertEqual(watched(program, [0], 9), [(-1, -1, "kept", 2)])


if __name__ == "__main__":
    unittest.main()
