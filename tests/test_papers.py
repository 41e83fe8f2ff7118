"""Point 7: paper and shows."""

import unittest

from callpact.errors import BadNumber, BadProgram, BadStates, NotLet, TooMany
from callpact.looks import look, paper, shows

import naive
from samples import (BACK, DOWN, FILL, KEEPER, TELLS, TIMES, alone, broken_beside_many,
                     let_by_programs, let_by_with_many, pair, spoilt_programs)

L, G = "loose", "good"
ALL_GOOD = (G,) * 6
SPOILT = alone([FILL, ("say", 1), BACK])


class Papers(unittest.TestCase):
    def test_the_states_of_a_small_routine(self):
        program = alone([("push", 1), ("zero", 0, 0), ("go", 1)], ((0,), 0, (1,)))
        self.assertEqual(look(program, 0), ([0, 1] * 8 + [0], "deep", 1))
        program = alone([("push", 1), ("zero", 0, 3), ("go", 1), ("pop", 2), BACK],
                        ((0,), 0, (1,)))
        first = (G, "1", L, L, L, L)
        self.assertEqual(paper(program, 0), [
            (0, first, ()), (1, first, ("1",)), (2, first, ("1",)), (3, first, ("1",)),
            (4, (G, "1", "1", L, L, L), ()),
        ])

    def test_states_rise(self):
        program = alone([("go", 2), BACK, ("put", 5, 1), ("zero", 0, 2), ("put", 1, 0),
                         ("zero", 0, 2), ("go", 1)])
        told = paper(program, 0)
        self.assertEqual(told, sorted(told))
        self.assertEqual(set(told), naive.all_states(program, 0))
        self.assertEqual(len(told), len(set(told)))
        self.assertEqual(len({row for row, _, _ in told}), 7)

    def test_states_of_one_row_rise(self):
        program = alone([("zero", 0, 2), ("put", 1, 0), BACK])
        self.assertEqual([state[1][1] for state in paper(program, 0) if state[0] == 2], [G, L])
        program = alone([("zero", 0, 3), ("push", 0), ("go", 4), ("push", 1), ("pop", 2), BACK],
                        ((0,), 0, (1,)))
        told = [state[2] for state in paper(program, 0) if state[0] == 4]
        self.assertEqual(told, [("1",), (G,)])

    def test_against_a_plainer_reading(self):
        for program in let_by_programs(3, 60):
            for routine in range(len(program[1])):
                met = naive.all_states(program, routine)
                self.assertEqual(paper(program, routine), sorted(met))

    def test_of_each_routine(self):
        self.assertEqual(len(paper(TIMES, 1)), 3)
        self.assertEqual(paper(TIMES, 1)[0], (0, (G, G, "2", "3", L, L), ()))

    def test_not_let(self):
        for program in (SPOILT, alone([("pop", 1), BACK])):
            with self.assertRaises(NotLet):
                paper(program, 0)

    def test_others_need_not_be_let_by(self):
        program = pair([("call", 1), BACK], [("say", 3), BACK])
        self.assertEqual(len(paper(program, 0)), 2)
        with self.assertRaises(NotLet):
            paper(program, 1)

    def test_250_states_and_one_more(self):
        self.assertEqual(len(paper(let_by_with_many((0, 0, 1, 1, 1, 4)), 0)), 250)
        with self.assertRaises(TooMany):
            paper(let_by_with_many((1, 0, 1, 1, 1, 4)), 0)

    def test_many_states_ahead_of_a_break(self):
        with self.assertRaises(NotLet):
            paper(broken_beside_many((1, 0, 0, 2, 2, 3), False), 0)
        with self.assertRaises(TooMany):
            paper(broken_beside_many((0, 1, 0, 2, 2, 3), False), 0)

    def test_other_refusals_come_first(self):
        with self.assertRaises(BadProgram):
            paper(alone([("say", 1), FILL]), 0)
        with self.assertRaises(BadNumber):
            paper(SPOILT, 1)
        with self.assertRaises(BadNumber):
            paper(let_by_with_many((1, 0, 1, 1, 1, 4)), 1)

    def test_a_paper_may_be_changed_by_whoever_got_it(self):
        told = paper(TELLS, 0)
        told.clear()
        self.assertEqual(len(paper(TELLS, 0)), 1)


class Shows(unittest.TestCase):
    def test_a_paper_shows(self):
        for program in (TELLS, TIMES, DOWN):
            for routine in range(len(program[1])):
                self.assertIs(shows(program, routine, paper(program, routine)), True)

    def test_in_any_order_and_several_times(self):
        told = paper(TIMES, 0)
        self.assertIs(shows(TIMES, 0, told[::-1]), True)
        self.assertIs(shows(TIMES, 0, told * 3 + told[:1]), True)

    def test_without_one_state_it_does_not(self):
        for program in (TIMES, DOWN):
            told = paper(program, 0)
            for at in range(len(told)):
                self.assertIs(shows(program, 0, told[:at] + told[at + 1:]), False)

    def test_an_empty_list(self):
        self.assertIs(shows(TELLS, 0, []), False)

    def test_its_first_state_must_be_in_it(self):
        self.assertIs(shows(TELLS, 0, [(0, ALL_GOOD, ())]), False)
        self.assertIs(shows(TELLS, 0, [(0, ALL_GOOD, ()), (0, (G, L, L, L, L, L), ())]), True)

    def test_more_states_than_are_met(self):
        program = alone([FILL, BACK])
        told = paper(program, 0)
        self.assertIs(shows(program, 0, told + [(1, ALL_GOOD, ())]), True)
        self.assertIs(shows(program, 0, told + [(1, (G, "3", L, "1", L, L), ())]), True)
        self.assertIs(shows(program, 0, told + [(0, ALL_GOOD, ())]), False)
        self.assertIs(shows(program, 0, told + [(0, ALL_GOOD, ()), (1, ALL_GOOD, ())]), True)

    def test_no_state_in_it_breaks(self):
        told = paper(TELLS, 0)
        for state in ((0, (L,) * 6, ()), (0, ALL_GOOD, (G,)), (0, ("0", G, G, G, G, G), ())):
            self.assertIs(shows(TELLS, 0, told + [state]), False)
            self.assertIs(shows(TELLS, 0, [state] + told), False)

    def test_a_routine_that_is_not_let_by(self):
        met = sorted(naive.all_states(SPOILT, 0))
        self.assertIs(shows(SPOILT, 0, met), False)
        self.assertIs(shows(SPOILT, 0, met[:1]), False)

    def test_spoilt_routines(self):
        unlike = 0
        for program in spoilt_programs(11, 80):
            for routine in range(len(program[1])):
                met = naive.all_states(program, routine)
                told, _ = naive.look(program, routine)
                unlike += told is not None
                self.assertIs(shows(program, routine, sorted(met)), told is None)
        self.assertGreater(unlike, 20)

    def test_loose_and_deep_piles(self):
        program = alone([("go", 1), ("pop", 1), ("go", 0)])
        first = (0, (G, L, L, L, L, L), ())
        self.assertIs(shows(program, 0, [first, (1, first[1], (L,) * 8)]), False)
        program = alone([("go", 0), BACK, ("go", 0)])
        self.assertIs(shows(program, 0, [first, (2, ALL_GOOD, (L, "5"))]), False)
        self.assertIs(
            shows(program, 0, [first, (2, ALL_GOOD, (L, "5")), (0, ALL_GOOD, (L, "5"))]), True
        )

    def test_a_full_pile_is_deep(self):
        program = alone([("go", 0), ("push", 0), ("go", 0)])
        states = paper(program, 0)
        for many in range(7):
            lies = (G,) * many
            states += [(1, ALL_GOOD, lies), (2, ALL_GOOD, lies + (G,)), (0, ALL_GOOD, lies)]
        self.assertIs(shows(program, 0, states + [(0, ALL_GOOD, (G,) * 7)]), True)
        states += [(1, ALL_GOOD, (G,) * 7), (0, ALL_GOOD, (G,) * 7), (0, ALL_GOOD, (G,) * 8)]
        self.assertIs(shows(program, 0, states + [(2, ALL_GOOD, (G,) * 8)]), True)
        states += [(2, ALL_GOOD, (G,) * 8), (1, ALL_GOOD, (G,) * 8)]
        self.assertIs(shows(program, 0, states), False)

    def test_more_than_250_states(self):
        program = let_by_with_many((1, 0, 1, 1, 1, 4))
        met = sorted(naive.all_states(program, 0))
        self.assertIs(shows(program, 0, met), True)
        self.assertIs(shows(program, 0, met[:-1]), False)
        more = [(len(program[1][0][1]) - 1, (G, mark, box, L, L, L), ())
                for mark in ("1", "2", "3", "4", "5") for box in ("1", "2", "3", "4", "5")]
        self.assertIs(shows(program, 0, met + more), True)

    def test_other_refusals_come_first(self):
        with self.assertRaises(BadProgram):
            shows(alone([FILL]), 0, ["none"])
        with self.assertRaises(BadNumber):
            shows(TELLS, 1, ["none"])

    def test_states_stay_as_they_were(self):
        told = paper(TIMES, 0) * 2
        before = list(told)
        shows(TIMES, 0, told)
        self.assertEqual(told, before)


class States(unittest.TestCase):
    def check(self, *others):
        fine = (0, ALL_GOOD, ())
        for other in others:
            for states in ([other], [fine, other], [other, fine], [fine, fine, other, other]):
                with self.subTest(other=other), self.assertRaises(BadStates):
                    shows(alone([BACK, FILL, BACK]), 0, states)

    def test_no_three(self):
        self.check("state", 3, (), (0, ALL_GOOD), (0, ALL_GOOD, (), ()), "abc")

    def test_rows(self):
        self.check((3, ALL_GOOD, ()), (-1, ALL_GOOD, ()), ("0", ALL_GOOD, ()), ((), ALL_GOOD, ()))

    def test_the_last_row_is_one(self):
        self.assertIs(shows(alone([BACK, FILL, BACK]), 0, [(2, ALL_GOOD, ())]), False)

    def test_boxes(self):
        self.check((0, (G,) * 5, ()), (0, (G,) * 7, ()), (0, (), ()), (0, 3, ()),
                   (0, "012345", ()), (0, "good", ()))

    def test_marks_of_boxes(self):
        for mark in ("6", "-1", "", "Good", "kept", "00", 0, 5, (G,), ()):
            self.check((0, (mark,) + (G,) * 5, ()), (0, (G,) * 5 + (mark,), ()))

    def test_piles(self):
        self.check((0, ALL_GOOD, (G,) * 9), (0, ALL_GOOD, 0), (0, ALL_GOOD, "01"),
                   (0, ALL_GOOD, ""))
        self.assertIs(shows(TELLS, 0, [(0, ALL_GOOD, (G, L, "0", "1", "2", "3", "4", "5"))]),
                      False)

    def test_marks_of_piles(self):
        for mark in ("6", "", "Good", 0, (G,), ()):
            self.check((0, ALL_GOOD, (mark,)), (0, ALL_GOOD, (G,) * 7 + (mark,)))

    def test_each_mark_is_one(self):
        for mark in (G, L, "0", "1", "2", "3", "4", "5"):
            states = paper(TELLS, 0) + [(0, (G,) + (mark,) * 5, ())]
            self.assertIs(shows(TELLS, 0, states), True)


class Kinds(unittest.TestCase):
    def test_paper_of_states(self):
        told = paper(pair([("call", 1), BACK], [BACK], KEEPER, ((0,), 0, (2, 3))), 0)
        self.assertIs(type(told), list)
        for row, boxes, pile in told:
            self.assertEqual((type(row), type(boxes), type(pile)), (int, tuple, tuple))
            self.assertEqual(len(boxes), 6)


if __name__ == "__main__":
    unittest.main()
