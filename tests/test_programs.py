"""Points 2 and 3: what a program is, and how what is none is refused."""

import unittest

from callpact.errors import BadNumber, BadProgram
from callpact.looks import look, looked, paper, shows
from callpact.notes import read, written
from callpact.piles import piles
from callpact.runs import noisy, run, watched
from callpact.saves import fewest, put_in

from samples import BACK, FILL, PLAIN, alone, pair

# Each with other arguments that are refused, too, but behind the program.
CALLS = (
    ("look", lambda program: look(program, 9)),
    ("looked", looked),
    ("paper", lambda program: paper(program, 9)),
    ("shows", lambda program: shows(program, 9, ["none"])),
    ("run", lambda program: run(program, [1000], 1001)),
    ("noisy", lambda program: noisy(program, [1000], 1001, [])),
    ("watched", lambda program: watched(program, [1000], 1001)),
    ("put_in", lambda program: put_in(program, 9, [(9, 9, 9)])),
    ("fewest", lambda program: fewest(program, 9)),
    ("piles", piles),
    ("written", written),
)

HOUSES = (PLAIN,)
GOOD = (0, (BACK,))


def refusal(call, program):
    """The values of the refusal, or None."""
    try:
        call(program)
    except BadProgram as fault:
        return (fault.word, fault.number, fault.row)
    return None


class Refused(unittest.TestCase):
    def check(self, program, *values):
        for name, call in CALLS:
            with self.subTest(name, program=program):
                self.assertEqual(refusal(call, program), values)

    def check_house(self, house):
        self.check(((house,), (GOOD,)), "house", 0, -1)
        self.check(((PLAIN, PLAIN, house), (GOOD,)), "house", 2, -1)

    def check_row(self, row):
        self.check(alone([row, BACK]), "row", 0, 0)
        self.check((HOUSES, (GOOD, (0, (FILL, row, BACK)))), "row", 1, 1)

    def test_no_pair(self):
        for program in ((), ("houses",), (HOUSES, (GOOD,), ()), (1, 2, 3)):
            self.check(program, "houses", 0, -1)

    def test_count_of_houses(self):
        for houses in ((), (PLAIN,) * 4, 1, "house"):
            self.check((houses, (GOOD,)), "houses", 0, -1)

    def test_a_house_is_three(self):
        for house in ((), ((0,), 0), ((0,), 0, (), ()), 0, "abc", "house"):
            self.check_house(house)

    def test_boxes_of_a_house(self):
        for house in (((6,), 0, ()), ((-1,), 0, ()), ((), 6, ()), ((), -1, ()), ((), 0, (6,)),
                      ((), 0, (-1,)), (("0",), 0, ()), ((), "0", ()), ((), (0,), ()),
                      ((), 0, ("1",)), (0, 0, ()), ((), 0, 1), ("", 0, ()), ((), 0, "")):
            self.check_house(house)

    def test_boxes_of_a_house_rise(self):
        for house in (((1, 0), 0, ()), ((0, 0), 0, ()), ((0, 2, 1), 0, ()), ((), 0, (2, 1)),
                      ((), 0, (1, 1)), ((), 0, (1, 3, 2))):
            self.check_house(house)

    def test_kept_boxes_are_neither_handed_in_nor_told(self):
        for house in (((1,), 0, (1,)), ((), 1, (1,)), ((0, 3), 0, (1, 2, 3)), ((0,), 5, (4, 5))):
            self.check_house(house)

    def test_count_of_routines(self):
        for routines in ((), (GOOD,) * 7, 1, "back"):
            self.check((HOUSES, routines), "routines", 0, -1)

    def test_a_routine_is_two(self):
        for routine in ((), (0,), (0, (BACK,), 0), 0, "ab", "back"):
            self.check((HOUSES, (GOOD, routine)), "routine", 1, -1)

    def test_house_of_a_routine(self):
        for house in (1, -1, "0", (0,), ()):
            self.check((HOUSES, (GOOD, GOOD, (house, (BACK,)))), "routine", 2, -1)
        self.check(((PLAIN, PLAIN), ((2, (BACK,)),)), "routine", 0, -1)

    def test_count_of_rows(self):
        for rows in ((), (BACK,) * 33, 1, "back"):
            self.check((HOUSES, ((0, rows),)), "routine", 0, -1)

    def test_words_of_rows(self):
        for row in ((), "back", 3, ("none",), (0,), (BACK,), ("",), ("Back",), (("put",), 0, 0)):
            self.check_row(row)

    def test_counts_in_rows(self):
        for row in (("put", 0), ("put", 0, 0, 0), ("move", 0), ("move", 0, 0, 0), ("add", 0, 0),
                    ("add", 0, 0, 0, 0), ("take", 0, 0), ("take", 0, 0, 0, 0), ("push",),
                    ("push", 0, 0), ("pop",), ("pop", 0, 0), ("say",), ("say", 0, 0),
                    ("zero", 0), ("zero", 0, 0, 0), ("go",), ("go", 0, 0), ("call",),
                    ("call", 0, 0), ("back", 0)):
            self.check_row(row)

    def test_boxes_in_rows(self):
        for box in (6, -1, "0", (0,), ()):
            for row in (("put", box, 0), ("move", box, 0), ("move", 0, box), ("add", box, 0, 0),
                        ("add", 0, box, 0), ("add", 0, 0, box), ("take", box, 0, 0),
                        ("take", 0, box, 0), ("take", 0, 0, box), ("push", box), ("pop", box),
                        ("say", box), ("zero", box, 0)):
                self.check_row(row)

    def test_numbers_in_rows(self):
        for number in (1000, -1, "1", (1,), ()):
            self.check_row(("put", 0, number))

    def test_rows_in_rows(self):
        for row in (3, -1, "0", (0,)):
            self.check(alone([FILL, ("go", row), BACK]), "row", 0, 1)
            self.check(alone([FILL, ("zero", 0, row), BACK]), "row", 0, 1)
            self.check(alone([FILL, FILL, ("go", row)]), "row", 0, 2)

    def test_routines_in_rows(self):
        for routine in (2, -1, "0", (0,)):
            self.check(pair([("call", routine), BACK], [BACK]), "row", 0, 0)

    def test_true_is_no_number(self):
        self.check_row(("put", 0, True))
        self.check_house(((False,), 0, ()))

    def test_last_row(self):
        for row in (FILL, ("zero", 0, 0), ("call", 0), ("pop", 0), ("say", 0)):
            self.check((HOUSES, (GOOD, (0, (BACK, row)))), "end", 1, -1)

    def test_the_first_is_told(self):
        bad_house, bad_row = ((0, 0), 0, ()), ("none",)
        self.check(((), ()), "houses", 0, -1)
        self.check(((bad_house,), ()), "house", 0, -1)
        self.check(((PLAIN, bad_house, bad_house), ((9, ()),)), "house", 1, -1)
        self.check((HOUSES, ((0, (bad_row,)), (9, ()))), "row", 0, 0)
        self.check((HOUSES, ((9, (bad_row,)), (0, ()))), "routine", 0, -1)
        self.check((HOUSES, ((0, (FILL,)), (0, ()))), "end", 0, -1)
        self.check((HOUSES, ((0, (FILL,)), (0, (bad_row, BACK)))), "end", 0, -1)
        self.check((HOUSES, ((0, (FILL, bad_row, bad_row)),)), "row", 0, 1)
        self.check((HOUSES, ((0, (BACK, bad_row)), (0, (FILL,)))), "row", 0, 1)


class Taken(unittest.TestCase):
    def check(self, program):
        given = [0] * len(program[0][program[1][0][0]][0])
        looked(program)
        run(program, given, 5)
        self.assertEqual(watched(program, given, 0), [])
        self.assertEqual(put_in(program, 0, []), program)
        self.assertEqual(read(written(program)), program)

    def test_three_houses_and_six_routines(self):
        self.check(((PLAIN,) * 3, (GOOD, (2, (("call", 5), BACK)), (1, (BACK,))) + (GOOD,) * 3))

    def test_rows_up_to_32(self):
        self.check(alone([BACK] * 32))
        self.check(alone([("go", 31)] + [BACK] * 31))
        self.check(alone([("zero", 0, 31)] + [FILL] * 30 + [("go", 0)]))

    def test_boxes_of_houses(self):
        for house in (((), 0, ()), ((), 5, (0, 1, 2, 3, 4)), ((0, 1, 2, 3, 4, 5), 3, ()),
                      ((0, 2), 2, (1, 3, 4, 5)), ((1, 3), 0, (2, 4))):
            self.check(alone([BACK], house))

    def test_every_word(self):
        self.check(alone([
            ("put", 5, 999), ("put", 0, 0), ("move", 0, 5), ("add", 5, 0, 5), ("take", 0, 5, 0),
            ("push", 5), ("pop", 5), ("say", 5), ("zero", 5, 0), ("call", 0), BACK, ("go", 0),
        ]))


class Numbers(unittest.TestCase):
    def test_a_routine_that_there_is_not(self):
        program = pair([BACK], [BACK])
        for routine in (2, 6, -1, -2, 1000):
            for call in (look, paper, fewest):
                with self.assertRaises(BadNumber):
                    call(program, routine)
            for call in (shows, put_in):
                with self.assertRaises(BadNumber):
                    call(program, routine, [])

    def test_the_last_there_is(self):
        program = pair([BACK], [BACK])
        self.assertIsNone(look(program, 1))
        self.assertEqual(len(paper(program, 1)), 1)
        self.assertFalse(shows(program, 1, []))
        self.assertEqual(put_in(program, 1, []), program)
        self.assertEqual(fewest(program, 1), [])

    def test_a_bad_program_comes_first(self):
        with self.assertRaises(BadProgram):
            look(pair([BACK], [FILL]), 2)

    def test_the_number_comes_ahead_of_what_stands_behind_it(self):
        with self.assertRaises(BadNumber):
            shows(pair([BACK], [BACK]), 2, ["none"])
        with self.assertRaises(BadNumber):
            put_in(pair([BACK], [BACK]), 2, [(9, 9)])
        with self.assertRaises(BadNumber):
            fewest(alone([("call", 0)] * 3 + [BACK]), 1)
        with self.assertRaises(BadNumber):
            paper(alone([("say", 1), BACK]), 1)


if __name__ == "__main__":
    unittest.main()
