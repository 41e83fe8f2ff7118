"""Point 15: written and read."""

import unittest

from callpact.errors import BadProgram, BadText
from callpact.looks import looked
from callpact.notes import read, written

from samples import (BACK, DOWN, FILL, PLAIN, TELLS, TIMES, alone, let_by_programs, pair,
                     random_programs)

TIMES_TEXT = """\
house 01 0 -
house 01 0 23
routine 0
move 2 0
put 0 0
zero 1 9
push 1
move 1 2
call 1
pop 1
put 4 1
go 10
back
take 1 1 4
go 2
routine 1
add 0 0 1
say 0
back"""

ALL_WORDS = """\
house - 5 01234
routine 0
put 5 999
put 0 10
move 1 2
add 3 4 5
take 0 1 2
push 3
pop 4
say 5
zero 0 10
go 31
call 0
back"""


class Written(unittest.TestCase):
    def test_a_program(self):
        self.assertEqual(written(TIMES), TIMES_TEXT)

    def test_houses(self):
        for house, line in ((((), 0, ()), "house - 0 -"), (((0,), 5, ()), "house 0 5 -"),
                            (((), 3, (0, 2, 4)), "house - 3 024"),
                            (((0, 1, 2, 3, 4, 5), 5, ()), "house 012345 5 -"),
                            (((1, 4), 1, (0, 5)), "house 14 1 05")):
            program = ((PLAIN, house), ((1, (BACK,)),))
            self.assertEqual(written(program), f"house 0 0 -\n{line}\nroutine 1\nback")
            self.assertEqual(read(written(program)), program)

    def test_numbers(self):
        for number in (0, 7, 10, 99, 100, 999):
            program = alone([("put", 5, number), BACK])
            self.assertEqual(written(program), f"house 0 0 -\nroutine 0\nput 5 {number}\nback")
            self.assertEqual(read(written(program)), program)

    def test_a_bad_program(self):
        for program, values in ((((), ()), ("houses", 0, -1)),
                                (alone([FILL]), ("end", 0, -1)),
                                (alone([FILL, ("put", 0, 1000), BACK]), ("row", 0, 1))):
            with self.assertRaises(BadProgram) as caught:
                written(program)
            fault = caught.exception
            self.assertEqual((fault.word, fault.number, fault.row), values)

    def test_what_is_not_let_by_is_written(self):
        program = alone([("say", 3), ("pop", 2), BACK])
        self.assertEqual(written(program), "house 0 0 -\nroutine 0\nsay 3\npop 2\nback")


class Read(unittest.TestCase):
    def test_a_program(self):
        self.assertEqual(read(TIMES_TEXT), TIMES)

    def test_what_is_written_is_read_to_the_same(self):
        programs = [TELLS, TIMES, DOWN] + random_programs(61, 300, 32) + let_by_programs(62, 20)
        for program in programs:
            self.assertEqual(read(written(program)), program)

    def test_what_is_read_is_written_to_the_same(self):
        for text in (TIMES_TEXT, "house 0 0 -\nroutine 0\nback"):
            self.assertEqual(written(read(text)), text)

    def test_every_word(self):
        text = ALL_WORDS + "\nback" * 20
        program = read(text)
        self.assertEqual(program[0], (((), 5, (0, 1, 2, 3, 4)),))
        self.assertEqual(program[1][0][1][:12], (
            ("put", 5, 999), ("put", 0, 10), ("move", 1, 2), ("add", 3, 4, 5), ("take", 0, 1, 2),
            ("push", 3), ("pop", 4), ("say", 5), ("zero", 0, 10), ("go", 31), ("call", 0),
            ("back",)))
        self.assertEqual(written(program), text)

    def test_a_long_one(self):
        rows = (("zero", 5, 31),) * 31 + (BACK,)
        program = ((((0, 1, 2, 3, 4, 5), 0, ()),) * 3, ((2, rows),) * 6)
        self.assertGreater(len(written(program)), 1800)
        self.assertEqual(read(written(program)), program)

    def test_kinds(self):
        houses, routines = read(TIMES_TEXT)
        self.assertEqual((type(houses), type(routines)), (tuple, tuple))
        self.assertEqual([type(part) for part in houses[0]], [tuple, int, tuple])
        self.assertEqual([type(part) for part in routines[0]], [int, tuple])
        self.assertEqual([type(part) for part in routines[0][1][0]], [str, int, int])


class RefusedTexts(unittest.TestCase):
    def check(self, text, line):
        with self.subTest(text):
            with self.assertRaises(BadText) as caught:
                read(text)
            self.assertEqual(caught.exception.line, line)

    def check_house(self, line):
        """A line that is none where a house could stand."""
        self.check(f"{line}\nroutine 0\nback", 0)
        self.check(f"house - 0 -\n{line}", 1)

    def check_row(self, line):
        """A line that is none where a row or a routine could stand."""
        self.check(f"house - 0 -\nroutine 0\n{line}\nback", 2)
        self.check(f"house - 0 -\nroutine 0\nback\n{line}", 3)

    def test_the_empty_text(self):
        self.check("", 0)
        self.check("\n", 0)
        self.check(" ", 0)

    def test_empty_lines(self):
        self.check_house("")
        self.check_row("")
        self.check(TIMES_TEXT + "\n", 19)
        self.check("\n" + TIMES_TEXT, 0)

    def test_blanks(self):
        for line in ("house - 0 - ", " house - 0 -", "house  - 0 -", "house -  0 -",
                     "house - 0  -", "house  0 -", "house - 0 ", "house 0  "):
            self.check_house(line)
        for line in ("back ", " back", "put 0 1 ", " put 0 1", "put  0 1", "put 0  1", "go  ",
                     "go ", "put 0 ", "routine 0 ", " routine 0", "routine  0", "routine "):
            self.check_row(line)

    def test_words(self):
        for line in ("house", "House - 0 -", "houses - 0 -", "HOUSE - 0 -", "- 0 -", "home - 0 -"):
            self.check_house(line)
        for line in ("none", "Back", "BACK", "backs", "jump 0", "0", "-", "routines 0", "Routine 0",
                     "put,0,1", "go\t0", "# back"):
            self.check_row(line)

    def test_counts_of_words(self):
        for line in ("house - 0", "house - 0 - -", "house 0 1 2 3", "house -"):
            self.check_house(line)
        for line in ("routine", "routine 0 0", "put 0", "put 0 0 0", "put", "move 0", "move 0 0 0",
                     "add 0 0", "add 0 0 0 0", "take 0 0", "take 0 0 0 0", "push", "push 0 0",
                     "pop", "pop 0 0", "say", "say 0 0", "zero 0", "zero 0 0 0", "go", "go 0 0",
                     "call", "call 0 0", "back 0"):
            self.check_row(line)

    def test_numbers(self):
        for number in ("00", "07", "000", "012", "1000", "0000", "9999", "-1", "-", "+1", "1.0",
                       "x", "1x", "0x1", "1_0", "''"):
            for line in ("routine {}", "put {} 0", "put 0 {}", "move {} 0", "add 0 0 {}", "push {}",
                         "zero 0 {}", "zero {} 0", "go {}", "call {}"):
                self.check_row(line.format(number))

    def test_out_of_a_house(self):
        for out in ("-", "00", "07", "1000", "-1", "x", "0-"):
            self.check_house(f"house - {out} -")

    def test_boxes_of_a_house(self):
        for boxes in ("--", "0-", "-0", "x", "01x", "0,1", "+1", "0.1"):
            self.check_house(f"house {boxes} 0 -")
            self.check_house(f"house - 0 {boxes}")

    def test_other_signs_than_figures(self):
        self.check_row("go \u0661")
        self.check_row("go \u00b2")
        self.check_house("house \u0661 0 -")

    def test_a_house_behind_a_routine(self):
        self.check("house - 0 -\nroutine 0\nback\nhouse - 0 -", 3)
        self.check("house - 0 -\nroutine 0\nhouse - 0 -\nback", 2)
        self.check("routine 0\nhouse - 0 -\nback", 1)

    def test_a_row_ahead_of_all_routines(self):
        self.check("house - 0 -\nback\nroutine 0\nback", 1)
        self.check("back", 0)
        self.check("put 0 1\nhouse - 0 -\nroutine 0\nback", 0)

    def test_the_first_line_is_told(self):
        self.check("house - 0 -\nroutine 0\nnone\nback\nnone", 2)
        self.check("house - 0 -\nroutine 0\nback\nhouse - 0 -\nnone", 3)
        self.check("house - 0 -\nback\nnone", 1)

    def test_ahead_of_a_bad_program(self):
        self.check("house 9 9 9\nroutine 9\nput 9 9\nnone", 3)
        self.check("house - 0 -\n" * 4 + "none", 4)
        self.check("routine 0\nhouse - 0 -", 1)


class RefusedPrograms(unittest.TestCase):
    def check(self, text, *values):
        with self.subTest(text):
            with self.assertRaises(BadProgram) as caught:
                read(text)
            fault = caught.exception
            self.assertEqual((fault.word, fault.number, fault.row), values)

    def check_house(self, line):
        self.check(f"{line}\nroutine 0\nback", "house", 0, -1)
        self.check(f"house - 0 -\n{line}\nroutine 0\nback", "house", 1, -1)

    def test_count_of_houses(self):
        self.check("routine 0\nback", "houses", 0, -1)
        self.check("house - 0 -\n" * 4 + "routine 0\nback", "houses", 0, -1)
        self.assertEqual(len(read("house - 0 -\n" * 3 + "routine 0\nback")[0]), 3)

    def test_boxes_of_a_house_are_any_figures(self):
        for line in ("house 6 0 -", "house - 6 -", "house - 9 -", "house - 0 9", "house 00 0 -",
                     "house 10 0 -", "house - 0 21", "house - 0 11", "house 0123456789 0 -",
                     "house - 0 0000000", "house 1 0 1", "house - 2 2", "house 77777 8 99"):
            self.check_house(line)

    def test_a_number_that_is_no_box(self):
        for line in ("house - 10 -", "house - 999 -"):
            self.check_house(line)

    def test_count_of_routines(self):
        self.check("house - 0 -", "routines", 0, -1)
        self.check("house - 0 -" + "\nroutine 0\nback" * 7, "routines", 0, -1)
        self.assertEqual(len(read("house - 0 -" + "\nroutine 0\nback" * 6)[1]), 6)

    def test_routines(self):
        self.check("house - 0 -\nroutine 1\nback", "routine", 0, -1)
        self.check("house - 0 -\nroutine 0\nback\nroutine 999\nback", "routine", 1, -1)
        self.check("house - 0 -\nroutine 0", "routine", 0, -1)
        self.check("house - 0 -\nroutine 0\nroutine 0\nback", "routine", 0, -1)
        self.check("house - 0 -\nroutine 0\nback\nroutine 0", "routine", 1, -1)
        self.check("house - 0 -\nroutine 0" + "\nback" * 33, "routine", 0, -1)
        self.assertEqual(len(read("house - 0 -\nroutine 0" + "\nback" * 32)[1][0][1]), 32)

    def test_rows(self):
        for line in ("put 6 0", "put 10 0", "move 0 6", "add 0 0 999", "push 6", "zero 0 2",
                     "go 2", "go 999", "call 1"):
            self.check(f"house - 0 -\nroutine 0\n{line}\nback", "row", 0, 0)

    def test_last_rows(self):
        self.check("house - 0 -\nroutine 0\nback\nroutine 0\nput 0 1", "end", 1, -1)

    def test_the_first_is_told(self):
        self.check("house 9 0 -\nroutine 9\nput 9 9", "house", 0, -1)
        self.check("house - 0 -\nroutine 0\nput 9 9\nroutine 9", "row", 0, 0)

    def test_as_of_the_program_itself(self):
        programs = (
            alone([("put", 7, 1), BACK]), alone([FILL]), alone([("go", 9)]),
            ((((9,), 0, ()),), ((0, (BACK,)),)), ((PLAIN,) * 4, ()),
            pair([("call", 2), BACK], [BACK]), pair([BACK], [("zero", 0, 1), ("zero", 0, 2)]),
        )
        for houses, routines in programs:
            lines = [
                "house " + " ".join("".join(map(str, boxes)) or "-" for boxes in (ins, [out], kept))
                for ins, out, kept in houses
            ]
            for house, rows in routines:
                lines += [f"routine {house}"] + [" ".join(map(str, row)) for row in rows]
            with self.assertRaises(BadProgram) as caught:
                looked((houses, routines))
            fault = caught.exception
            self.check("\n".join(lines), fault.word, fault.number, fault.row)


if __name__ == "__main__":
    unittest.main()
