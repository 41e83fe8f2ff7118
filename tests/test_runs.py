"""Points 8 to 10: run, watched and noisy."""

import unittest

from callpact.errors import BadFuel, BadGiven, BadNoise, BadProgram
from callpact.runs import noisy, run, watched

from samples import BACK, DOWN, FILL, PLAIN, TELLS, TIMES, alone, pair

NOTHING = ((), 0, ())


def says(*rows):
    """What rows say that are handed nothing."""
    return run(alone(list(rows) + [BACK], NOTHING), [], 1000)


class Rows(unittest.TestCase):
    def test_put_and_say(self):
        self.assertEqual(says(("put", 3, 999), ("say", 3), ("say", 2)), ([999, 0], "back", 0))

    def test_move(self):
        self.assertEqual(
            says(("put", 1, 7), ("put", 2, 8), ("move", 1, 2), ("say", 1), ("say", 2))[0], [8, 8]
        )

    def test_add(self):
        self.assertEqual(says(("put", 1, 7), ("put", 2, 8), ("add", 0, 1, 2)), ([], "back", 15))
        self.assertEqual(says(("put", 1, 999), ("put", 2, 1), ("add", 0, 1, 2))[2], 0)
        self.assertEqual(says(("put", 1, 999), ("add", 0, 1, 1))[2], 998)
        self.assertEqual(says(("put", 1, 998), ("put", 2, 1), ("add", 0, 1, 2))[2], 999)

    def test_take(self):
        self.assertEqual(says(("put", 1, 7), ("put", 2, 5), ("take", 0, 1, 2))[2], 2)
        self.assertEqual(says(("put", 1, 5), ("put", 2, 7), ("take", 0, 1, 2))[2], 998)
        self.assertEqual(says(("put", 2, 999), ("take", 0, 1, 2))[2], 1)
        self.assertEqual(says(("put", 2, 9), ("take", 0, 2, 2))[2], 0)

    def test_push_and_pop(self):
        self.assertEqual(
            says(("put", 1, 7), ("push", 1), ("put", 1, 8), ("push", 1), ("pop", 2), ("pop", 3),
                 ("say", 2), ("say", 3), ("say", 1)),
            ([8, 7, 8], "back", 0),
        )

    def test_zero(self):
        self.assertEqual(says(("zero", 1, 2), ("say", 0), ("put", 0, 5))[0], [])
        self.assertEqual(says(("put", 1, 1), ("zero", 1, 3), ("say", 0), ("put", 0, 5))[0], [0])

    def test_go(self):
        self.assertEqual(says(("go", 2), ("say", 0), ("put", 0, 5)), ([], "back", 5))

    def test_more_than_eight_on_the_pile(self):
        rows = [("put", 0, 4)] + [("push", 0)] * 12 + [("pop", 1)] * 12 + [("say", 1)]
        self.assertEqual(says(*rows), ([4], "back", 4))


class Calls(unittest.TestCase):
    def test_times(self):
        self.assertEqual(run(TIMES, [3, 4], 1000), ([3, 6, 9, 12], "back", 12))
        self.assertEqual(run(TIMES, [300, 4], 1000), ([300, 600, 900, 200], "back", 200))
        self.assertEqual(run(TIMES, [5, 0], 1000), ([], "back", 0))

    def test_a_routine_that_calls_itself(self):
        self.assertEqual(run(DOWN, [4], 1000), ([1, 2, 3, 4], "back", 7))
        self.assertEqual(run(DOWN, [0], 1000), ([], "back", 3))

    def test_given_lies_in_the_boxes_handed_in_rising(self):
        program = alone([("say", 1), ("say", 3), ("say", 4), ("say", 0), BACK], ((1, 3, 4), 0, ()))
        self.assertEqual(run(program, [7, 8, 9], 9), ([7, 8, 9, 0], "back", 0))

    def test_all_other_boxes_hold_0(self):
        program = alone([("say", box) for box in range(6)] + [BACK], ((2,), 5, (1,)))
        self.assertEqual(run(program, [9], 9), ([0, 0, 9, 0, 0, 0], "back", 0))

    def test_the_boxes_are_the_same_for_all(self):
        program = pair([("put", 4, 9), ("call", 1), ("say", 5), BACK],
                       [("say", 4), ("put", 5, 6), ("put", 4, 1), BACK], ((), 4, ()), NOTHING)
        self.assertEqual(run(program, [], 99), ([9, 6], "back", 1))

    def test_a_called_one_s_zero_and_go_stay_in_its_rows(self):
        program = pair([("call", 1), ("say", 0), BACK], [("zero", 0, 3), FILL, BACK, ("go", 1)])
        self.assertEqual(run(program, [0], 99), ([1], "back", 1))

    def test_a_pop_takes_whatever_lies_uppermost(self):
        rows = [("put", 1, 5), ("push", 1), ("call", 1), ("pop", 2), ("say", 2), BACK]
        called = [("pop", 3), ("say", 3), ("put", 3, 8), ("push", 3), BACK]
        self.assertEqual(run(pair(rows, called), [0], 99), ([5, 8], "back", 0))

    def test_a_called_one_need_not_leave_the_pile(self):
        rows = [("push", 0), ("call", 1), ("pop", 2), BACK]
        self.assertEqual(run(pair(rows, [("pop", 1), BACK]), [4], 99), ([], "pile", None))
        self.assertEqual(run(pair(rows, [("push", 1), BACK]), [4], 99), ([], "back", 4))

    def test_routines_that_call_others(self):
        routines = (
            (0, (("say", 0), ("call", 1), ("say", 0), BACK)),
            (0, (("call", 2), FILL, ("add", 0, 0, 0), ("call", 2), BACK)),
            (0, (("put", 1, 7), ("add", 0, 0, 1), ("say", 0), BACK)),
        )
        self.assertEqual(run(((PLAIN,), routines), [5], 99), ([5, 12, 9, 9], "back", 9))

    def test_deep_calls(self):
        program = alone([("say", 0), ("call", 0), BACK])
        self.assertEqual(run(program, [4], 1000), ([4] * 500, "long", None))


class Ends(unittest.TestCase):
    def test_back(self):
        self.assertEqual(run(TELLS, [999], 1), ([], "back", 999))

    def test_told_is_what_out_holds(self):
        self.assertEqual(run(alone([("put", 3, 8), BACK], ((0,), 3, ())), [1], 9)[2], 8)

    def test_back_of_a_called_one_is_not_the_end(self):
        program = pair([("call", 1), FILL, BACK], [BACK])
        self.assertEqual(run(program, [9], 3), ([], "long", None))
        self.assertEqual(run(program, [9], 4), ([], "back", 1))

    def test_pile(self):
        program = alone([("say", 0), ("pop", 0), ("say", 0), BACK])
        self.assertEqual(run(program, [6], 9), ([6], "pile", None))

    def test_pile_in_a_called_one(self):
        program = pair([("say", 0), ("call", 1), ("say", 0), BACK], [("pop", 0), BACK])
        self.assertEqual(run(program, [6], 9), ([6], "pile", None))

    def test_what_was_said_ahead_of_the_end_is_told(self):
        program = alone([("say", 0), ("add", 0, 0, 0), ("go", 0)])
        self.assertEqual(run(program, [3], 7), ([3, 6, 12], "long", None))

    def test_fuel_is_how_many_rows_are_done(self):
        rows = [("say", 0), ("say", 0), BACK]
        self.assertEqual(run(alone(rows), [1], 0), ([], "long", None))
        self.assertEqual(run(alone(rows), [1], 1), ([1], "long", None))
        self.assertEqual(run(alone(rows), [1], 2), ([1, 1], "long", None))
        self.assertEqual(run(alone(rows), [1], 3), ([1, 1], "back", 1))
        self.assertEqual(run(alone(rows), [1], 4), ([1, 1], "back", 1))

    def test_a_pop_of_nothing_is_done_too(self):
        rows = [FILL, ("pop", 1), BACK]
        self.assertEqual(run(alone(rows), [1], 1), ([], "long", None))
        self.assertEqual(run(alone(rows), [1], 2), ([], "pile", None))

    def test_fuel_1000(self):
        said, end, told = run(alone([("say", 0), ("go", 0)]), [5], 1000)
        self.assertEqual((len(said), end, told), (500, "long", None))

    def test_every_row_counts(self):
        rows = [("zero", 0, 2), FILL, ("go", 3), ("call", 1), ("push", 0), ("pop", 0), BACK]
        program = pair(rows, [BACK])
        self.assertEqual(run(program, [0], 6)[1], "long")
        self.assertEqual(run(program, [0], 7)[1], "back")


class Refusals(unittest.TestCase):
    CALLS = (run, watched, lambda program, given, fuel: noisy(program, given, fuel, [1]))

    def check(self, error, program, given, fuel):
        for call in self.CALLS:
            with self.subTest(given=given, fuel=fuel), self.assertRaises(error):
                call(program, given, fuel)

    def test_given_of_another_count(self):
        for given in ([], [1, 2]):
            self.check(BadGiven, TELLS, given, 9)
        self.check(BadGiven, alone([BACK], NOTHING), [0], 9)
        for given in ([1], [1, 2, 3]):
            self.check(BadGiven, TIMES, given, 9)

    def test_given_that_no_box_holds(self):
        for number in (1000, -1, 10**30):
            self.check(BadGiven, TELLS, [number], 9)
            self.check(BadGiven, TIMES, [1, number], 9)

    def test_the_house_of_routine_0_counts(self):
        self.check(BadGiven, pair([BACK], [BACK], PLAIN, NOTHING), [], 9)
        self.assertEqual(run(pair([BACK], [BACK], PLAIN, NOTHING), [3], 9)[2], 3)
        houses = (NOTHING, ((0, 1), 1, ()))
        self.assertEqual(run((houses, ((1, (BACK,)), (0, (BACK,)))), [3, 4], 9)[2], 4)

    def test_numbers_up_to_999(self):
        for call in self.CALLS:
            call(TELLS, [0], 9)
            call(TELLS, [999], 9)

    def test_fuel(self):
        for fuel in (-1, 1001, 10**30):
            self.check(BadFuel, TELLS, [1], fuel)
        for call in self.CALLS:
            call(TELLS, [1], 0)
            call(TELLS, [1], 1000)

    def test_what_is_handed_in_first_is_refused_first(self):
        self.check(BadProgram, alone([FILL]), [], 1001)
        self.check(BadGiven, TELLS, [], 1001)
        with self.assertRaises(BadProgram):
            noisy(alone([FILL]), [], -1, [])
        with self.assertRaises(BadGiven):
            noisy(TELLS, [1000], -1, [])
        with self.assertRaises(BadFuel):
            noisy(TELLS, [1], -1, [])

    def test_noise(self):
        for noise in ([], [1] * 9, [1000], [-1], [1, 2, 1000], [1, -1, 2]):
            with self.subTest(noise=noise), self.assertRaises(BadNoise):
                noisy(TELLS, [1], 9, noise)
        for noise in ([0], [999], [1] * 8, [1, 2, 3]):
            self.assertEqual(noisy(TELLS, [1], 9, noise), ([], "back", 1))

    def test_what_is_handed_in_stays(self):
        given, noise = [3, 4], [5, 6]
        run(TIMES, given, 99)
        watched(TIMES, given, 99)
        noisy(TIMES, given, 99, noise)
        self.assertEqual((given, noise), ([3, 4], [5, 6]))

    def test_what_is_told_may_be_changed(self):
        run(TIMES, [3, 4], 1000)[0].clear()
        noisy(TIMES, [3, 4], 1000, [1])[0].clear()
        program = alone([("push", 0), BACK])
        watched(program, [1], 9).clear()
        self.assertEqual(run(TIMES, [3, 4], 1000)[0], [3, 6, 9, 12])
        self.assertEqual(noisy(TIMES, [3, 4], 1000, [1])[0], [3, 6, 9, 12])
        self.assertEqual(watched(program, [1], 9), [(-1, -1, "pile", -1)])

    def test_what_is_told_does_not_hang_on_what_was_handed_in(self):
        given, noise = [3, 4], [5, 6]
        told = run(TIMES, given, 99)
        given[0], noise[0] = 9, 9
        self.assertEqual(told, ([3, 6, 9, 12], "back", 12))


class Watched(unittest.TestCase):
    KEEPS = ((0,), 0, (2, 4))

    def check(self, rows, called, breaks, given=(5,), fuel=99):
        program = pair(rows, called, PLAIN, self.KEEPS)
        self.assertEqual(watched(program, list(given), fuel), breaks)

    def test_no_break(self):
        for program, given in ((TELLS, [1]), (TIMES, [3, 4]), (DOWN, [5])):
            self.assertEqual(watched(program, given, 1000), [])

    def test_a_kept_box(self):
        self.check([FILL, ("call", 1), BACK], [("put", 2, 9), BACK], [(0, 1, "kept", 2)])

    def test_kept_boxes_rise(self):
        self.check([("call", 1), BACK], [("put", 4, 9), ("put", 2, 9), BACK],
                   [(0, 0, "kept", 2), (0, 0, "kept", 4)])

    def test_boxes_that_are_not_kept(self):
        self.check([("call", 1), BACK], [("put", box, 9) for box in (0, 1, 3, 5)] + [BACK], [])

    def test_a_kept_box_that_holds_the_same_number(self):
        self.check([("call", 1), BACK], [("put", 2, 0), BACK], [])
        self.check([("put", 2, 7), ("call", 1), BACK], [("put", 2, 0), ("put", 2, 7), BACK], [])
        self.check([("put", 2, 7), ("call", 1), BACK], [("put", 2, 0), BACK],
                   [(0, 1, "kept", 2)])

    def test_the_pile(self):
        self.check([("call", 1), ("pop", 1), BACK], [("push", 0), BACK], [(0, 0, "pile", -1)])
        self.check([("push", 0), ("call", 1), BACK], [("pop", 1), BACK], [(0, 1, "pile", -1)])

    def test_a_pile_of_other_numbers(self):
        rows = [("push", 0), ("call", 1), ("pop", 1), BACK]
        self.check(rows, [("pop", 1), ("push", 3), BACK], [(0, 1, "pile", -1)])
        self.check(rows, [("pop", 1), ("push", 1), BACK], [])
        below = [("push", 0), ("push", 0), ("call", 1), ("pop", 1), ("pop", 1), BACK]
        self.check(below, [("pop", 1), ("pop", 3), ("push", 5), ("push", 1), BACK],
                   [(0, 2, "pile", -1)])

    def test_kept_boxes_come_ahead_of_the_pile(self):
        self.check([("call", 1), ("pop", 1), BACK], [("push", 0), ("put", 4, 3), BACK],
                   [(0, 0, "kept", 4), (0, 0, "pile", -1)])

    def test_each_back_in_turn(self):
        self.check([("call", 1), FILL, ("call", 1), BACK],
                   [("put", 1, 1), ("add", 2, 2, 1), BACK],
                   [(0, 0, "kept", 2), (0, 2, "kept", 2)])

    def test_inner_calls_come_first(self):
        houses = (PLAIN, ((0,), 0, (1,)), ((0,), 0, (2,)))
        routines = (
            (0, (("call", 1), BACK)),
            (1, (FILL, ("call", 2), BACK)),
            (2, (("put", 1, 5), ("put", 2, 6), BACK)),
        )
        self.assertEqual(watched((houses, routines), [0], 99),
                         [(1, 1, "kept", 2), (0, 0, "kept", 1)])

    def test_the_back_of_routine_0_to_nobody(self):
        program = alone([("put", 3, 1), ("put", 1, 1), BACK], ((0,), 0, (1, 2, 3)))
        self.assertEqual(watched(program, [9], 9),
                         [(-1, -1, "kept", 1), (-1, -1, "kept", 3)])
        program = alone([("put", 3, 1), ("push", 3), BACK], ((0,), 0, (3,)))
        self.assertEqual(watched(program, [9], 9), [(-1, -1, "kept", 3), (-1, -1, "pile", -1)])
        self.assertEqual(watched(alone([("push", 0), ("pop", 0), BACK]), [9], 9), [])

    def test_a_call_of_routine_0(self):
        rows = [("zero", 0, 4), ("put", 0, 0), ("call", 0), BACK, ("put", 2, 7), BACK]
        program = alone(rows, ((0,), 0, (2,)))
        self.assertEqual(watched(program, [1], 99), [(0, 2, "kept", 2), (-1, -1, "kept", 2)])

    def test_breaks_ahead_of_another_end(self):
        self.check([("call", 1), ("pop", 1), BACK], [("put", 2, 9), BACK], [(0, 0, "kept", 2)])
        self.check([("call", 1), ("go", 1)], [("put", 2, 9), BACK], [(0, 0, "kept", 2)])

    def test_only_what_went_back(self):
        rows, called = [("call", 1), BACK], [("put", 2, 9), BACK]
        self.check(rows, called, [], fuel=2)
        self.check(rows, called, [(0, 0, "kept", 2)], fuel=3)
        self.check([("push", 0), BACK], called, [], fuel=1)

    def test_kinds(self):
        told = watched(alone([("push", 0), BACK]), [9], 9)
        self.assertIs(type(told), list)
        self.assertIs(type(told[0]), tuple)


class Noisy(unittest.TestCase):
    def test_at_first(self):
        program = alone([("say", box) for box in range(6)] + [BACK], ((1, 3), 5, (2,)))
        self.assertEqual(noisy(program, [100, 200], 99, [7, 8, 9, 10]),
                         ([7, 100, 8, 200, 9, 10], "back", 10))

    def test_come_round(self):
        program = alone([("say", box) for box in range(6)] + [BACK], ((1,), 0, ()))
        self.assertEqual(noisy(program, [100], 99, [7, 8])[0], [7, 100, 8, 7, 8, 7])
        self.assertEqual(noisy(program, [100], 99, [3])[0], [3, 100, 3, 3, 3, 3])

    def test_behind_a_back(self):
        rows = [("call", 1)] + [("say", box) for box in range(6)] + [BACK]
        called = [("put", 5, 50), ("put", 3, 30), ("put", 1, 10), BACK]
        program = pair(rows, called, ((0, 1, 2, 3, 4, 5), 0, ()), ((0,), 3, (1, 4)))
        # Nothing is laid at first: all boxes are handed in.
        self.assertEqual(noisy(program, [1] * 6, 99, [7, 8, 9, 600, 700])[0],
                         [7, 10, 8, 30, 1, 9])

    def test_it_goes_on_where_it_was(self):
        rows = [("call", 1), ("say", 4), ("call", 1), ("say", 4), BACK]
        program = pair(rows, [BACK], ((0, 1, 2), 0, ()), ((), 0, (1, 2, 3)))
        # At first boxes 3, 4, 5 take 1, 2, 3; then boxes 4 and 5 two each time.
        self.assertEqual(noisy(program, [0, 0, 0], 99, [1, 2, 3, 4, 5, 6])[0], [4, 6])

    def test_the_house_is_the_called_one_s(self):
        rows = [("call", 1), ("say", 1), ("say", 2), BACK]
        program = pair(rows, [("put", 2, 5), BACK], ((0,), 1, ()), ((0,), 0, (2,)))
        self.assertEqual(noisy(program, [0], 99, [7])[0], [7, 5])
        program = pair(rows, [("put", 2, 5), BACK], ((0,), 0, (2,)), ((0,), 1, ()))
        self.assertEqual(noisy(program, [0], 99, [7])[0], [0 + 7, 7])

    def test_nothing_is_laid_behind_the_last_back(self):
        program = alone([("put", 3, 4), BACK], ((0,), 3, ()))
        self.assertEqual(noisy(program, [0], 99, [7]), ([], "back", 4))

    def test_nothing_is_laid_at_a_call(self):
        program = pair([("put", 4, 4), ("call", 1), BACK], [("say", 4), BACK])
        self.assertEqual(noisy(program, [0], 99, [7])[0], [4])

    def test_noise_needs_no_fuel(self):
        program = pair([("call", 1), BACK], [BACK])
        self.assertEqual(noisy(program, [3], 3, [7]), ([], "back", 3))
        self.assertEqual(noisy(program, [3], 2, [7]), ([], "long", None))

    def test_other_ends(self):
        self.assertEqual(noisy(alone([("pop", 1), BACK]), [3], 3, [7]), ([], "pile", None))
        self.assertEqual(noisy(alone([("say", 1), ("go", 0)]), [3], 3, [7]),
                         ([7, 7], "long", None))

    def test_noise_changes_the_way(self):
        program = alone([("zero", 1, 2), ("put", 0, 9), BACK])
        self.assertEqual(run(program, [3], 9)[2], 3)
        self.assertEqual(noisy(program, [3], 9, [1])[2], 9)


if __name__ == "__main__":
    unittest.main()
