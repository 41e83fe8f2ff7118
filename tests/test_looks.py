"""Points 4 to 6: states, what a row does to them and how it breaks; look and looked."""

import unittest

from callpact.errors import TooMany
from callpact.looks import look, looked, paper

import naive
from samples import (BACK, DOWN, FILL, KEEPER, PLAIN, TELLS, TIMES, alone, broken_beside_many,
                     let_by_with_many, pair, random_programs, spoilt_programs)

L, G = "loose", "good"
# Box 1 is the caller's, box 0 is good, all others are loose.
CARRIES = ((0,), 0, (1,))


def met_at(program, row):
    """The boxes and piles of routine 0 that are met at a row."""
    return [(boxes, pile) for number, boxes, pile in paper(program, 0) if number == row]


class FirstStates(unittest.TestCase):
    def check(self, house, *boxes):
        stays = alone([("go", 0)], house)
        self.assertEqual(paper(stays, 0), [(0, boxes, ())])

    def test_handed_in_kept_and_others(self):
        self.check(((0, 2), 1, (3, 5)), G, L, G, "3", L, "5")

    def test_all_kept_but_one(self):
        self.check(((), 2, (0, 1, 3, 4, 5)), "0", "1", L, "3", "4", "5")

    def test_told_in_a_box_that_is_handed_in(self):
        self.check(((4,), 4, ()), L, L, L, L, G, L)

    def test_nothing_handed_in_or_kept(self):
        self.check(((), 0, ()), L, L, L, L, L, L)


class Effects(unittest.TestCase):
    def check(self, rows, boxes, pile=(), house=CARRIES):
        """What is met behind rows that are done one behind the other."""
        at = len(rows)
        self.assertEqual(met_at(alone(list(rows) + [("go", at)], house), at), [(boxes, pile)])

    def test_put(self):
        self.check([("put", 3, 0)], (G, "1", L, G, L, L))
        self.check([("put", 1, 0)], (G, G, L, L, L, L))

    def test_add_and_take(self):
        self.check([("add", 3, 0, 0)], (G, "1", L, G, L, L))
        self.check([("take", 1, 0, 0)], (G, G, L, L, L, L))

    def test_move(self):
        self.check([("move", 3, 0)], (G, "1", L, G, L, L))
        self.check([("move", 3, 1)], (G, "1", L, "1", L, L))
        self.check([("move", 0, 1)], ("1", "1", L, L, L, L))
        self.check([("move", 4, 1), FILL, ("move", 1, 0)], (G, G, L, L, "1", L))

    def test_push_and_pop(self):
        self.check([("push", 1), ("push", 0)], (G, "1", L, L, L, L), ("1", G))
        self.check([("push", 1), ("push", 0), ("pop", 4)], (G, "1", L, L, G, L), ("1",))
        self.check([("push", 0), ("push", 1), ("pop", 4), ("pop", 5)], (G, "1", L, L, "1", G))

    def test_say_and_go(self):
        self.check([("say", 0), ("go", 2)], (G, "1", L, L, L, L))

    def test_zero_goes_on_both_ways(self):
        program = alone([("zero", 0, 2), ("put", 3, 1), ("go", 2)])
        self.assertEqual(
            paper(program, 0),
            [
                (0, (G, L, L, L, L, L), ()),
                (1, (G, L, L, L, L, L), ()),
                (2, (G, L, L, G, L, L), ()),
                (2, (G, L, L, L, L, L), ()),
            ],
        )

    def test_zero_to_the_next_row(self):
        self.check([("zero", 0, 1)], (G, "1", L, L, L, L))

    def test_call_keeps_what_the_called_house_keeps(self):
        rows = [("put", 2, 1), ("put", 3, 1), ("push", 1), ("call", 1), ("go", 4)]
        program = pair(rows, [BACK], ((0, 4), 0, (1, 5)), ((0,), 4, (1, 2)))
        self.assertEqual(met_at(program, 4), [((L, "1", G, L, G, L), ("1",))])

    def test_call_leaves_loose_what_is_kept_loose(self):
        program = pair([("call", 1), ("go", 1)], [BACK], ((0,), 0, ()), ((), 5, (0, 1)))
        self.assertEqual(met_at(program, 1), [((G, L, L, L, L, G), ())])

    def test_call_of_itself(self):
        program = alone([("call", 0), ("go", 1)], ((0, 1), 2, (3,)))
        self.assertEqual(met_at(program, 1), [((L, L, G, "3", L, L), ())])

    def test_back_leads_nowhere(self):
        self.assertEqual(len(paper(alone([BACK, BACK]), 0)), 1)


class Breaks(unittest.TestCase):
    def check(self, rows, why, box, house=CARRIES):
        """The break of the last of rows that are done one behind the other."""
        way = list(range(len(rows)))
        self.assertEqual(look(alone(list(rows) + [BACK], house), 0), (way, why, box))

    def check_none(self, rows, house=CARRIES):
        at = len(rows)
        self.assertIsNone(look(alone(list(rows) + [("go", at)], house), 0))

    def test_loose_boxes(self):
        for row in (("move", 0, 2), ("push", 2), ("add", 0, 2, 0), ("add", 0, 0, 2),
                    ("take", 0, 2, 0), ("take", 0, 0, 2), ("say", 2), ("zero", 2, 0)):
            self.check([row], "loose", 2)

    def test_boxes_of_the_caller(self):
        for row in (("add", 0, 1, 0), ("add", 0, 0, 1), ("take", 0, 1, 0), ("take", 0, 0, 1),
                    ("say", 1), ("zero", 1, 0)):
            self.check([row], "caller", 1)

    def test_a_figure_elsewhere_is_the_caller_s(self):
        self.check([("move", 3, 1), ("say", 3)], "caller", 3)
        self.check([("push", 1), ("pop", 4), ("zero", 4, 0)], "caller", 4)

    def test_move_and_push_may_look_at_the_caller_s(self):
        self.check_none([("move", 0, 1)])
        self.check_none([("push", 1)])

    def test_what_is_got_may_be_anything(self):
        for row in (("put", 2, 1), ("move", 2, 0), ("add", 2, 0, 0), ("take", 2, 0, 0)):
            self.check_none([row])
        self.check_none([("push", 0), ("pop", 2)])

    def test_as_it_stands_in_the_row(self):
        self.check([("add", 0, 3, 2)], "loose", 3)
        self.check([("add", 0, 1, 2)], "caller", 1)
        self.check([("take", 0, 2, 1)], "loose", 2)
        self.check([("take", 4, 5, 4)], "loose", 5)

    def test_deep(self):
        self.check_none([("push", 0)] * 8)
        self.check([("push", 0)] * 9, "deep", 0)
        self.check([("push", 0)] * 8 + [("push", 1)], "deep", 1)

    def test_loose_comes_ahead_of_deep(self):
        self.check([("push", 0)] * 8 + [("push", 3)], "loose", 3)

    def test_eight_again_behind_a_pop(self):
        self.check_none([("push", 0)] * 8 + [("pop", 0), ("push", 0)])
        self.check([("push", 0)] * 8 + [("pop", 0)] + [("push", 0)] * 2, "deep", 0)

    def test_pop_of_nothing(self):
        self.check([("pop", 2)], "pile", 2)
        self.check([("push", 0), ("pop", 0), ("pop", 1)], "pile", 1)

    def test_call_wants_what_is_handed_in(self):
        def told(own, ins, rows=()):
            rows = list(rows) + [("call", 1), ("go", len(rows) + 1)]
            return look(pair(rows, [BACK], own, (ins, 5, ())), 0)

        self.assertIsNone(told(((0, 2), 0, ()), (0, 2)))
        self.assertIsNone(told(((), 0, ()), ()))
        self.assertEqual(told(((0, 2), 0, ()), (0, 1, 3)), ([0], "loose", 1))
        self.assertEqual(told(((), 0, (1, 4)), (1, 3)), ([0], "caller", 1))
        self.assertEqual(told(((), 0, (4,)), (3, 4)), ([0], "loose", 3))
        self.assertEqual(told(((), 0, (1,)), (0, 1), [FILL]), ([0, 1], "caller", 1))

    def test_call_leaves_nothing_to_hand_in_again(self):
        program = pair([("call", 1), ("call", 1), BACK], [BACK], PLAIN, ((0,), 5, ()))
        self.assertEqual(look(program, 0), ([0, 1], "loose", 0))

    def test_back_with_something_on_the_pile(self):
        self.check([("push", 0), BACK], "pile", -1)
        self.check([("push", 0), ("put", 1, 1), ("move", 0, 2)], "loose", 2)

    def test_back_without_a_kept_box(self):
        self.check([("put", 1, 1), BACK], "kept", 1)
        self.check([("move", 2, 1), ("move", 1, 0), BACK], "kept", 1)
        swap = [("move", 0, 1), ("move", 1, 2), ("move", 2, 0), ("put", 0, 1)]
        self.check(swap + [BACK], "kept", 1, ((0,), 0, (1, 2)))
        self.check(swap[1:] + [BACK], "kept", 1, ((0,), 3, (1, 2)))
        self.check([("put", 4, 1), BACK], "kept", 4, ((0,), 0, (2, 4)))

    def test_a_kept_box_that_was_brought_back(self):
        self.check_none([("move", 2, 1), ("put", 1, 1), ("move", 1, 2), BACK])
        self.check_none([("push", 1), ("put", 1, 1), ("pop", 1), BACK])

    def test_back_without_what_is_told(self):
        self.check([BACK], "loose", 3, ((0,), 3, ()))
        self.check([("move", 0, 1), BACK], "caller", 0)

    def test_the_first_break_of_back(self):
        spoilt = [("put", 1, 1), ("move", 0, 2)]
        house = ((), 0, (1, 2))
        self.check([("push", 1)] + spoilt + [BACK], "pile", -1, house)
        self.check(spoilt + [BACK], "kept", 1, house)
        self.check([("move", 0, 2), BACK], "caller", 0, house)
        self.check([("put", 1, 1), BACK], "kept", 1, house)


class Looks(unittest.TestCase):
    def test_let_by(self):
        for program in (TELLS, TIMES, DOWN):
            self.assertIsNone(looked(program))
            for routine in range(len(program[1])):
                self.assertIsNone(look(program, routine))

    def test_the_shortest_way(self):
        rows = [("zero", 0, 3), FILL, ("say", 1), FILL, FILL, ("say", 2), BACK]
        self.assertEqual(look(alone(rows), 0), ([0, 1, 2], "loose", 1))
        rows = [("zero", 0, 4), FILL, FILL, ("say", 1), ("say", 2), BACK]
        self.assertEqual(look(alone(rows), 0), ([0, 4], "loose", 2))

    def test_of_several_the_first(self):
        rows = [("zero", 0, 3), ("say", 1), BACK, ("say", 2), BACK]
        self.assertEqual(look(alone(rows), 0), ([0, 1], "loose", 1))

    def test_a_way_back_comes_ahead_of_a_way_on(self):
        # From row 3 a zero leads back to row 1, or on to row 4: both break in row 4 ways.
        rows = [("go", 3), ("say", 1), BACK, ("zero", 0, 1), ("say", 2), BACK]
        self.assertEqual(look(alone(rows), 0), ([0, 3, 1], "loose", 1))

    def test_first_as_lists_ascend_not_as_they_end(self):
        rows = [("zero", 0, 4), FILL, ("go", 8), BACK, FILL, ("go", 6), ("say", 1), BACK,
                ("say", 2), BACK]
        self.assertEqual(look(alone(rows), 0), ([0, 1, 2, 8], "loose", 2))

    def test_states_differ_by_pile_alone(self):
        rows = [("push", 0), ("zero", 0, 0), ("pop", 0), BACK]
        self.assertEqual(look(alone(rows), 0), ([0, 1, 0, 1, 2, 3], "pile", -1))

    def test_states_differ_by_boxes_alone(self):
        rows = [("zero", 0, 2), ("put", 1, 1), ("say", 1), BACK]
        self.assertEqual(look(alone(rows), 0), ([0, 2], "loose", 1))

    def test_a_loop_comes_to_an_end(self):
        self.assertIsNone(look(alone([("zero", 0, 0), FILL, ("go", 0)]), 0))

    def test_rows_that_are_never_met_do_not_break(self):
        self.assertIsNone(look(alone([BACK, ("say", 3), ("pop", 1), BACK]), 0))

    def test_a_look_hangs_on_own_rows_and_houses(self):
        rows = [("push", 2), ("call", 1), ("pop", 2), BACK]
        house = ((0,), 0, (2,))
        for called in ([BACK], [("say", 3), BACK], [("pop", 1), ("go", 0)]):
            self.assertIsNone(look(pair(rows, called, house, PLAIN), 0))

    def test_looked_tells_the_first_routine(self):
        houses = (PLAIN, KEEPER)
        bad = (0, (FILL, ("say", 3), BACK))
        worse = (1, (("put", 2, 1), BACK))
        fine = (0, (BACK,))
        self.assertEqual(looked((houses, (fine, bad, worse))), (1, [0, 1], "loose", 3))
        self.assertEqual(looked((houses, (fine, worse, bad))), (1, [0, 1], "kept", 2))
        self.assertEqual(looked((houses, (bad, worse))), (0, [0, 1], "loose", 3))
        self.assertEqual(look((houses, (bad, worse)), 1), ([0, 1], "kept", 2))

    def test_a_way_may_be_changed_by_whoever_got_it(self):
        program = alone([FILL, ("say", 1), BACK])
        look(program, 0)[0].append(9)
        looked(program)[1].clear()
        self.assertEqual(look(program, 0), ([0, 1], "loose", 1))
        self.assertEqual(looked(program), (0, [0, 1], "loose", 1))

    def test_what_is_told_is_of_its_kind(self):
        told = look(alone([FILL, ("say", 1), BACK]), 0)
        self.assertIs(type(told), tuple)
        self.assertEqual([type(part) for part in told], [list, str, int])
        self.assertIs(type(looked(alone([("say", 1), BACK]))), tuple)

    def test_against_a_plainer_reading(self):
        broken = 0
        for program in random_programs(6, 600) + spoilt_programs(7, 300):
            first = None
            for routine in range(len(program[1])):
                expected, met = naive.look(program, routine, 250)
                if len(met) > 250:
                    continue
                self.assertEqual(look(program, routine), expected, program)
                if expected is not None and first is None:
                    first = (routine, *expected)
                    broken += len(expected[0]) > 4
            self.assertEqual(looked(program), first, program)
        self.assertGreater(broken, 50)


class TooManyStates(unittest.TestCase):
    # How many states come of these numbers is counted by naive.look, too.
    MET_250, MET_251 = (0, 0, 1, 1, 1, 4), (1, 0, 1, 1, 1, 4)
    SHORT_250, SHORT_251 = (1, 0, 0, 2, 2, 3), (0, 1, 0, 2, 2, 3)

    def check_count(self, program, many):
        self.assertEqual(len(naive.look(program, 0)[1]), many)

    def test_250_states_where_none_breaks(self):
        program = let_by_with_many(self.MET_250)
        self.check_count(program, 250)
        self.assertIsNone(look(program, 0))
        self.assertIsNone(looked(program))

    def test_251_states_where_none_breaks(self):
        program = let_by_with_many(self.MET_251)
        self.check_count(program, 251)
        for call in (lambda: look(program, 0), lambda: looked(program)):
            with self.assertRaises(TooMany):
                call()

    def test_250_states_by_ways_no_longer_than_the_shortest_that_breaks(self):
        for first in (False, True):
            program = broken_beside_many(self.SHORT_250, first)
            self.check_count(program, 250)
            way, why, box = look(program, 0)
            self.assertEqual((len(way), why, box), (18, "deep", 0))

    def test_more_states_are_met_by_longer_ways(self):
        program = broken_beside_many(self.SHORT_250, False)
        self.assertGreater(len(naive.all_states(program, 0)), 250)
        self.assertEqual(len(look(program, 0)[0]), 18)

    def test_251_states_by_ways_no_longer_than_the_shortest_that_breaks(self):
        for first in (False, True):
            program = broken_beside_many(self.SHORT_251, first)
            self.check_count(program, 251)
            for call in (lambda: look(program, 0), lambda: looked(program)):
                with self.assertRaises(TooMany):
                    call()

    def test_a_break_ahead_of_many_is_told(self):
        rows = list(let_by_with_many(self.MET_250)[1][0][1])
        many = [("zero", row[1], row[2] + 2) if row[0] == "zero" else row for row in rows]
        self.assertEqual(look(alone([FILL, ("say", 3)] + many), 0), ([0, 1], "loose", 3))

    def test_looked_goes_by_routines_in_turn(self):
        many = let_by_with_many(self.MET_251)[1][0]
        bad = (0, (("say", 1), BACK))
        self.assertEqual(looked(((PLAIN,), (bad, many))), (0, [0], "loose", 1))
        with self.assertRaises(TooMany):
            looked(((PLAIN,), (many, bad)))


if __name__ == "__main__":
    unittest.main()
