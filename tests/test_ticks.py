"""The calls tick and settle: what is held, what falls, how water runs, what is quiet."""

import unittest

from helper import PRINT, behind, empty, place, pour, printed, run, settle, text, tick

FAR = 1000000000


class Feet(unittest.TestCase):
    def stays(self, *layers):
        self.assertEqual(behind(1, *layers), printed(*layers))

    def test_the_end_of_the_ground_is_a_foot(self):
        self.stays("=", ".")
        self.stays("=", "=")

    def test_something_solid_below_is_a_foot(self):
        for sign in "#:*O":
            self.stays(sign, "=", ".")

    def test_stone_beside_is_a_foot(self):
        self.stays(".|.", "=|#")
        self.stays(".|.", "#|=")
        self.stays("..", "=#")
        self.stays("..", "#=")

    def test_nothing_else_beside_is_a_foot(self):
        for sign in "*O":
            self.assertEqual(behind(1, "..", "=" + sign), printed("=.", "." + sign))
        self.assertEqual(behind(1, ".#", "=:"), printed("=#", ".:"))
        self.assertEqual(behind(1, "..|..", "=.|.#"), printed("=.|..", "..|.#"))

    def test_stone_above_is_no_foot(self):
        self.assertEqual(behind(1, ".", "=", "#"), printed("=", ".", "#"))

    def test_sand_that_falls_is_a_foot_too(self):
        self.assertEqual(behind(1, ".", ":", "="), printed(":", ".", "="))
        self.assertEqual(behind(2, ".", ":", "="), printed(":", "=", "."))


class Steps(unittest.TestCase):
    def test_four_steps_hold_and_five_do_not(self):
        self.assertEqual(behind(1, "......", "#====="), printed("......", "#====="))
        self.assertEqual(behind(1, ".......", "#======"), printed("......=", "#=====."))
        self.assertEqual(behind(1, ".......", "======#"), printed("=......", ".=====#"))

    def test_steps_lead_up_and_down_and_aside(self):
        held = ("...|...", "#=.|.=.", "...|.==", "...|...")
        self.assertEqual(behind(1, *held), printed(*held))
        hanging = ("..", "..", ".=", ".=", "#=")
        self.assertEqual(behind(1, *hanging), printed(*hanging))
        far = ("..", ".=", ".=", ".=", ".=", ".=", "#=")
        self.assertEqual(behind(1, *far), printed(".=", "..", ".=", ".=", ".=", ".=", "#="))

    def test_steps_do_not_lead_over_other_things(self):
        self.assertEqual(behind(1, "....", "#=.="), printed("...=", "#=.."))
        self.assertEqual(behind(1, "..#.", "#=O="), printed("..#=", "#=O."))

    def test_wood_without_wood_that_has_a_foot_is_loose(self):
        self.assertEqual(behind(1, "...", "==."), printed("==.", "..."))


class Falling(unittest.TestCase):
    def test_sand_falls_one_cell_a_tick(self):
        self.assertEqual(behind(1, ".", ".", ":"), printed(".", ":", "."))
        self.assertEqual(behind(2, ".", ".", ":"), printed(":", ".", "."))
        self.assertEqual(behind(3, ".", ".", ":"), printed(":", ".", "."))

    def test_a_pile_falls_together(self):
        self.assertEqual(behind(1, ".", ":", ":", ":"), printed(":", ":", ":", "."))
        self.assertEqual(behind(1, ".", "=", "=", ":"), printed("=", "=", ":", "."))

    def test_nothing_falls_on_something_solid(self):
        for sign in "#:*O=":
            self.assertEqual(behind(1, sign, ":", "."), printed(sign, ":", "."))

    def test_stone_lamps_and_glass_stay(self):
        for sign in "#*O":
            self.assertEqual(behind(1, ".", sign), printed(".", sign))

    def test_places_are_changed_with_the_water_below(self):
        self.assertEqual(behind(1, "8", ":"), printed(":", "8"))
        self.assertEqual(behind(1, "3", "="), printed("=", "3"))
        self.assertEqual(behind(1, "8", ":", ":"), printed(":", ":", "8"))

    def test_water_that_came_up_runs_in_the_same_tick(self):
        self.assertEqual(behind(1, "8#", ":."), printed(":#", "71"))
        self.assertEqual(behind(1, "5#", ":.", "8#"), printed(":#", "81", "4#"))


class Running(unittest.TestCase):
    def test_the_examples_of_the_document(self):
        self.assertEqual(behind(1, "8.."), printed("71."))
        self.assertEqual(behind(1, "83."), printed("731"))

    def test_water_goes_down_first(self):
        self.assertEqual(behind(1, "..", "8."), printed("8.", ".."))
        self.assertEqual(behind(1, "##.", "..8"), printed("##8", "..."))
        self.assertEqual(behind(1, "#5", ".8"), printed("#8", "14"))
        self.assertEqual(behind(1, "#8", ".8"), printed("#8", "17"))

    def test_all_that_fits_goes_down(self):
        self.assertEqual(behind(1, ".", "8"), printed("8", "."))
        self.assertEqual(behind(1, "6", "5"), printed("8", "3"))
        self.assertEqual(behind(1, "#", "5"), printed("#", "5"))

    def test_layers_run_from_below(self):
        self.assertEqual(behind(1, "8.", "8."), printed("82", "6."))
        self.assertEqual(behind(1, "8#", "8."), printed("8#", "71"))

    def test_what_came_in_this_tick_runs_too(self):
        self.assertEqual(behind(1, "4..|###"), printed("31.|###"))
        self.assertEqual(behind(1, "..4"), printed(".13"))
        self.assertEqual(behind(1, "8"), printed("8"))
        self.assertEqual(behind(1, "88...."), printed("871..."))

    def test_a_difference_of_two_is_enough_and_one_is_not(self):
        self.assertEqual(behind(1, "2."), printed("11"))
        self.assertEqual(behind(1, "75"), printed("66"))
        self.assertEqual(behind(1, "1."), printed("1."))
        self.assertEqual(behind(1, "76"), printed("76"))

    def test_of_equal_cells_the_first_gets_it(self):
        self.assertEqual(behind(1, "#.#|.8.|#.#"), printed("#.#|17.|#.#"))
        self.assertEqual(behind(1, "#.#|18.|#.#"), printed("#.#|171|#.#"))
        self.assertEqual(behind(1, "#.#|181|#.#"), printed("#1#|171|#.#"))
        self.assertEqual(behind(1, "#1#|181|#.#"), printed("#1#|171|#1#"))
        self.assertEqual(behind(1, "#2#|382|#3#"), printed("#2#|373|#3#"))

    def test_only_one_cell_beside_gets_some(self):
        self.assertEqual(behind(1, "#.#|#8#|#.#"), printed("#1#|#7#|#.#"))

    def test_nothing_runs_into_what_is_solid(self):
        for sign in "#:*O=":
            self.assertEqual(behind(1, sign + "8"), printed(sign + "8"))

    def test_water_does_not_run_aslant(self):
        self.assertEqual(behind(1, "8#|#."), printed("8#|#."))


class Tick(unittest.TestCase):
    def test_ticks_in_all_and_quiet(self):
        told = run(text("8.."), tick(1), tick(2), tick(50), tick(1))
        self.assertEqual(told[1:], [[0, 1, 0], [0, 3, 0], [0, 53, 1], [0, 54, 1]])

    def test_quiet_is_told_of_the_ground_behind_the_ticks(self):
        self.assertEqual(run(text(".", ":"), tick(1))[1], [0, 1, 1])
        self.assertEqual(run(text(".", ".", ":"), tick(1), tick(1))[1:], [[0, 1, 0], [0, 2, 1]])
        self.assertEqual(run(text("2.."), tick(1))[1], [0, 1, 1])

    def test_many_ticks_are_one_behind_the_other(self):
        for ticks in (1, 2, 5, 9):
            told = run(text("8...|.#..", "..:.|=..4"), *[tick(1)] * ticks, PRINT)
            again = run(text("8...|.#..", "..:.|=..4"), tick(ticks), PRINT)
            self.assertEqual(told[-2:], again[-2:])

    def test_a_ground_that_was_quiet_goes_on_when_it_is_changed(self):
        told = run(text("#", ":"), tick(4), place(0, 0, 0, 0), tick(1), PRINT)
        self.assertEqual(told[1:], [[0, 4, 1], [0], [0, 5, 1], printed(":", ".")])

    def test_refusals(self):
        for ticks in (0, -1, 51, FAR, -FAR):
            told = run(text("8.."), tick(1), tick(ticks), PRINT, tick(1))
            self.assertEqual(told[2:], [[-2], printed("71."), [0, 2, 0]], ticks)
        self.assertEqual(run(text("8.."), tick(50))[1], [0, 50, 1])

    def test_without_cells(self):
        told = run(tick(7), tick(0), tick(51), tick(1), PRINT)
        self.assertEqual(told, [[0, 7, 1], [-2], [-2], [0, 8, 1], [0]])


class Settle(unittest.TestCase):
    FALL = text(".", ".", ".", ":")

    def test_as_many_ticks_as_are_needed(self):
        for most in (3, 4, 200):
            told = run(self.FALL, settle(most), PRINT, tick(1))
            self.assertEqual(told[1:], [[0, 3], printed(":", ".", ".", "."), [0, 4, 1]])

    def test_too_few_ticks_are_refused_and_none_is_made(self):
        for most in (1, 2):
            told = run(self.FALL, settle(most), PRINT, tick(1), PRINT)
            self.assertEqual(told[1:], [[-4], printed(".", ".", ".", ":"), [0, 1, 0], printed(".", ".", ":", ".")])
        told = run(text("8.."), tick(1), settle(1), PRINT, tick(1))
        self.assertEqual(told[2:], [[-4], printed("71."), [0, 2, 0]])

    def test_a_quiet_ground_needs_none(self):
        for layers in ([":"], ["#", "=", "8"], ["8"], ["87"], ["."], ["1.1"]):
            told = run(text(*layers), settle(1), PRINT, tick(1))
            self.assertEqual(told[1:], [[0, 0], printed(*layers), [0, 1, 1]])

    def test_its_ticks_are_counted_in_all(self):
        told = run(self.FALL, tick(1), settle(5), settle(5), tick(2), place(0, 0, 3, 2), settle(9), tick(1))
        self.assertEqual(told[1:], [[0, 1, 0], [0, 2], [0, 0], [0, 5, 1], [0], [0, 2], [0, 8, 1]])

    def test_the_water_is_level_then(self):
        self.assertEqual(run(text("8..."), settle(200), PRINT)[2], printed("3221"))

    def test_refusals(self):
        for most in (0, -1, 201, FAR, -FAR):
            told = run(self.FALL, settle(most), PRINT, tick(1))
            self.assertEqual(told[1:], [[-2], printed(".", ".", ".", ":"), [0, 1, 0]], most)
        self.assertEqual(run(empty(1, 1, 1), settle(0), settle(201), pour(0, 0, 0, 1))[1:], [[-2], [-2], [0, 1]])

    def test_without_cells(self):
        self.assertEqual(run(settle(1), settle(0), settle(200), tick(1)), [[0, 0], [-2], [0, 0], [0, 1, 1]])
