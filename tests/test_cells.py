"""The calls place, pour and drain."""

import unittest

from helper import PRINT, drain, empty, place, pour, printed, run, text, tick

FAR = 1000000000
OUTSIDE = [(-1, 0, 0), (0, -1, 0), (0, 0, -1), (3, 0, 0), (0, 2, 0), (0, 0, 4), (FAR, FAR, FAR), (-FAR, 0, 0)]
GROUND = text("..#|8.5", "...|...", "...|...", "...|...")


class Place(unittest.TestCase):
    def test_each_material(self):
        for material, sign in enumerate(".#:*O="):
            told = run(text("..", ".."), place(1, 0, 1, material), PRINT)
            self.assertEqual(told[1:], [[0], printed("..", "." + sign)])
            told = run(text("##", "##"), place(1, 0, 1, material), PRINT)
            self.assertEqual(told[1:], [[0], printed("##", "#" + sign)])

    def test_something_solid_takes_the_water_away(self):
        for material in range(1, 6):
            told = run(text("7"), place(0, 0, 0, material), place(0, 0, 0, 0), PRINT)
            self.assertEqual(told[1:], [[0], [0], printed(".")])

    def test_a_cell_that_was_solid_has_all_its_room(self):
        for material in range(1, 6):
            told = run(text("7"), place(0, 0, 0, material), place(0, 0, 0, 0), pour(0, 0, 0, 8), PRINT)
            self.assertEqual(told[3:], [[0, 8], printed("8")])
        told = run(text("7", ":"), tick(1), place(0, 0, 0, 0), pour(0, 0, 0, 8), PRINT)
        self.assertEqual(told[3:], [[0, 8], printed("8", "7")])

    def test_water_stays_in_air(self):
        self.assertEqual(run(text("7"), place(0, 0, 0, 0), PRINT)[1:], [[0], printed("7")])

    def test_refusals(self):
        for x, y, z in OUTSIDE:
            told = run(GROUND, place(x, y, z, 1), PRINT)
            self.assertEqual(told[1:], [[-1], run(GROUND, PRINT)[1]], (x, y, z))
        for material in (-1, 6, FAR, -FAR):
            told = run(GROUND, place(0, 1, 0, material), PRINT)
            self.assertEqual(told[1:], [[-2], run(GROUND, PRINT)[1]], material)

    def test_of_both_refusals_the_first(self):
        self.assertEqual(run(GROUND, place(3, 0, 0, 6))[1], [-1])
        self.assertEqual(run(place(0, 0, 0, -1))[0], [-1])

    def test_the_ends_of_the_ground_are_in_it(self):
        told = run(empty(3, 2, 4), place(2, 1, 3, 1), place(0, 0, 0, 1), PRINT)
        self.assertEqual(told[1:], [[0], [0], printed("#..|...", "...|...", "...|...", "...|..#")])

    def test_the_ticks_made_stay(self):
        self.assertEqual(run(empty(1, 1, 1), tick(2), place(0, 0, 0, 1), tick(1))[3], [0, 3, 1])


class Pour(unittest.TestCase):
    def test_a_part_at_a_time(self):
        told = run(text("6"), pour(0, 0, 0, 1), pour(0, 0, 0, 1), pour(0, 0, 0, 1), PRINT)
        self.assertEqual(told[1:], [[0, 7], [0, 8], [-3], printed("8")])

    def test_up_to_what_there_is_room_for(self):
        told = run(empty(1, 1, 1), pour(0, 0, 0, 3), pour(0, 0, 0, 5), pour(0, 0, 0, 1), PRINT)
        self.assertEqual(told[1:], [[0, 3], [0, 8], [-3], printed("8")])
        self.assertEqual(run(empty(1, 1, 1), pour(0, 0, 0, 8))[1], [0, 8])

    def test_refusals(self):
        for parts in (0, -1, 9, FAR, -FAR):
            self.assertEqual(run(text("."), pour(0, 0, 0, parts), PRINT)[1:], [[-3], printed(".")], parts)
        for parts in (0, -3, 4, 8):
            self.assertEqual(run(text("5"), pour(0, 0, 0, parts), PRINT)[1:], [[-3], printed("5")], parts)
        for x, y, z in OUTSIDE:
            told = run(GROUND, pour(x, y, z, 1), PRINT)
            self.assertEqual(told[1:], [[-1], run(GROUND, PRINT)[1]], (x, y, z))

    def test_nothing_solid_has_room(self):
        for sign in "#:*O=":
            self.assertEqual(run(text(sign), pour(0, 0, 0, 1), PRINT)[1:], [[-3], printed(sign)])

    def test_of_both_refusals_the_first(self):
        self.assertEqual(run(GROUND, pour(0, 0, 4, 9))[1], [-1])


class Drain(unittest.TestCase):
    def test_a_part_at_a_time(self):
        told = run(text("2"), drain(0, 0, 0, 1), drain(0, 0, 0, 1), drain(0, 0, 0, 1), PRINT)
        self.assertEqual(told[1:], [[0, 1], [0, 0], [-3], printed(".")])

    def test_down_to_nothing(self):
        told = run(text("8"), drain(0, 0, 0, 3), drain(0, 0, 0, 5), drain(0, 0, 0, 1), PRINT)
        self.assertEqual(told[1:], [[0, 5], [0, 0], [-3], printed(".")])

    def test_refusals(self):
        for parts in (0, -1, 6, 8, FAR, -FAR):
            self.assertEqual(run(text("5"), drain(0, 0, 0, parts), PRINT)[1:], [[-3], printed("5")], parts)
        for sign in ".#:*O=":
            self.assertEqual(run(text(sign), drain(0, 0, 0, 1), PRINT)[1:], [[-3], printed(sign)])
        for x, y, z in OUTSIDE:
            told = run(GROUND, drain(x, y, z, 1), PRINT)
            self.assertEqual(told[1:], [[-1], run(GROUND, PRINT)[1]], (x, y, z))

    def test_of_both_refusals_the_first(self):
        self.assertEqual(run(GROUND, drain(3, 0, 0, 0))[1], [-1])


class WithoutCells(unittest.TestCase):
    def test_no_cell_is_in_it(self):
        told = run(place(0, 0, 0, 1), pour(0, 0, 0, 1), drain(0, 0, 0, 1), PRINT)
        self.assertEqual(told, [[-1], [-1], [-1], [0]])
