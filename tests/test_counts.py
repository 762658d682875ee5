"""The calls count, held and deep."""

import unittest

from helper import COUNT, HELD, deep, drain, empty, place, pour, raw, run, settle, text, tick

FAR = 1000000000


class Count(unittest.TestCase):
    def test_each_material_in_its_place(self):
        told = run(text("######:::::|****OOO==.."), COUNT)
        self.assertEqual(told[1], [0, 0, 0, 2, 6, 5, 4, 3, 2])
        for material, sign in enumerate(".#:*O="):
            amounts = [0] * 6
            amounts[material] = 3
            self.assertEqual(run(text(sign * 3), COUNT)[1], [0, 0, 0] + amounts)

    def test_all_water(self):
        told = run(text("12345678"), COUNT, pour(0, 0, 0, 7), COUNT, drain(7, 0, 0, 5), COUNT)
        self.assertEqual(told[1::2], [[0, 0, 36, 8, 0, 0, 0, 0, 0], [0, 0, 43, 8, 0, 0, 0, 0, 0],
                                      [0, 0, 38, 8, 0, 0, 0, 0, 0]])

    def test_what_is_put_and_taken(self):
        told = run(text("8.", "=="), COUNT, place(0, 0, 0, 1), COUNT, place(0, 0, 1, 0), COUNT)
        self.assertEqual(told[1::2], [[0, 0, 8, 2, 0, 0, 0, 0, 2], [0, 0, 0, 1, 1, 0, 0, 0, 2],
                                      [0, 0, 0, 2, 1, 0, 0, 0, 1]])

    def test_ticks_made(self):
        told = run(text(".", ".", ":"), tick(1), COUNT, settle(9), COUNT, tick(50), COUNT, settle(9), COUNT)
        self.assertEqual([answer[:2] for answer in told[2::2]], [[0, 1], [0, 2], [0, 52], [0, 52]])

    def test_ticks_begin_anew_with_a_ground(self):
        told = run(empty(1, 1, 1), tick(3), COUNT, empty(1, 1, 2), COUNT, tick(2), COUNT, text("8"), COUNT)
        self.assertEqual(told[2::2], [[0, 3, 0, 1, 0, 0, 0, 0, 0], [0, 0, 0, 2, 0, 0, 0, 0, 0],
                                      [0, 2, 0, 2, 0, 0, 0, 0, 0], [0, 0, 8, 1, 0, 0, 0, 0, 0]])

    def test_refused_ticks_are_not_made(self):
        told = run(text(".", ".", ":"), tick(0), tick(51), settle(0), settle(201), settle(1), empty(0, 1, 1),
                   raw("?"), COUNT)
        self.assertEqual(told[-1], [0, 0, 0, 2, 0, 1, 0, 0, 0])

    def test_ticks_keep_all(self):
        told = run(text("8..=|.#O*|....", ":==.|7.35|=..:", "..:.|=.:=|.#.*"), *[COUNT, tick(1)] * 9, COUNT)
        self.assertEqual(told[1::2], [[0, made] + told[1][2:] for made in range(10)])
        self.assertEqual(told[1], [0, 0, 23, 21, 2, 4, 2, 1, 6])

    def test_largest_ground(self):
        full = "|".join(["8" * 12] * 10)
        self.assertEqual(run(text(*[full] * 5), COUNT)[1], [0, 0, 4800, 600, 0, 0, 0, 0, 0])
        self.assertEqual(run(empty(5, 10, 12), COUNT)[1], [0, 0, 0, 600, 0, 0, 0, 0, 0])

    def test_without_cells(self):
        self.assertEqual(run(COUNT), [[0] * 9])
        self.assertEqual(run(tick(5), COUNT)[1], [0, 5] + [0] * 7)


class Held(unittest.TestCase):
    def held(self, *layers):
        return run(text(*layers), HELD)[1]

    def test_the_wood_that_is_not_held_is_told(self):
        self.assertEqual(self.held(".", "="), [0, 1, 0, 0, 1])
        self.assertEqual(self.held("=", "="), [0, 0])
        self.assertEqual(self.held("..", "#="), [0, 0])
        self.assertEqual(self.held("...", "=.#"), [0, 1, 0, 0, 1])

    def test_feet(self):
        for sign in "#:*O":
            self.assertEqual(self.held(sign, "="), [0, 0])
        for sign in ".8":
            self.assertEqual(self.held(sign, "="), [0, 1, 0, 0, 1])
        for sign in ":*O=.8":
            self.assertEqual(self.held("..", "=" + sign)[:5], [0, 1 + (sign == "="), 0, 0, 1])
        self.assertEqual(self.held(".", "=", "#"), [0, 1, 0, 0, 1])

    def test_cells_in_order(self):
        told = self.held("...|...", "=.=|.=.", "=..|..=")
        self.assertEqual(told, [0, 5, 0, 0, 1, 2, 0, 1, 1, 1, 1, 0, 0, 2, 2, 1, 2])

    def test_four_steps(self):
        told = self.held("........", "#======.")
        self.assertEqual(told, [0, 1, 6, 0, 1])
        self.assertEqual(self.held("......", "#====="), [0, 0])
        self.assertEqual(self.held("..", ".=", ".=", ".=", ".=", ".=", ".=", "#="), [0, 2, 1, 0, 1, 1, 0, 2])
        self.assertEqual(self.held("..........", "#========#"), [0, 0])
        self.assertEqual(self.held("............", "#==========#"), [0, 0])
        told = self.held("............", "#==========*")
        self.assertEqual(told, [0, 5, 6, 0, 1, 7, 0, 1, 8, 0, 1, 9, 0, 1, 10, 0, 1])

    def test_steps_to_each_side(self):
        told = self.held("...|...|...", "#..|...|...", "===|=..|...")
        self.assertEqual(told, [0, 0])
        self.assertEqual(self.held(".|.|.|.|.|.|.", "#|=|=|=|=|=|="), [0, 1, 0, 6, 1])

    def test_other_loose_things_are_not_told(self):
        self.assertEqual(self.held(".", ":"), [0, 0])
        self.assertEqual(self.held("..", ":=", "::"), [0, 1, 1, 0, 1])

    def test_now(self):
        told = run(text("..", "..", "=."), HELD, tick(1), HELD, tick(1), HELD, place(0, 0, 1, 5), HELD,
                   place(0, 0, 0, 0), HELD, place(1, 0, 1, 1), HELD)
        self.assertEqual(told[1::2], [[0, 1, 0, 0, 2], [0, 1, 0, 0, 1], [0, 0], [0, 0], [0, 1, 0, 0, 1], [0, 0]])

    def test_it_changes_nothing(self):
        told = run(text(".", "="), HELD, HELD, COUNT)
        self.assertEqual(told[1:], [[0, 1, 0, 0, 1], [0, 1, 0, 0, 1], [0, 0, 0, 1, 0, 0, 0, 0, 1]])

    def test_the_farthest_cell(self):
        told = run(empty(12, 10, 5), place(11, 9, 4, 5), place(0, 9, 4, 5), HELD)
        self.assertEqual(told[3], [0, 2, 0, 9, 4, 11, 9, 4])

    def test_without_cells(self):
        self.assertEqual(run(HELD), [[0, 0]])
        self.assertEqual(run(empty(2, 2, 2), HELD)[1], [0, 0])


class Deep(unittest.TestCase):
    GROUND = text("12|34|#8", "5.|6.|77", "..|.8|=1", "#.|1.|2:")

    def test_from_below(self):
        told = run(self.GROUND, *[deep(x, y) for y in range(3) for x in range(2)])
        self.assertEqual(told[1:], [[0, 1, 5, 0, 0], [0, 2, 0, 0, 0], [0, 3, 6, 0, 1], [0, 4, 0, 8, 0],
                                    [0, 0, 7, 0, 2], [0, 8, 7, 1, 0]])

    def test_sides_of_one_and_twelve(self):
        self.assertEqual(run(text("7"), deep(0, 0))[1], [0, 7])
        self.assertEqual(run(text(*"123456781234"), deep(0, 0))[1], [0, 1, 2, 3, 4, 5, 6, 7, 8, 1, 2, 3, 4])
        told = run(empty(12, 10, 5), pour(11, 9, 0, 3), pour(11, 9, 4, 8), pour(11, 8, 4, 7), deep(11, 9))
        self.assertEqual(told[4], [0, 3, 0, 0, 0, 8])

    def test_it_follows_what_is_changed(self):
        told = run(text(".", "#", "8"), deep(0, 0), place(0, 0, 1, 0), tick(1), deep(0, 0), tick(1), deep(0, 0))
        self.assertEqual([told[1], told[4], told[6]], [[0, 0, 0, 8], [0, 0, 8, 0], [0, 8, 0, 0]])

    def test_refusals(self):
        for x, y in [(-1, 0), (0, -1), (2, 0), (0, 3), (2, 3), (FAR, 0), (0, FAR), (-FAR, -FAR)]:
            self.assertEqual(run(self.GROUND, deep(x, y), deep(0, 0))[1:], [[-1], [0, 1, 5, 0, 0]], (x, y))

    def test_without_cells(self):
        self.assertEqual(run(deep(0, 0), deep(-1, 0), deep(FAR, FAR)), [[-1]] * 3)
