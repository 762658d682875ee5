"""The calls cell, light, trail and dark: what lights a cell, and how far it reaches."""

import unittest

from helper import cell, dark, drain, empty, light, place, pour, run, settle, text, tick, trail

FAR = 1000000000

# A way that winds through three rows, under stone but where it begins.
WINDING = text("............|###########.|............", ".###########|############|############")
WINDING_LIGHT = [15, 14, 13, 12, 11, 10, 9, 8, 7, 6, 5, 4] + [0] * 11 + [3] + [0] * 10 + [1, 2]


def lit(*layers):
    """The light of each layer of this ground."""
    told = run(text(*layers), *[light(z) for z in range(len(layers))])
    assert all(answer[0] == 0 for answer in told)
    return [answer[1:] for answer in told[1:]]


def way(*places):
    """The answer of trail for these cells."""
    return [0, len(places)] + [number for told in places for number in told]


class OwnLight(unittest.TestCase):
    def test_under_the_open_sky(self):
        self.assertEqual(lit("."), [[15]])
        self.assertEqual(lit("..|..", "..|.."), [[15] * 4] * 2)
        self.assertEqual(lit(*["."] * 12), [[15]] * 12)

    def test_what_is_not_clear_has_no_light(self):
        for sign in "#:=":
            self.assertEqual(lit(sign), [[0]])
            self.assertEqual(lit("..", "." + sign), [[15, 14], [15, 0]])
            self.assertEqual(lit(".", sign), [[0], [0]])
            self.assertEqual(lit(sign, "."), [[0], [15]])

    def test_what_is_clear_lets_the_sky_through(self):
        for sign in ".O*18":
            self.assertEqual(lit(".", sign), [[15], [15]])
            self.assertEqual(lit(".", ".", sign), [[15], [15], [15]])
            self.assertEqual(lit(".", sign, "."), [[15], [15], [15]])

    def test_all_cells_above_count(self):
        self.assertEqual(lit(".", ".", "#", "."), [[0], [0], [0], [15]])
        self.assertEqual(lit(".", "#", ".", "."), [[0], [0], [15], [15]])
        self.assertEqual(lit(".", "#", "O", "#"), [[0], [0], [0], [0]])

    def test_a_lamp(self):
        self.assertEqual(lit("*"), [[15]])
        self.assertEqual(lit("*", "O"), [[15], [15]])
        self.assertEqual(lit("*", "#"), [[14], [0]])
        self.assertEqual(lit("*", ".", "#"), [[14], [13], [0]])
        self.assertEqual(lit(".", "*", "#"), [[13], [14], [0]])
        self.assertEqual(lit(".*", ".#"), [[15, 14], [15, 0]])

    def test_glass_has_no_light_of_its_own(self):
        self.assertEqual(lit("O", "#"), [[0], [0]])


class Fading(unittest.TestCase):
    def test_one_less_each_step(self):
        self.assertEqual(lit("....", "###."), [[12, 13, 14, 15], [0, 0, 0, 15]])
        self.assertEqual(lit(".|.|.|.", "#|#|#|."), [[12, 13, 14, 15], [0, 0, 0, 15]])
        self.assertEqual(lit("..*..", "#####"), [[12, 13, 14, 13, 12], [0] * 5])
        self.assertEqual(lit("###|#.#|...", "###|#*#|...", "###|###|#.#")[:2],
                         [[0, 0, 0, 0, 14, 0, 14, 15, 14], [0, 0, 0, 0, 14, 0, 14, 15, 14]])

    def test_up_and_down(self):
        self.assertEqual(lit("*", ".", ".", "#"), [[14], [13], [12], [0]])
        self.assertEqual(lit(".", ".", "*", "#"), [[12], [13], [14], [0]])

    def test_down_to_nothing(self):
        told = run(WINDING, light(0), light(1))
        self.assertEqual(told[1:], [[0] + WINDING_LIGHT, [0, 15] + [0] * 35])

    def test_not_aslant(self):
        self.assertEqual(lit(".#|#.", ".#|##"), [[15, 0, 0, 0], [15, 0, 0, 0]])

    def test_through_what_is_clear_alone(self):
        for sign in ".O5":
            self.assertEqual(lit("." + sign + "*", "###"), [[12, 13, 14], [0] * 3])
        self.assertEqual(lit("..*.*", "#####"), [[12, 13, 14, 13, 14], [0] * 5])
        for sign in "#:=":
            self.assertEqual(lit("." + sign + "*", "###"), [[0, 0, 14], [0] * 3])

    def test_the_greatest_of_several(self):
        self.assertEqual(lit("*...........", "#" * 12), [list(range(14, 2, -1)), [0] * 12])
        self.assertEqual(lit("*....*", "######"), [[14, 13, 12, 12, 13, 14], [0] * 6])
        self.assertEqual(lit("*....", "####."), [[14, 13, 13, 14, 15], [0, 0, 0, 0, 15]])


class Changed(unittest.TestCase):
    def test_sand_that_falls(self):
        told = run(text("....", "#:##"), light(0), tick(1), light(0), light(1))
        self.assertEqual(told[1:], [[0, 0, 0, 0, 0], [0, 1, 1], [0, 0, 0, 0, 0], [0, 0, 15, 0, 0]])
        told = run(text("..", "..", "#:"), light(0), light(1), tick(1), light(0), light(1), light(2), settle(5),
                   light(0), light(1))
        self.assertEqual(told[1:3], [[0, 0, 0], [0, 0, 0]])
        self.assertEqual(told[4:7], [[0, 0, 0], [0, 0, 0], [0, 0, 15]])
        self.assertEqual(told[8:], [[0, 13, 0], [0, 14, 15]])

    def test_wood_that_falls(self):
        told = run(text("....", "O==O"), light(0), light(1), tick(1), light(0), light(1))
        self.assertEqual(told[1:3], [[0, 15, 14, 14, 15], [0, 15, 0, 0, 15]])
        self.assertEqual(told[4:], [[0, 15, 0, 0, 15], [0, 15, 15, 15, 15]])

    def test_a_lamp_put_and_taken(self):
        told = run(text(".....", "#####"), light(0), place(1, 0, 0, 3), light(0), place(1, 0, 0, 4), light(0),
                   place(4, 0, 0, 3), light(0), place(4, 0, 0, 1), light(0))
        self.assertEqual(told[1::2], [[0] + [0] * 5, [0, 13, 14, 13, 12, 11], [0] + [0] * 5,
                                      [0, 10, 11, 12, 13, 14], [0] + [0] * 5])

    def test_one_of_two_lamps_taken(self):
        told = run(text("*....*", "######"), place(0, 0, 0, 0), light(0), place(5, 0, 0, 0), light(0))
        self.assertEqual(told[2::2], [[0, 9, 10, 11, 12, 13, 14], [0] + [0] * 6])

    def test_something_solid_under_the_sky_put_and_taken(self):
        told = run(text("...", "..."), place(2, 0, 1, 1), light(0), place(1, 0, 1, 2), light(0), place(0, 0, 1, 5),
                   light(0), light(1), place(1, 0, 1, 4), light(0), place(1, 0, 1, 0), light(0), light(1))
        self.assertEqual(told[2], [0, 15, 15, 14])
        self.assertEqual(told[4], [0, 15, 14, 13])
        self.assertEqual(told[6:8], [[0, 0, 0, 0], [0, 0, 0, 0]])
        self.assertEqual(told[9], [0, 14, 15, 14])
        self.assertEqual(told[11:], [[0, 14, 15, 14], [0, 0, 15, 0]])

    def test_a_way_closed_and_opened(self):
        closed = run(WINDING, place(5, 0, 0, 1), light(0), place(5, 0, 0, 4), light(0))
        self.assertEqual(closed[2], [0, 15, 14, 13, 12, 11] + [0] * 31)
        self.assertEqual(closed[4], [0] + WINDING_LIGHT)

    def test_another_ground(self):
        told = run(text("..", "##"), light(0), text("*.", "##"), light(0), light(1), empty(3, 1, 1), light(0),
                   light(1), [0, 1, 46], light(0))
        self.assertEqual(told[1::2][:2], [[0, 0, 0], [0, 14, 13]])
        self.assertEqual(told[4:], [[0, 0, 0], [0], [0, 15, 15, 15], [-1], [1, 1], [0, 15, 15, 15]])

    def test_refused_changes(self):
        told = run(text("..*", "###"), place(0, 0, 2, 3), place(0, 0, 0, 6), tick(0), settle(0), empty(0, 1, 1),
                   pour(0, 0, 0, 9), drain(0, 0, 0, 1), light(0))
        self.assertEqual(told[-1], [0, 12, 13, 14])
        told = run(text("..", "..", "..", ":#"), settle(1), light(2))
        self.assertEqual(told[1:], [[-4], [0, 0, 0]])

    def test_water_makes_no_difference(self):
        told = run(text("..*", "###"), pour(0, 0, 0, 8), pour(1, 0, 0, 3), light(0), drain(0, 0, 0, 8), light(0))
        self.assertEqual(told[3::2], [[0, 12, 13, 14], [0, 12, 13, 14]])


class Cell(unittest.TestCase):
    def test_material_water_and_light(self):
        told = run(text(".#:*O=|7.....", "######|...###"), *[cell(x, 0, 0) for x in range(6)],
                   cell(0, 1, 0), cell(3, 1, 0), cell(2, 1, 1))
        self.assertEqual(told[1:], [[0, 0, 0, 14], [0, 1, 0, 0], [0, 2, 0, 0], [0, 3, 0, 14], [0, 4, 0, 13],
                                    [0, 5, 0, 0], [0, 0, 7, 15], [0, 0, 0, 14], [0, 0, 0, 15]])

    def test_every_amount_of_water(self):
        told = run(text(".12345678"), *[cell(x, 0, 0) for x in range(9)])
        self.assertEqual(told[1:], [[0, 0, water, 15] for water in range(9)])

    def test_the_corners(self):
        told = run(text("#.|..|..", "..|..|..", "..|..|..", "..|..|.*"), cell(0, 0, 0), cell(1, 2, 3))
        self.assertEqual(told[1:], [[0, 1, 0, 0], [0, 3, 0, 15]])
        told = run(empty(12, 10, 5), place(11, 9, 4, 5), pour(11, 9, 3, 4), cell(11, 9, 4), cell(11, 9, 3))
        self.assertEqual(told[3:], [[0, 5, 0, 0], [0, 0, 4, 14]])

    def test_refusals(self):
        for x, y, z in [(-1, 0, 0), (0, -1, 0), (0, 0, -1), (2, 0, 0), (0, 3, 0), (0, 0, 4), (FAR, 0, 0), (0, -FAR, 0)]:
            told = run(empty(2, 3, 4), cell(x, y, z), cell(1, 2, 3))
            self.assertEqual(told[1:], [[-1], [0, 0, 0, 15]], (x, y, z))
        self.assertEqual(run(cell(0, 0, 0)), [[-1]])


class Layer(unittest.TestCase):
    def test_cells_in_order(self):
        told = run(text("#.#|...|#.#|##.", "...|###|###|###"), light(0), light(1))
        self.assertEqual(told[1], [0, 0, 15, 0, 13, 14, 13, 0, 13, 0, 0, 0, 0])
        self.assertEqual(told[2], [0, 15, 15, 15] + [0] * 9)

    def test_sides_of_twelve(self):
        for sides in [(12, 1, 1), (1, 12, 1), (1, 1, 12), (12, 10, 5), (5, 12, 10)]:
            told = run(empty(*sides), light(sides[2] - 1), light(0), light(sides[2]))
            full = [0] + [15] * (sides[0] * sides[1])
            self.assertEqual(told[1:], [full, full, [-1]], sides)

    def test_refusals(self):
        for z in (-1, 2, 12, FAR, -FAR):
            told = run(text("..", "##"), light(z), light(0))
            self.assertEqual(told[1:], [[-1], [0, 0, 0]], z)
        for z in (0, -1, 1, FAR):
            self.assertEqual(run(light(z)), [[-1]])


class Trail(unittest.TestCase):
    def test_each_step_is_brighter(self):
        told = run(text("....", "###."), trail(0, 0, 0), trail(2, 0, 0), trail(3, 0, 0), trail(3, 0, 1))
        self.assertEqual(told[1:], [way((0, 0, 0), (1, 0, 0), (2, 0, 0), (3, 0, 0)), way((2, 0, 0), (3, 0, 0)),
                                    way((3, 0, 0)), way((3, 0, 1))])

    def test_the_longest_way(self):
        places = [(x, 0, 0) for x in range(12)] + [(11, 1, 0), (11, 2, 0), (10, 2, 0)]
        told = run(WINDING, trail(10, 2, 0), trail(9, 2, 0))
        self.assertEqual(told[1:], [way(*places[::-1]), [0, 0]])

    def test_without_light_there_is_none(self):
        told = run(text("..#:=", "#####"), *[trail(x, 0, 0) for x in range(5)], trail(0, 0, 1))
        self.assertEqual(told[1:], [[0, 0]] * 6)
        self.assertEqual(run(text("#:=O*."), trail(0, 0, 0), trail(1, 0, 0), trail(2, 0, 0))[1:], [[0, 0]] * 3)

    def test_own_light_is_the_end(self):
        self.assertEqual(run(text("*.", "##"), trail(0, 0, 0))[1], way((0, 0, 0)))
        self.assertEqual(run(text("*", "."), trail(0, 0, 0))[1], way((0, 0, 0)))
        # A lamp has 14 of its own, and as much comes from beside it.
        self.assertEqual(run(text(".*", ".#"), trail(1, 0, 0), cell(1, 0, 0))[1:], [way((1, 0, 0)), [0, 3, 0, 14]])

    def test_of_several_the_first_about_it(self):
        places = [(1, 1, 0), (0, 1, 1), (2, 1, 1), (1, 0, 1), (1, 2, 1), (1, 1, 2)]
        calls = [text("###|#*#|###", "#*#|*.*|#*#", "###|#*#|###", "###|###|###")]
        for x, y, z in places:
            calls += [trail(1, 1, 1), place(x, y, z, 1)]
        told = run(*calls, trail(1, 1, 1))
        self.assertEqual(told[1:-1:2], [way((1, 1, 1), lamp) for lamp in places])
        self.assertEqual(told[-1], [0, 0])

    def test_the_first_counts_at_each_step(self):
        told = run(text("###|#..|#.*", "###|###|###"), trail(1, 1, 0))
        self.assertEqual(told[1], way((1, 1, 0), (2, 1, 0), (2, 2, 0)))
        told = run(text("###|#.*|#..", "#*#|*#.|#*.", "###|###|###"), trail(2, 2, 1))
        self.assertEqual(told[1], way((2, 2, 1), (1, 2, 1)))
        told = run(text("*..", "...", "###"), trail(2, 0, 1))
        self.assertEqual(told[1], way((2, 0, 1), (2, 0, 0), (1, 0, 0), (0, 0, 0)))

    def test_the_sky_or_a_lamp_as_the_first_about_it_leads(self):
        told = run(text("...*", ".###"), trail(2, 0, 0), trail(1, 0, 0))
        self.assertEqual(told[1:], [way((2, 0, 0), (1, 0, 0), (0, 0, 0)), way((1, 0, 0), (0, 0, 0))])
        told = run(text("*...", "###."), trail(1, 0, 0), trail(2, 0, 0))
        self.assertEqual(told[1:], [way((1, 0, 0), (0, 0, 0)), way((2, 0, 0), (3, 0, 0))])
        told = run(text("#*#|..#|.##", "###|###|.##"), trail(1, 1, 0))
        self.assertEqual(told[1], way((1, 1, 0), (0, 1, 0), (0, 2, 0)))
        told = run(text("###|*.#|#.#|#.#", "###|###|###|#.#"), trail(1, 1, 0))
        self.assertEqual(told[1], way((1, 1, 0), (0, 1, 0)))

    def test_it_follows_what_is_changed(self):
        told = run(text("*....", "#####"), trail(2, 0, 0), place(4, 0, 0, 3), trail(2, 0, 0), place(0, 0, 0, 0),
                   trail(2, 0, 0), place(3, 0, 0, 1), trail(2, 0, 0))
        self.assertEqual(told[1::2], [way((2, 0, 0), (1, 0, 0), (0, 0, 0)), way((2, 0, 0), (1, 0, 0), (0, 0, 0)),
                                      way((2, 0, 0), (3, 0, 0), (4, 0, 0)), [0, 0]])

    def test_refusals(self):
        for x, y, z in [(-1, 0, 0), (0, -1, 0), (0, 0, -1), (2, 0, 0), (0, 3, 0), (0, 0, 4), (-FAR, 0, 0), (0, 0, FAR)]:
            told = run(empty(2, 3, 4), trail(x, y, z), trail(1, 2, 3))
            self.assertEqual(told[1:], [[-1], way((1, 2, 3))], (x, y, z))
        self.assertEqual(run(trail(0, 0, 0)), [[-1]])


class Dark(unittest.TestCase):
    def test_each_limit(self):
        told = run(WINDING, *[dark(most) for most in range(16)])
        lights = WINDING_LIGHT[:12] + WINDING_LIGHT[23:] + [15]
        for most in range(16):
            self.assertEqual(told[1 + most], [0, len([shine for shine in lights if shine <= most])])
        self.assertEqual(told[1], [0, 10])
        self.assertEqual(told[15:], [[0, 24], [0, 26]])

    def test_air_alone(self):
        self.assertEqual(run(text("#:*O=", "#####"), dark(0), dark(15))[1:], [[0, 0], [0, 0]])
        self.assertEqual(run(text(".*O", "###"), dark(13), dark(12))[1:], [[0, 1], [0, 0]])

    def test_water_is_in_air(self):
        self.assertEqual(run(text("8.1", "###"), dark(0), dark(15))[1:], [[0, 3], [0, 3]])

    def test_it_follows_what_is_changed(self):
        told = run(text("...", "#.#"), dark(14), place(1, 0, 1, 1), dark(0), place(1, 0, 0, 3), dark(12), dark(13))
        self.assertEqual([told[1], told[3], told[5], told[6]], [[0, 2], [0, 3], [0, 0], [0, 2]])

    def test_refusals(self):
        for most in (-1, 16, FAR, -FAR):
            told = run(text("."), dark(most), dark(15))
            self.assertEqual(told[1:], [[-2], [0, 1]], most)

    def test_without_cells(self):
        self.assertEqual(run(dark(0), dark(15), dark(16), dark(-1)), [[0, 0], [0, 0], [-2], [-2]])
