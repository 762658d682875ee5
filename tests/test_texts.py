"""The calls text, empty and print."""

import itertools
import unittest

from helper import PRINT, empty, octets, place, pour, printed, raw, run, text, tick


class Reading(unittest.TestCase):
    def test_sides_come_in_the_order_x_y_z(self):
        self.assertEqual(run(text("..|..|..", "..|..|..", "..|..|..", "..|..|.."))[0], [0, 2, 3, 4])
        self.assertEqual(run(text("."))[0], [0, 1, 1, 1])

    def test_all_signs_come_back_byte_for_byte(self):
        for layers in [(".#:*O=",), ("12345678",), (".",), ("8|.|#", "=|O|*"), ("..|#1", ":8|=*", "O2|3.")]:
            told = run(text(*layers), PRINT)
            self.assertEqual(told[1], printed(*layers))

    def test_largest_grounds(self):
        layer = "|".join(["." * 12] * 10)
        told = run(text(*[layer] * 5), PRINT)
        self.assertEqual(told[0], [0, 12, 10, 5])
        self.assertEqual(told[1], printed(*[layer] * 5))
        self.assertEqual(run(text(*["."] * 12))[0], [0, 1, 1, 12])
        self.assertEqual(run(text("|".join(["."] * 12)))[0], [0, 1, 12, 1])

    def test_a_sign_is_in_its_place(self):
        told = run(empty(3, 2, 2), place(2, 0, 0, 1), place(0, 1, 1, 2), pour(1, 1, 0, 5), PRINT)
        self.assertEqual(told[-1], printed("..#|.5.", "...|:.."))
        told = run(text("..#|.5.", "...|:.."), pour(1, 1, 0, 1), pour(2, 0, 0, 1), PRINT)
        self.assertEqual(told[1:], [[0, 6], [-3], printed("..#|.6.", "...|:..")])

    def test_a_text_takes_the_place_of_a_ground_and_its_ticks(self):
        told = run(text("8.."), tick(3), text("#"), PRINT, tick(1))
        self.assertEqual(told[3:], [printed("#"), [0, 1, 1]])


class Wrong(unittest.TestCase):
    def why(self, written):
        return run(raw(written))[0]

    def test_form(self):
        bad = ["", "\n", "\n\n", ".", ".\n", ".\n\n.", ".\n\n.\n", ".\n\n\n", "\n.\n\n", ".\n\n\n.\n\n",
               ".\n.\n\n.\n\n", ".\n\n.\n.\n\n", "..\n.\n\n", ".\n..\n\n", ".\n\n..\n\n", "..\n\n.\n\n"]
        for written in bad:
            self.assertEqual(self.why(written), [1, 1], written)

    def test_size(self):
        self.assertEqual(self.why("." * 13 + "\n\n"), [1, 2])
        self.assertEqual(self.why(".\n" * 13 + "\n"), [1, 2])
        self.assertEqual(self.why(".\n\n" * 13), [1, 2])
        self.assertEqual(self.why((("." * 12 + "\n") * 10 + "\n") * 5), [0, 12, 10, 5])
        self.assertEqual(self.why((("." * 11 + "\n") * 11 + "\n") * 5), [1, 2])
        self.assertEqual(self.why((("." * 12 + "\n") * 12 + "\n") * 5), [1, 2])

    def test_signs(self):
        good = ".#:*O=12345678"
        for octet in range(256):
            if octet != 10:
                told = run([0, 5, 46, octet, 46, 10, 10])[0]
                self.assertEqual(told, [0, 3, 1, 1] if chr(octet) in good else [1, 3], octet)

    def test_the_first_of_two_wrongs_is_told(self):
        self.assertEqual(self.why("." * 13 + "\n"), [1, 1])
        self.assertEqual(self.why("." * 13 + "\n.\n\n"), [1, 1])
        self.assertEqual(self.why("?"), [1, 1])
        self.assertEqual(self.why("?.\n.\n\n"), [1, 1])
        self.assertEqual(self.why("?" * 13 + "\n\n"), [1, 2])
        self.assertEqual(self.why("?" * 13 + "\n"), [1, 1])

    def test_a_wrong_text_changes_nothing(self):
        for written in ["", "." * 13 + "\n\n", "9\n\n"]:
            told = run(text("8.."), tick(2), raw(written), PRINT, tick(1))
            self.assertEqual(told[3], printed("611"))
            self.assertEqual(told[4], [0, 3, 0])


class Empty(unittest.TestCase):
    def test_air_without_water(self):
        told = run(empty(3, 2, 2), PRINT)
        self.assertEqual(told, [[0], printed("...|...", "...|...")])
        for x, y, z in itertools.permutations((1, 3, 4)):
            told = run(empty(x, y, z), tick(1), PRINT)
            self.assertEqual(told, [[0], [0, 1, 1], printed(*["|".join(["." * x] * y)] * z)])

    def test_it_takes_the_place_of_a_ground_and_its_ticks(self):
        told = run(text("8#"), tick(3), empty(2, 1, 1), PRINT, tick(1))
        self.assertEqual(told[2:], [[0], printed(".."), [0, 1, 1]])

    def test_ranges(self):
        for sides in [(1, 1, 1), (12, 10, 5), (5, 12, 10), (12, 1, 1), (1, 12, 1), (1, 1, 12), (12, 5, 10)]:
            self.assertEqual(run(empty(*sides))[0], [0], sides)
        wrong = [(0, 1, 1), (1, 0, 1), (1, 1, 0), (13, 1, 1), (1, 13, 1), (1, 1, 13), (-1, -1, 1), (12, 12, 5),
                 (11, 11, 5), (12, 12, 12), (1000000000, 1, 1), (-1000000000, 1, 1), (0, 13, 1), (1, 1, 601)]
        for sides in wrong:
            self.assertEqual(run(empty(*sides))[0], [-2], sides)

    def test_a_refusal_changes_nothing(self):
        told = run(text("8.."), tick(2), empty(12, 12, 5), PRINT, tick(1))
        self.assertEqual(told[2:], [[-2], printed("611"), [0, 3, 0]])


class Print(unittest.TestCase):
    def test_a_ground_without_cells_has_no_text(self):
        self.assertEqual(run(PRINT), [[0]])
        self.assertEqual(run(raw("?"), empty(0, 0, 0), PRINT), [[1, 1], [-2], [0]])

    def test_it_changes_nothing(self):
        told = run(text("8..", ".:."), PRINT, PRINT)
        self.assertEqual(told[1], told[2])
        self.assertEqual(told[1], [0] + octets("8..", ".:."))
