"""What holds on grounds of many kinds, and what a call of `answers` leaves alone."""

import unittest

from fallingground.desk import answers
from helper import PRINT, Model, drain, empty, place, pour, printed, random_layers, run, settle, text, tick

SEEDS = range(400)


def written(answer):
    """The layers of a print's answer."""
    return ["|".join(layer.split("\n")) for layer in "".join(map(chr, answer[1:])).split("\n\n")[:-1]]


def amounts(layers):
    """All water, how many cells of each material, and where stone, lamps and glass are."""
    signs = "/".join(layers)
    water = sum(int(sign) for sign in signs if sign.isdigit())
    stays = [(at, sign) for at, sign in enumerate(signs) if sign in "#*O"]
    air = len([sign for sign in signs if sign == "." or sign.isdigit()])
    return water, air, [signs.count(sign) for sign in "#:*O="], stays


class ManyGrounds(unittest.TestCase):
    def test_a_text_comes_back_byte_for_byte(self):
        for seed in SEEDS:
            layers = random_layers(seed)
            self.assertEqual(run(text(*layers), PRINT)[1], printed(*layers), seed)

    def test_ticks_go_by_the_words_of_the_document(self):
        for seed in SEEDS:
            layers = random_layers(seed)
            model = Model(layers)
            told = run(text(*layers), *[tick(1), PRINT] * 6)
            for made in range(1, 7):
                model.tick()
                self.assertEqual(told[2 * made], printed(*model.layers()), seed)
                self.assertEqual(told[2 * made - 1], [0, made, int(model.is_quiet())], seed)

    def test_ticks_keep_water_and_materials(self):
        for seed in SEEDS:
            layers = random_layers(seed)
            told = run(text(*layers), tick(1), PRINT, tick(2), PRINT, tick(17), PRINT, settle(200), PRINT)
            for at in (2, 4, 6, 8):
                self.assertEqual(amounts(written(told[at])), amounts(layers), seed)

    def test_every_ground_comes_to_rest(self):
        for seed in SEEDS:
            told = run(text(*random_layers(seed)), *[tick(50)] * 38, settle(1), PRINT)
            self.assertEqual(told[-3], [0, 1900, 1], seed)
            self.assertEqual(told[-2], [0, 0], seed)
            self.check_rest(written(told[-1]))

    def check_rest(self, layers):
        model = Model(layers)
        held = model.held()
        for (x, y, z), (material, water) in model.cells.items():
            below = model.cells.get((x, y, z - 1), (1, 0))
            if material == 2 or (material == 5 and (x, y, z) not in held):
                self.assertNotEqual(below[0], 0)
            if water > 0:
                self.assertFalse(below[0] == 0 and below[1] < 8)
                for near in model.beside((x, y, z)):
                    self.assertFalse(model.cells[near][0] == 0 and model.cells[near][1] + 2 <= water)

    def test_settle_needs_as_many_ticks_as_change_something(self):
        for seed in SEEDS:
            layers = random_layers(seed)
            model = Model(layers)
            needed = 0
            while not model.is_quiet() and needed < 30:
                model.tick()
                needed += 1
            if 0 < needed < 30:
                told = run(text(*layers), settle(needed - 1), PRINT, settle(needed), PRINT, tick(1))
                refused = [-4] if needed > 1 else [-2]
                self.assertEqual(told[1:3], [refused, printed(*layers)], seed)
                self.assertEqual(told[3:], [[0, needed], printed(*model.layers()), [0, needed + 1, 1]], seed)


class Answers(unittest.TestCase):
    CALLS = [text("..8|.:.", "=..|..#"), tick(2), PRINT, place(0, 0, 0, 9), pour(9, 0, 0, 1), drain(0, 0, 1, 1),
             settle(200), PRINT, empty(1, 1, 1), pour(0, 0, 0, 4), PRINT]

    def flat(self):
        return [number for call in self.CALLS for number in call]

    def test_the_list_handed_in_stays_as_it_was(self):
        calls = self.flat()
        answers(calls)
        self.assertEqual(calls, self.flat())

    def test_the_same_calls_are_answered_the_same(self):
        calls = self.flat()
        first = answers(calls)
        answers(text("8#") + tick(3))
        second = answers(calls)
        self.assertEqual(first, second)
        self.assertIsNot(first, second)
        self.assertEqual(answers(PRINT + tick(1)), [1, 0, 3, 0, 1, 1])

    def test_what_was_answered_is_not_kept(self):
        first = answers(text("8..") + PRINT)
        kept = list(first)
        first.clear()
        self.assertEqual(answers(text("8..") + PRINT), kept)

    def test_the_form_of_the_answers(self):
        calls = text(".8") + PRINT + empty(0, 1, 1) + [0, 0] + tick(1) + empty(1, 1, 1)
        self.assertEqual(answers(calls), [4, 0, 2, 1, 1, 5, 0, 46, 56, 10, 10, 1, -2, 2, 1, 1, 3, 0, 1, 0, 1, 0])

    def test_all_are_plain_whole_numbers(self):
        told = answers(self.flat())
        self.assertIs(type(told), list)
        self.assertEqual({type(number) for number in told}, {int})

    def test_as_many_calls_as_a_line_has(self):
        told = run(text("8..", ":=."), *[settle(200)] * 39, *[PRINT] * 160)
        self.assertEqual(len(told), 200)
        self.assertEqual(told[40], told[-1])
