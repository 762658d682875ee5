"""What holds on grounds of many kinds, and what a call of `answers` leaves alone."""

import unittest

from fallingground.desk import answers
from helper import (COUNT, HELD, PRINT, Model, cell, dark, deep, drain, empty, light, place, pour, printed,
                    random_layers, run, settle, text, tick, trail)

SEEDS = range(400)


def written(answer):
    """The layers of a print's answer."""
    return ["|".join(layer.split("\n")) for layer in "".join(map(chr, answer[1:])).split("\n\n")[:-1]]


def amounts(layers):
    """All water, how many cells of each material, and where stone, lamps and glass are."""
    signs = "/".join(layers)
    water = sum(int(sign) for sign in signs if sign.isdigit())
    stays = [(at, sign) for at, sign in enumerate(signs) if sign in "#*O"]
    air = len([sign for sign in signs if sign == "." or sign.isdigit()])
    return water, air, [signs.count(sign) for sign in "#:*O="], stays


def steps_between(model, source, target):
    """How many steps from cell to cell a shortest way through clear cells has; None if there is no way."""
    far = {source: 0}
    newest = [source]
    while newest:
        reached = {near for place in newest for near in model.about(place) if model.is_clear(near) and near not in far}
        far.update((place, far[newest[0]] + 1) for place in reached)
        newest = list(reached)
    return far.get(target)


class ManyGrounds(unittest.TestCase):
    def test_a_text_comes_back_byte_for_byte(self):
        for seed in SEEDS:
            layers = random_layers(seed)
            self.assertEqual(run(text(*layers), PRINT)[1], printed(*layers), seed)

    def test_ticks_go_by_the_words_of_the_document(self):
        for seed in SEEDS:
            layers = random_layers(seed)
            model = Model(layers)
            told = run(text(*layers), *[tick(1), PRINT] * 6)
            for made in range(1, 7):
                model.tick()
                self.assertEqual(told[2 * made], printed(*model.layers()), seed)
                self.assertEqual(told[2 * made - 1], [0, made, int(model.is_quiet())], seed)

    def test_ticks_keep_water_and_materials(self):
        for seed in SEEDS:
            layers = random_layers(seed)
            told = run(text(*layers), tick(1), PRINT, tick(2), PRINT, tick(17), PRINT, settle(200), PRINT)
            for at in (2, 4, 6, 8):
                self.assertEqual(amounts(written(told[at])), amounts(layers), seed)

    def test_ticks_keep_what_is_counted(self):
        for seed in SEEDS:
            told = run(text(*random_layers(seed)), COUNT, tick(1), COUNT, tick(7), COUNT, tick(50), COUNT)
            self.assertEqual([answer[1] for answer in told[1::2]], [0, 1, 8, 58], seed)
            self.assertEqual([answer[2:] for answer in told[3::2]], [told[1][2:]] * 3, seed)

    def test_light_is_what_it_would_be_worked_out_from_nothing(self):
        for seed in SEEDS:
            model = Model(random_layers(seed))
            lights = [light(z) for z in range(len(model.layers()))]
            x, y, z = model.order[seed % len(model.order)]
            changes = [tick(1), place(x, y, z, 1), place(x, y, z, 3), tick(1), place(x, y, z, 0), settle(200)]
            asked = [call for change in changes for call in [change, PRINT] + lights]
            told = run(text(*model.layers()), *lights, *asked)
            self.check_light(model, told[1:1 + len(lights)], seed)
            for at in range(1 + len(lights), len(told), 2 + len(lights)):
                now = Model(written(told[at + 1]))
                self.check_light(now, told[at + 2:at + 2 + len(lights)], seed)

    def check_light(self, model, told, seed):
        light_of = model.light()
        due = [light_of[place] for place in model.order]
        self.assertEqual([shine for answer in told for shine in answer[1:]], due, seed)

    def test_a_trail_is_a_shortest_way_of_light(self):
        for seed in SEEDS:
            layers = random_layers(seed)
            model = Model(layers)
            light_of = model.light()
            places = model.order[::1 + len(model.order) // 15]
            told = run(text(*layers), *[trail(*place) for place in places])
            for place, answer in zip(places, told[1:]):
                way = list(zip(answer[2::3], answer[3::3], answer[4::3]))
                self.assertEqual(answer[:2], [0, len(way)])
                self.assertEqual(way, model.trail(place, light_of), (seed, place))
                if light_of[place] > 0:
                    self.assertEqual(way[0], place)
                    self.assertEqual(light_of[way[-1]], model.own_light(way[-1]))
                    self.assertEqual(light_of[way[-1]] - light_of[place], len(way) - 1)
                    self.assertEqual(steps_between(model, place, way[-1]), len(way) - 1)

    def test_every_ground_comes_to_rest(self):
        for seed in SEEDS:
            told = run(text(*random_layers(seed)), *[tick(50)] * 38, settle(1), PRINT, HELD)
            self.assertEqual(told[-4], [0, 1900, 1], seed)
            self.assertEqual(told[-3], [0, 0], seed)
            self.check_rest(written(told[-2]), told[-1])

    def check_rest(self, layers, told):
        model = Model(layers)
        held = model.held()
        loose = [place for place in model.order if model.cells[place][0] == 5 and place not in held]
        self.assertEqual(told, [0, len(loose)] + [number for place in loose for number in place])
        for (x, y, z), (material, water) in model.cells.items():
            below = model.cells.get((x, y, z - 1), (1, 0))
            if material == 2 or (material == 5 and (x, y, z) not in held):
                self.assertNotEqual(below[0], 0)
            if water > 0:
                self.assertFalse(below[0] == 0 and below[1] < 8)
                for near in model.beside((x, y, z)):
                    self.assertFalse(model.cells[near][0] == 0 and model.cells[near][1] + 2 <= water)

    def test_settle_needs_as_many_ticks_as_change_something(self):
        for seed in SEEDS:
            layers = random_layers(seed)
            model = Model(layers)
            needed = 0
            while not model.is_quiet() and needed < 30:
                model.tick()
                needed += 1
            if 0 < needed < 30:
                told = run(text(*layers), settle(needed - 1), PRINT, settle(needed), PRINT, tick(1))
                refused = [-4] if needed > 1 else [-2]
                self.assertEqual(told[1:3], [refused, printed(*layers)], seed)
                self.assertEqual(told[3:], [[0, needed], printed(*model.layers()), [0, needed + 1, 1]], seed)


class Answers(unittest.TestCase):
    CALLS = [text("..8|.:.", "=..|..#"), tick(2), PRINT, place(0, 0, 0, 9), pour(9, 0, 0, 1), drain(0, 0, 1, 1),
             cell(1, 1, 1), light(0), trail(1, 0, 0), COUNT, HELD, dark(14), deep(0, 0), light(2), dark(-1),
             settle(200), PRINT, empty(1, 1, 1), pour(0, 0, 0, 4), PRINT]

    def flat(self):
        return [number for call in self.CALLS for number in call]

    def test_the_list_handed_in_stays_as_it_was(self):
        calls = self.flat()
        answers(calls)
        self.assertEqual(calls, self.flat())

    def test_the_same_calls_are_answered_the_same(self):
        calls = self.flat()
        first = answers(calls)
        answers(text("8#") + tick(3))
        second = answers(calls)
        self.assertEqual(first, second)
        self.assertIsNot(first, second)
        self.assertEqual(answers(PRINT + tick(1)), [1, 0, 3, 0, 1, 1])

    def test_what_was_answered_is_not_kept(self):
        first = answers(text("8..") + PRINT)
        kept = list(first)
        first.clear()
        self.assertEqual(answers(text("8..") + PRINT), kept)

    def test_the_form_of_the_answers(self):
        calls = text(".8") + PRINT + empty(0, 1, 1) + [0, 0] + tick(1) + empty(1, 1, 1)
        self.assertEqual(answers(calls), [4, 0, 2, 1, 1, 5, 0, 46, 56, 10, 10, 1, -2, 2, 1, 1, 3, 0, 1, 0, 1, 0])
        calls = text("=8", ".=") + cell(1, 0, 0) + light(0) + trail(0, 0, 1) + COUNT + HELD
        calls += dark(3) + deep(1, 0) + deep(2, 0)
        self.assertEqual(answers(calls), [4, 0, 2, 1, 2, 4, 0, 0, 8, 0, 3, 0, 0, 0, 5, 0, 1, 0, 0, 1,
                                          9, 0, 0, 8, 2, 0, 0, 0, 0, 2, 5, 0, 1, 1, 0, 1, 2, 0, 1, 3, 0, 8, 0, 1, -1])

    def test_all_are_plain_whole_numbers(self):
        told = answers(self.flat())
        self.assertIs(type(told), list)
        self.assertEqual({type(number) for number in told}, {int})

    def test_as_many_calls_as_a_line_has(self):
        told = run(text("8..", ":=."), *[settle(200)] * 39, *[PRINT] * 160)
        self.assertEqual(len(told), 200)
        self.assertEqual(told[40], told[-1])
