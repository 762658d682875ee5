"""Whole lines of calls, each answer worked out a second time by the words of the document."""

import random
import unittest

from fallingground.desk import answers
from helper import (COUNT, HELD, PRINT, Model, cell, dark, deep, drain, empty, light, octets, place, pour,
                    random_layers, run, settle, text, tick, trail)

FAR = 1000000000


class Twin:
    """The answers that are due, by a model of the ground; a call of text is told by its layers alone."""

    def __init__(self):
        self.model = Model([])
        self.sides = [0, 0, 0]
        self.ticks = 0
        self.light = {}

    def begin(self, layers):
        self.model = Model(layers)
        self.sides = [len(layers[0].split("|")[0]), len(layers[0].split("|")), len(layers)]
        self.ticks = 0
        self.light = self.model.light()

    def is_in(self, place):
        return place in self.model.cells

    def text(self, *layers):
        self.begin(layers)
        return [0] + self.sides

    def empty(self, x, y, z):
        if min(x, y, z) < 1 or max(x, y, z) > 12 or x * y * z > 600:
            return [-2]
        self.begin(["|".join(["." * x] * y)] * z)
        return [0]

    def print(self):
        return [0] + octets(*self.model.layers())

    def place(self, x, y, z, m):
        if not self.is_in((x, y, z)):
            return [-1]
        if m not in range(6):
            return [-2]
        self.model.cells[x, y, z] = (m, 0 if m > 0 else self.model.cells[x, y, z][1])
        self.light = self.model.light()
        return [0]

    def pour(self, x, y, z, n):
        if not self.is_in((x, y, z)):
            return [-1]
        material, water = self.model.cells[x, y, z]
        if material > 0 or n < 1 or water + n > 8:
            return [-3]
        self.model.cells[x, y, z] = (0, water + n)
        return [0, water + n]

    def drain(self, x, y, z, n):
        if not self.is_in((x, y, z)):
            return [-1]
        material, water = self.model.cells[x, y, z]
        if n < 1 or n > water:
            return [-3]
        self.model.cells[x, y, z] = (0, water - n)
        return [0, water - n]

    def tick(self, n):
        if n not in range(1, 51):
            return [-2]
        for made in range(n):
            self.model.tick()
        self.ticks += n
        self.light = self.model.light()
        return [0, self.ticks, int(self.model.is_quiet())]

    def settle(self, n):
        if n not in range(1, 201):
            return [-2]
        kept = dict(self.model.cells)
        made = 0
        while made < n and not self.model.is_quiet():
            self.model.tick()
            made += 1
        if not self.model.is_quiet():
            self.model.cells = kept
            return [-4]
        self.ticks += made
        self.light = self.model.light()
        return [0, made]

    def cell(self, x, y, z):
        if not self.is_in((x, y, z)):
            return [-1]
        return [0, *self.model.cells[x, y, z], self.light[x, y, z]]

    def layer(self, z):
        if z not in range(self.sides[2]):
            return [-1]
        return [0] + [self.light[place] for place in self.model.order if place[2] == z]

    def trail(self, x, y, z):
        if not self.is_in((x, y, z)):
            return [-1]
        way = self.model.trail((x, y, z), self.light)
        return [0, len(way)] + [number for place in way for number in place]

    def count(self):
        materials = [material for material, water in self.model.cells.values()]
        water = sum(water for material, water in self.model.cells.values())
        return [0, self.ticks, water] + [materials.count(material) for material in range(6)]

    def held(self):
        held = self.model.held()
        loose = [place for place in self.model.order if self.model.cells[place][0] == 5 and place not in held]
        return [0, len(loose)] + [number for place in loose for number in place]

    def dark(self, n):
        if n not in range(16):
            return [-2]
        air = [place for place in self.model.order if self.model.cells[place][0] == 0]
        return [0, len([place for place in air if self.light[place] <= n])]

    def deep(self, x, y):
        if not self.is_in((x, y, 0)):
            return [-1]
        return [0] + [self.model.cells[x, y, z][1] for z in range(self.sides[2])]

    def answer(self, call):
        """What is due for a call other than text."""
        asked = [None, self.empty, self.print, self.place, self.pour, self.drain, self.tick, self.settle, self.cell,
                 self.layer, self.trail, self.count, self.held, self.dark, self.deep]
        return asked[call[0]](*call[1:])


def near(chance, most):
    """A number from 0 to this one; seldom one that is outside, by one or by far."""
    if chance.randrange(25) == 0:
        return chance.choice([-1, most + 1, FAR, -FAR])
    return chance.randint(0, max(most, 0))


def spot(chance, sides):
    return [near(chance, side - 1) for side in sides]


def random_change(chance, sides):
    kind = chance.randrange(12)
    if kind == 0:
        return empty(*[near(chance, 12) for side in range(3)])
    if kind < 8:
        return place(*spot(chance, sides), near(chance, 5))
    if kind < 11:
        return tick(chance.choice([0, 1, 1, 2, 3, 5, 51]))
    return settle(chance.choice([0, 3, 40, 200, 201]))


def random_other(chance, sides):
    kind = chance.randrange(12)
    if kind < 2:
        return pour(*spot(chance, sides), near(chance, 8))
    if kind == 2:
        return drain(*spot(chance, sides), near(chance, 4))
    asked = [PRINT, cell(*spot(chance, sides)), light(near(chance, sides[2] - 1)), trail(*spot(chance, sides)), COUNT,
             HELD, dark(near(chance, 15)), deep(*spot(chance, sides[:2])), trail(*spot(chance, sides))]
    return asked[kind - 3]


class RandomLines(unittest.TestCase):
    def test_each_answer_is_what_is_due(self):
        for seed in range(150):
            chance = random.Random(seed)
            twin = Twin()
            calls = []
            due = []
            for number in range(60):
                if number == 3 or chance.randrange(40) == 0:
                    layers = random_layers(chance.random())
                    calls.append(text(*layers))
                    due.append(twin.text(*layers))
                else:
                    calls.append(chance.choice([random_change, random_other, random_other])(chance, twin.sides))
                    due.append(twin.answer(calls[-1]))
            for number, told in enumerate(run(*calls)):
                self.assertEqual(told, due[number], (seed, number, calls[number]))


def large_layers(chance, signs):
    """A ground of 600 cells with these signs, the more often a sign stands among them the more of it."""
    sides = chance.choice([(12, 10, 5), (10, 12, 5), (5, 12, 10), (12, 5, 10)])
    rows = ["".join(chance.choices(signs, k=sides[0])) for row in range(sides[1] * sides[2])]
    return ["|".join(rows[layer * sides[1]:layer * sides[1] + sides[1]]) for layer in range(sides[2])]


class LongestLines(unittest.TestCase):
    def check(self, calls, layers_of_calls):
        """Ask all calls at once; the text at a place of the line is told by its layers."""
        self.assertEqual(len(calls), 200)
        self.assertEqual(len([call for call in calls if call[0] in (0, 1, 3, 6, 7)]), 40)
        line = [number for call in calls for number in call]
        self.assertLessEqual(len(line), 30000)
        told = run(*calls)
        twin = Twin()
        for number, call in enumerate(calls):
            due = twin.text(*layers_of_calls[number]) if call[0] == 0 else twin.answer(call)
            self.assertEqual(told[number], due, (number, call))
        self.assertLess(len(answers(line)), 1000000)

    def asked(self, chance, sides):
        spots = [[chance.randrange(side) for side in sides] for question in range(2)]
        return [light(chance.randrange(sides[2])), trail(*spots[0]), dark(chance.randrange(16)),
                chance.choice([cell(*spots[1]), trail(*spots[1]), COUNT, HELD, deep(*spots[1][:2])])]

    def test_texts(self):
        chance = random.Random(1)
        calls = []
        layers_of_calls = {}
        for number in range(40):
            layers = large_layers(chance, ".....8#:*O=="[:chance.randint(6, 12)])
            layers_of_calls[len(calls)] = layers
            calls.append(text(*layers))
            calls += self.asked(chance, run(calls[-1])[0][1:])
        self.check(calls, layers_of_calls)

    def test_changes_of_one_ground(self):
        for seed in range(3):
            chance = random.Random(seed)
            layers = large_layers(chance, "......8#:*O=="[:chance.randint(7, 13)])
            calls = [text(*layers)]
            sides = run(calls[0])[0][1:]
            calls += self.asked(chance, sides)
            while len(calls) < 200:
                spot = [chance.randrange(side) for side in sides]
                calls.append(chance.choice([place(*spot, chance.randrange(6)), place(*spot, chance.choice([0, 3])),
                                            tick(1), tick(2), settle(chance.choice([1, 30, 200]))]))
                calls += self.asked(chance, sides)
            self.check(calls, {0: layers})

    def test_grounds_of_air(self):
        chance = random.Random(5)
        calls = []
        some = [(12, 10, 5), (12, 5, 10), (5, 10, 12), (1, 1, 1), (12, 1, 1), (1, 12, 1), (1, 1, 12)]
        while len(calls) < 200:
            sides = chance.choice(some)
            calls.append(empty(*sides))
            calls += self.asked(chance, sides)
        self.check(calls, {})

    def test_settling_that_takes_too_long(self):
        full = "|".join(["8" * 12] * 10)
        floor = "|".join(["." + "#" * 11] + ["#" * 12] * 9)
        low = "|".join(["." * 12] * 10)
        layers = [low, low, floor, full, full]
        calls = [text(*layers)] + [settle(200)] * 39 + [PRINT] * 80 + [COUNT] * 80
        told = run(*calls)
        self.assertEqual(told[1:40], [[-4]] * 39)
        self.assertEqual(told[40:120], [[0] + octets(*layers)] * 80)
        self.assertEqual(told[120:], [[0, 0, 1920, 481, 119, 0, 0, 0, 0]] * 80)


class Ranges(unittest.TestCase):
    def test_each_number_at_its_ends(self):
        start = text("..|..|..", "..|..|..")
        for number in (-FAR, -2, -1, 0, 1, 2, 3, 5, 6, 7, 8, 9, 11, 12, 13, 15, 16, 49, 50, 51, 199, 200, 201, FAR):
            asked = [place(number, 0, 0, 1), place(0, number, 0, 1), place(0, 0, number, 1), place(1, 2, 1, number),
                     pour(number, 0, 0, 1), pour(0, 0, number, 1), pour(0, 1, 0, number), drain(0, number, 0, 1),
                     drain(0, 1, 0, number), cell(number, 0, 0), cell(0, number, 0), cell(0, 0, number),
                     light(number), trail(number, 0, 0), trail(0, number, 0), trail(0, 0, number), dark(number),
                     deep(number, 0), deep(0, number), tick(number), settle(number), empty(number, 1, 1),
                     empty(1, number, 1), empty(1, 1, number), COUNT, HELD, PRINT]
            twin = Twin()
            due = [twin.text("..|..|..", "..|..|..")] + [twin.answer(call) for call in asked]
            self.assertEqual(run(start, *asked), due, number)
