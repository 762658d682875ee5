"""What the tests share: calls by name, answers split, and a second working out of ticks and light."""

import random

from fallingground.desk import answers

SIGNS = ".#:*O="


def octets(*layers):
    """The bytes of a ground: an argument a layer from below, its rows parted by |."""
    return [ord(sign) for layer in layers for sign in layer.replace("|", "\n") + "\n\n"]


def raw(written):
    """The call text with these very signs."""
    return [0, len(written)] + [ord(sign) for sign in written]


def text(*layers):
    signs = octets(*layers)
    return [0, len(signs)] + signs


def empty(x, y, z):
    return [1, x, y, z]


PRINT = [2]


def place(x, y, z, m):
    return [3, x, y, z, m]


def pour(x, y, z, n):
    return [4, x, y, z, n]


def drain(x, y, z, n):
    return [5, x, y, z, n]


def tick(n):
    return [6, n]


def settle(n):
    return [7, n]


def cell(x, y, z):
    return [8, x, y, z]


def light(z):
    return [9, z]


def trail(x, y, z):
    return [10, x, y, z]


COUNT = [11]
HELD = [12]


def dark(n):
    return [13, n]


def deep(x, y):
    return [14, x, y]


def run(*calls):
    """One answer, a list, for each of the calls."""
    told = answers([number for call in calls for number in call])
    split = []
    at = 0
    while at < len(told):
        split.append(told[at + 1:at + 1 + told[at]])
        at += 1 + told[at]
    assert at == len(told) and len(split) == len(calls), told
    return split


def printed(*layers):
    """The answer of print for a ground."""
    return [0] + octets(*layers)


def behind(ticks, *layers):
    """The answer of print for this ground behind so many ticks."""
    return run(text(*layers), tick(ticks), PRINT)[-1]


def random_sides(chance):
    while True:
        sides = [chance.choice([1, 2, 3, 4, 5, 6, 8, 12]) for side in range(3)]
        if sides[0] * sides[1] * sides[2] <= 600:
            return sides


def random_layers(seed):
    """A ground of some kind: which signs it has, and how many of each, differs from seed to seed."""
    chance = random.Random(seed)
    x, y, z = random_sides(chance)
    kinds = chance.sample("#:*O=", chance.randint(1, 5)) + chance.sample("12345678", chance.randint(0, 8))
    weights = [chance.randint(1, 6) for kind in kinds]
    air = chance.randint(1, 40)
    rows = ["".join(chance.choices(["."] + kinds, [air] + weights, k=x)) for row in range(y * z)]
    return ["|".join(rows[layer * y:layer * y + y]) for layer in range(z)]


class Model:
    """A ground as a dict of places, gone through by the words of the document one after the other."""

    def __init__(self, layers):
        self.cells = {}
        for z, layer in enumerate(layers):
            for y, row in enumerate(layer.split("|")):
                for x, sign in enumerate(row):
                    wet = sign.isdigit()
                    self.cells[x, y, z] = (0, int(sign)) if wet else (SIGNS.index(sign), 0)
        self.order = sorted(self.cells, key=lambda place: place[::-1])

    def layers(self):
        layers = {}
        for x, y, z in self.order:
            material, water = self.cells[x, y, z]
            layers.setdefault(z, {}).setdefault(y, []).append(str(water) if water else SIGNS[material])
        return ["|".join("".join(row) for row in rows.values()) for rows in layers.values()]

    def beside(self, place):
        x, y, z = place
        found = [(x - 1, y, z), (x + 1, y, z), (x, y - 1, z), (x, y + 1, z)]
        return [near for near in found if near in self.cells]

    def about(self, place):
        x, y, z = place
        found = [(x, y, z - 1)] + self.beside(place) + [(x, y, z + 1)]
        return [near for near in found if near in self.cells]

    def held(self):
        wood = [place for place in self.order if self.cells[place][0] == 5]
        far = {}
        for x, y, z in wood:
            under = self.cells.get((x, y, z - 1), (1, 0))[0]
            if under in (1, 2, 3, 4) or any(self.cells[near][0] == 1 for near in self.beside((x, y, z))):
                far[x, y, z] = 0
        for steps in range(1, 5):
            for x, y, z in wood:
                if (x, y, z) not in far and any(far.get(near) == steps - 1 for near in self.about((x, y, z))):
                    far[x, y, z] = steps
        return far

    def tick(self):
        held = self.held()
        loose = [p for p in self.order
                 if self.cells[p][0] == 2 or (self.cells[p][0] == 5 and p not in held)]
        for x, y, z in loose:
            under = (x, y, z - 1)
            if self.cells.get(under, (1, 0))[0] == 0:
                self.cells[x, y, z], self.cells[under] = self.cells[under], self.cells[x, y, z]
        for x, y, z in self.order:
            if self.cells[x, y, z][0] == 0:
                under = (x, y, z - 1)
                if self.cells.get(under, (1, 0))[0] == 0:
                    self.move((x, y, z), under, min(self.cells[x, y, z][1], 8 - self.cells[under][1]))
                open_cells = [p for p in self.beside((x, y, z)) if self.cells[p][0] == 0]
                if open_cells:
                    least = min(open_cells, key=lambda p: self.cells[p][1])
                    if self.cells[least][1] <= self.cells[x, y, z][1] - 2:
                        self.move((x, y, z), least, 1)

    def move(self, source, target, parts):
        self.cells[source] = (0, self.cells[source][1] - parts)
        self.cells[target] = (0, self.cells[target][1] + parts)

    def is_quiet(self):
        kept = dict(self.cells)
        self.tick()
        quiet = self.cells == kept
        self.cells = kept
        return quiet

    def is_clear(self, place):
        return self.cells[place][0] in (0, 3, 4)

    def own_light(self, place):
        x, y, z = place
        if not self.is_clear(place):
            return 0
        if all(self.is_clear((x, y, above)) for above in range(z + 1, self.order[-1][2] + 1)):
            return 15
        return 14 if self.cells[place][0] == 3 else 0

    def light(self):
        """The least numbers: from each cell's own light on, till no cell has to have more."""
        found = {place: self.own_light(place) for place in self.order}
        grows = True
        while grows:
            grows = False
            for place in self.order:
                due = max([found[near] - 1 for near in self.about(place)], default=0)
                if self.is_clear(place) and due > found[place]:
                    found[place] = due
                    grows = True
        return found

    def trail(self, place, found):
        """The trail of this place where each has the light found."""
        if found[place] == 0:
            return []
        if found[place] == self.own_light(place):
            return [place]
        brighter = [near for near in self.about(place) if found[near] == found[place] + 1]
        return [place] + self.trail(brighter[0], found)
