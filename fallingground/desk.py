"""The calls on a ground. An answer is a list: 0 and what is answered, or a refusal alone.

The refusals: -1 a place that is not in the ground, -2 a number that is not in its range,
-3 water that is not there or has no room, -4 a ground that does not come to rest in time.
"""

from fallingground.ground import AIR, WOOD, Ground
from fallingground.layout import fits
from fallingground.light import SKY_LIGHT, lights, trail_from
from fallingground.texts import read_text, text_of, what_is_wrong
from fallingground.ticks import behind_ticks, loose_cells

TEXT = 0

MOST_TICKS = 50
MOST_SETTLING = 200


def answer_text(ground, octets):
    """Make the ground the one that the text tells."""
    why = what_is_wrong(octets)
    if why > 0:
        return [1, why]
    sides, materials, water = read_text(octets)
    ground.begin(sides, materials, water)
    return [0] + list(sides)


def answer_empty(ground, sides):
    """Make the ground one of air."""
    if not fits(sides):
        return [-2]
    cells = sides[0] * sides[1] * sides[2]
    ground.begin(tuple(sides), [AIR] * cells, [0] * cells)
    return [0]


def answer_print(ground, numbers):
    """Tell the ground's text."""
    return [0] + text_of(ground.layout.sides, ground.materials, ground.water)


def answer_place(ground, numbers):
    """Put a material in a cell."""
    x, y, z, material = numbers
    cell = ground.layout.cell_at(x, y, z)
    if cell is None:
        return [-1]
    if not AIR <= material <= WOOD:
        return [-2]
    ground.place(cell, material)
    return [0]


def answer_pour(ground, numbers):
    """Put water in a cell."""
    x, y, z, parts = numbers
    cell = ground.layout.cell_at(x, y, z)
    if cell is None:
        return [-1]
    if not 1 <= parts <= ground.room(cell):
        return [-3]
    ground.water[cell] += parts
    return [0, ground.water[cell]]


def answer_drain(ground, numbers):
    """Take water from a cell."""
    x, y, z, parts = numbers
    cell = ground.layout.cell_at(x, y, z)
    if cell is None:
        return [-1]
    if not 1 <= parts <= ground.water[cell]:
        return [-3]
    ground.water[cell] -= parts
    return [0, ground.water[cell]]


def answer_tick(ground, numbers):
    """Make so many ticks."""
    ticks = numbers[0]
    if not 1 <= ticks <= MOST_TICKS:
        return [-2]
    materials, water, made, quiet = behind_ticks(ground, ticks)
    # The ticks of a quiet ground change nothing, but they are made and counted.
    ground.pass_on(materials, water, ticks)
    return [0, ground.ticks, 1 if quiet else 0]


def answer_settle(ground, numbers):
    """Make ticks till the ground is quiet, or none if so many are too few."""
    most = numbers[0]
    if not 1 <= most <= MOST_SETTLING:
        return [-2]
    materials, water, made, quiet = behind_ticks(ground, most)
    if not quiet:
        return [-4]
    ground.pass_on(materials, water, made)
    return [0, made]


def answer_cell(ground, numbers):
    """Tell what is in a cell, and its light."""
    x, y, z = numbers
    cell = ground.layout.cell_at(x, y, z)
    if cell is None:
        return [-1]
    light = lights(ground.layout, ground.materials)
    return [0, ground.materials[cell], ground.water[cell], light[cell]]


def answer_light(ground, numbers):
    """Tell the light of a layer's cells."""
    first = ground.layout.cell_at(0, 0, numbers[0])
    if first is None:
        return [-1]
    light = lights(ground.layout, ground.materials)
    return [0] + light[first:first + ground.layout.layer_size]


def counted_places(layout, cells):
    """How many cells these are, and each one's x, y, z."""
    told = [len(cells)]
    for cell in cells:
        told.extend(layout.place_of(cell))
    return told


def answer_trail(ground, numbers):
    """Tell the trail of a cell."""
    x, y, z = numbers
    cell = ground.layout.cell_at(x, y, z)
    if cell is None:
        return [-1]
    return [0] + counted_places(ground.layout, trail_from(ground.layout, ground.materials, cell))


def answer_count(ground, numbers):
    """Tell the ticks made, all water, and how many cells there are of each material."""
    amounts = [ground.materials.count(material) for material in range(AIR, WOOD + 1)]
    return [0, ground.ticks, sum(ground.water)] + amounts


def answer_held(ground, numbers):
    """Tell where the wood is that is not held."""
    # All wood that is loose, and none else, is not held.
    loose = loose_cells(ground.layout, ground.materials)
    wood = [cell for cell in loose if ground.materials[cell] == WOOD]
    return [0] + counted_places(ground.layout, wood)


def answer_dark(ground, numbers):
    """Tell how many air cells have so little light."""
    most = numbers[0]
    if not 0 <= most <= SKY_LIGHT:
        return [-2]
    light = lights(ground.layout, ground.materials)
    air = [cell for cell, material in enumerate(ground.materials) if material == AIR]
    return [0, len([cell for cell in air if light[cell] <= most])]


def answer_deep(ground, numbers):
    """Tell the water of the cells over one another."""
    x, y = numbers
    lowest = ground.layout.cell_at(x, y, 0)
    if lowest is None:
        return [-1]
    return [0] + ground.water[lowest::ground.layout.layer_size]


# For each call but text: how many numbers it has, and what answers it.
CALLS = {
    1: (3, answer_empty),
    2: (0, answer_print),
    3: (4, answer_place),
    4: (4, answer_pour),
    5: (4, answer_drain),
    6: (1, answer_tick),
    7: (1, answer_settle),
    8: (3, answer_cell),
    9: (1, answer_light),
    10: (3, answer_trail),
    11: (0, answer_count),
    12: (0, answer_held),
    13: (1, answer_dark),
    14: (2, answer_deep),
}


def answers(calls):
    """The answers to the calls on a new ground: for each how many numbers, then these."""
    ground = Ground()
    told = []
    at = 0
    while at < len(calls):
        if calls[at] == TEXT:
            start = at + 2
            length = calls[at + 1]
            answer = answer_text
        else:
            start = at + 1
            length, answer = CALLS[calls[at]]
        at = start + length
        one = answer(ground, calls[start:at])
        told.append(len(one))
        told.extend(one)
    return told
