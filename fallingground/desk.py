"""The calls on a ground. An answer is a list: 0 and what is answered, or a refusal alone.

The refusals: -1 a cell that is not in the ground, -2 a number that is not in its range,
-3 water that is not there or has no room, -4 a ground that does not come to rest in time.
"""

from fallingground.ground import AIR, WOOD, Ground
from fallingground.layout import fits
from fallingground.texts import read_text, text_of, what_is_wrong
from fallingground.ticks import behind_ticks

TEXT = 0

MOST_TICKS = 50
MOST_SETTLING = 200


def answer_text(ground, octets):
    """Make the ground the one that the text tells."""
    why = what_is_wrong(octets)
    if why > 0:
        return [1, why]
    sides, materials, water = read_text(octets)
    ground.begin(sides, materials, water)
    return [0] + list(sides)


def answer_empty(ground, sides):
    """Make the ground one of air."""
    if not fits(sides):
        return [-2]
    cells = sides[0] * sides[1] * sides[2]
    ground.begin(tuple(sides), [AIR] * cells, [0] * cells)
    return [0]


def answer_print(ground, numbers):
    """Tell the ground's text."""
    return [0] + text_of(ground.layout.sides, ground.materials, ground.water)


def answer_place(ground, numbers):
    """Put a material in a cell."""
    x, y, z, material = numbers
    cell = ground.layout.cell_at(x, y, z)
    if cell is None:
        return [-1]
    if not AIR <= material <= WOOD:
        return [-2]
    ground.place(cell, material)
    return [0]


def answer_pour(ground, numbers):
    """Put water in a cell."""
    x, y, z, parts = numbers
    cell = ground.layout.cell_at(x, y, z)
    if cell is None:
        return [-1]
    if not 1 <= parts <= ground.room(cell):
        return [-3]
    ground.water[cell] += parts
    return [0, ground.water[cell]]


def answer_drain(ground, numbers):
    """Take water from a cell."""
    x, y, z, parts = numbers
    cell = ground.layout.cell_at(x, y, z)
    if cell is None:
        return [-1]
    if not 1 <= parts <= ground.water[cell]:
        return [-3]
    ground.water[cell] -= parts
    return [0, ground.water[cell]]


def answer_tick(ground, numbers):
    """Make so many ticks."""
    ticks = numbers[0]
    if not 1 <= ticks <= MOST_TICKS:
        return [-2]
    materials, water, made, quiet = behind_ticks(ground, ticks)
    # The ticks of a quiet ground change nothing, but they are made and counted.
    ground.pass_on(materials, water, ticks)
    return [0, ground.ticks, 1 if quiet else 0]


def answer_settle(ground, numbers):
    """Make ticks till the ground is quiet, or none if so many are too few."""
    most = numbers[0]
    if not 1 <= most <= MOST_SETTLING:
        return [-2]
    materials, water, made, quiet = behind_ticks(ground, most)
    if not quiet:
        return [-4]
    ground.pass_on(materials, water, made)
    return [0, made]


# For each call but text: how many numbers it has, and what answers it.
CALLS = {
    1: (3, answer_empty),
    2: (0, answer_print),
    3: (4, answer_place),
    4: (4, answer_pour),
    5: (4, answer_drain),
    6: (1, answer_tick),
    7: (1, answer_settle),
}


def answers(calls):
    """The answers to the calls on a new ground: for each how many numbers, then these."""
    ground = Ground()
    told = []
    at = 0
    while at < len(calls):
        if calls[at] == TEXT:
            start = at + 2
            length = calls[at + 1]
            answer = answer_text
        else:
            start = at + 1
            length, answer = CALLS[calls[at]]
        at = start + length
        one = answer(ground, calls[start:at])
        told.append(len(one))
        told.extend(one)
    return told
