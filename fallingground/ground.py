"""A ground: what is in each of its cells, and how many ticks were made."""

from fallingground.layout import Layout

AIR = 0
STONE = 1
SAND = 2
LAMP = 3
GLASS = 4
WOOD = 5

FULL = 8


def room_in(materials, water, cell):
    """How many parts of water the cell can still take."""
    if materials[cell] == AIR:
        return FULL - water[cell]
    return 0


class Ground:
    """The cells in order, a material and water for each; at first there are none."""

    def __init__(self):
        self.begin((0, 0, 0), [], [])

    def begin(self, sides, materials, water):
        """Become the ground with these sides and cells, of which no ticks were made."""
        self.layout = Layout(sides)
        self.materials = materials
        self.water = water
        self.ticks = 0

    def place(self, cell, material):
        """Put the material in the cell."""
        self.materials[cell] = material
        if material != AIR:
            self.water[cell] = 0

    def room(self, cell):
        """How many parts of water the cell can still take."""
        return room_in(self.materials, self.water, cell)

    def pass_on(self, materials, water, ticks):
        """Become what the ground is behind so many more ticks."""
        self.materials = materials
        self.water = water
        self.ticks += ticks
