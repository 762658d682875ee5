"""Where the cells of a ground lie: their numbers in order, and what is next to each."""

LONGEST_SIDE = 12
MOST_CELLS = 600


def fits(sides):
    """Whether a ground may have these sides."""
    cells = 1
    for side in sides:
        if side < 1 or side > LONGEST_SIDE:
            return False
        cells *= side
    return cells <= MOST_CELLS


class Layout:
    """The cells of a ground with the sides X, Y, Z. A cell's number is its place in order."""

    def __init__(self, sides):
        self.sides = sides
        self.layer_size = sides[0] * sides[1]
        self.below = []
        self.beside = []
        self.about = []
        for z in range(sides[2]):
            for y in range(sides[1]):
                for x in range(sides[0]):
                    self.note_neighbours(x, y, z)

    def cell_at(self, x, y, z):
        """The number of this cell, None if it is not in the ground."""
        width, depth, height = self.sides
        if 0 <= x < width and 0 <= y < depth and 0 <= z < height:
            return (z * depth + y) * width + x
        return None

    def place_of(self, cell):
        """The cell's x, y and z."""
        width = self.sides[0]
        in_layer = cell % self.layer_size
        return [in_layer % width, in_layer // width, cell // self.layer_size]

    def cells_among(self, places):
        """The numbers of those of the places that are in the ground."""
        cells = [self.cell_at(x, y, z) for x, y, z in places]
        return [cell for cell in cells if cell is not None]

    def note_neighbours(self, x, y, z):
        """Keep what is below, beside and about the next cell, in the order of the document."""
        below = (x, y, z - 1)
        beside = [(x - 1, y, z), (x + 1, y, z), (x, y - 1, z), (x, y + 1, z)]
        above = (x, y, z + 1)
        self.below.append(self.cell_at(x, y, z - 1))
        self.beside.append(self.cells_among(beside))
        self.about.append(self.cells_among([below] + beside + [above]))
