"""Texts: a ground written as a list of bytes."""

from fallingground.layout import fits

ROW_END = 10

# The sign of each material, by its number.
SIGNS = (46, 35, 58, 42, 79, 61)

# Air with n parts of water has the sign n behind this one.
NO_WATER = 48
MOST_WATER = 8


def layers_of(octets):
    """The text's layers, each a list of rows; None if the text ends ahead of a layer's end."""
    layers = []
    rows = []
    row = []
    for octet in octets:
        if octet != ROW_END:
            row.append(octet)
        elif len(row) > 0:
            rows.append(row)
            row = []
        else:
            layers.append(rows)
            rows = []
    if len(row) > 0 or len(rows) > 0:
        return None
    return layers


def is_even(layers):
    """Whether there are layers and rows, as many rows in each layer and bytes in each row."""
    if len(layers) == 0 or len(layers[0]) == 0:
        return False
    for rows in layers:
        if len(rows) != len(layers[0]):
            return False
        for row in rows:
            if len(row) != len(layers[0][0]):
                return False
    return True


def sides_of(layers):
    """The sides X, Y, Z of even layers."""
    return (len(layers[0][0]), len(layers[0]), len(layers))


def contents_by_sign():
    """What each sign tells: a material and water."""
    contents = {}
    for material, sign in enumerate(SIGNS):
        contents[sign] = (material, 0)
    for water in range(1, MOST_WATER + 1):
        contents[NO_WATER + water] = (0, water)
    return contents


def what_is_wrong(octets):
    """The number of what is wrong with the text, 0 if nothing is."""
    layers = layers_of(octets)
    if layers is None or not is_even(layers):
        return 1
    if not fits(sides_of(layers)):
        return 2
    contents = contents_by_sign()
    for octet in octets:
        if octet != ROW_END and octet not in contents:
            return 3
    return 0


def read_text(octets):
    """The sides, the materials and the water that a text tells with which nothing is wrong."""
    contents = contents_by_sign()
    cells = [contents[octet] for octet in octets if octet != ROW_END]
    materials = [material for material, water in cells]
    water = [water for material, water in cells]
    return sides_of(layers_of(octets)), materials, water


def text_of(sides, materials, water):
    """The text of the ground with these sides and cells."""
    width, depth, height = sides
    octets = []
    cell = 0
    for z in range(height):
        for y in range(depth):
            for x in range(width):
                octets.append(sign_of(materials[cell], water[cell]))
                cell += 1
            octets.append(ROW_END)
        octets.append(ROW_END)
    return octets


def sign_of(material, water):
    """The sign of a cell with this in it."""
    if water > 0:
        return NO_WATER + water
    return SIGNS[material]
