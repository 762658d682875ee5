"""Light: it comes from the sky and from lamps, and fades by one with each step through clear cells."""

from fallingground.ground import AIR, GLASS, LAMP

SKY_LIGHT = 15
LAMP_LIGHT = 14


def is_clear(material):
    """Whether light goes through the material."""
    return material in (AIR, LAMP, GLASS)


def open_cells(layout, materials):
    """For each cell whether all cells above it are clear."""
    is_open = [True] * len(materials)
    # From the last cell on: so what is above a cell is known when the cell tells of the one below it.
    for cell in range(len(materials) - 1, -1, -1):
        below = layout.below[cell]
        if below is not None and not (is_open[cell] and is_clear(materials[cell])):
            is_open[below] = False
    return is_open


def own_light(material, is_open):
    """The own light of a cell with this material, under clear cells alone or not."""
    if not is_clear(material):
        return 0
    if is_open:
        return SKY_LIGHT
    if material == LAMP:
        return LAMP_LIGHT
    return 0


def own_lights(layout, materials):
    """Each cell's own light, in order."""
    is_open = open_cells(layout, materials)
    return [own_light(material, is_open[cell]) for cell, material in enumerate(materials)]


def lights(layout, materials):
    """Each cell's light, in order."""
    light = own_lights(layout, materials)
    # A cell lights others with less than it has: so when its turn comes, from
    # the brightest on, nothing can make it brighter any more.
    for bright in range(SKY_LIGHT, 1, -1):
        sources = [cell for cell, shine in enumerate(light) if shine == bright]
        for source in sources:
            for near in layout.about[source]:
                if is_clear(materials[near]):
                    light[near] = max(light[near], bright - 1)
    return light


def trail_from(layout, materials, cell):
    """The cells of this cell's trail."""
    own = own_lights(layout, materials)
    light = lights(layout, materials)
    if light[cell] == 0:
        return []
    trail = [cell]
    while light[cell] != own[cell]:
        brighter = [near for near in layout.about[cell] if light[near] == light[cell] + 1]
        cell = brighter[0]
        trail.append(cell)
    return trail
