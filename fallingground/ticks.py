"""Ticks: loose things fall, and water runs."""

from fallingground.ground import AIR, SAND, STONE, WOOD, room_in

# How many steps from wood to wood a foot holds.
HOLDING_STEPS = 4


def has_foot(layout, materials, cell):
    """Whether wood in this cell has a foot."""
    below = layout.below[cell]
    if below is None or materials[below] not in (AIR, WOOD):
        return True
    return any([materials[near] == STONE for near in layout.beside[cell]])


def held_wood(layout, materials):
    """The cells with wood that is held, each with True."""
    wood = [cell for cell in range(len(materials)) if materials[cell] == WOOD]
    newest = [cell for cell in wood if has_foot(layout, materials, cell)]
    held = {}
    for cell in newest:
        held[cell] = True
    for step in range(HOLDING_STEPS):
        reached = []
        for cell in newest:
            for near in layout.about[cell]:
                if materials[near] == WOOD and near not in held:
                    held[near] = True
                    reached.append(near)
        newest = reached
    return held


def loose_cells(layout, materials):
    """The cells with something loose, in order."""
    held = held_wood(layout, materials)
    loose = []
    for cell, material in enumerate(materials):
        if material == SAND or (material == WOOD and cell not in held):
            loose.append(cell)
    return loose


def let_fall(layout, materials, water):
    """Let what is loose change places with what is below it, where that is not solid."""
    # What falls comes to a cell that was gone through already: so the cells
    # found at first still have in them what was found there.
    for cell in loose_cells(layout, materials):
        below = layout.below[cell]
        if below is not None and materials[below] == AIR:
            materials[below] = materials[cell]
            materials[cell] = AIR
            water[cell] = water[below]
            water[below] = 0


def run_down(layout, materials, water, cell):
    """Let the cell's water go to the cell below, as far as there is room."""
    below = layout.below[cell]
    if below is not None:
        parts = min(water[cell], room_in(materials, water, below))
        water[cell] -= parts
        water[below] += parts


def run_aside(layout, materials, water, cell):
    """Let one part of the cell's water go to the cell beside with the least, if that has two less."""
    least = None
    for near in layout.beside[cell]:
        if materials[near] == AIR and (least is None or water[near] < water[least]):
            least = near
    if least is not None and water[least] + 2 <= water[cell]:
        water[cell] -= 1
        water[least] += 1


def let_run(layout, materials, water):
    """Let the water of each cell run, in order."""
    for cell in range(len(water)):
        if water[cell] > 0:
            run_down(layout, materials, water, cell)
        if water[cell] > 1:
            run_aside(layout, materials, water, cell)


def behind_tick(layout, materials, water):
    """The materials and the water behind one tick, as new lists."""
    materials = list(materials)
    water = list(water)
    let_fall(layout, materials, water)
    let_run(layout, materials, water)
    return materials, water


def behind_ticks(ground, most):
    """The materials and the water behind so many ticks, how many changed something, whether it is quiet then."""
    materials = ground.materials
    water = ground.water
    made = 0
    while True:
        # One tick more tells whether it is quiet; once it is, every further tick changes nothing.
        later_materials, later_water = behind_tick(ground.layout, materials, water)
        quiet = later_materials == materials and later_water == water
        if quiet or made == most:
            return materials, water, made, quiet
        materials = later_materials
        water = later_water
        made += 1
