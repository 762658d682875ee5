"""Ground that changes: cells of stone, sand, glass, wood, lamps, air and water."""
