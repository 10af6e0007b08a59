"""A glassworks: furnace, pots, teams and their pieces, the oven and the store."""
