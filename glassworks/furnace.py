"""The furnace and its pots: set, charged, founded, ready, open."""

from glassworks.checks import ABSENT, FULL, NEVER, NOT_AS_TOLD, TOO_LITTLE, TOO_MUCH, UNFIT
from glassworks.checks import is_there, many_as_bits, within
from glassworks.state import COLOURS, FURNACE_COLDEST, Pot

FURNACE_HOTTEST = 1600
FURNACE_STEP = 10
MOST_POTS = 4
MOST_GRAMS = 500000
MOST_RAW = 1500000
LOOKED_AHEAD = 1440


def set_furnace(works, heat):
    if not within(heat, FURNACE_COLDEST, FURNACE_HOTTEST):
        return [NOT_AS_TOLD]
    works.goal = heat
    return [works.heat]


def add_pot(works, most):
    if not within(most, 1, MOST_GRAMS):
        return [NOT_AS_TOLD]
    if len(works.pots) >= MOST_POTS:
        return [FULL]
    works.pots.append(Pot(most))
    return [len(works.pots) - 1]


def charge_as_told(colour, raw, cullet):
    if colour >= COLOURS or raw + cullet == 0:
        return False
    return raw <= MOST_GRAMS and cullet <= MOST_GRAMS


def charge_pot(works, p, colour, raw, cullet):
    if not is_there(works.pots, p):
        return [ABSENT]
    if not charge_as_told(colour, raw, cullet):
        return [NOT_AS_TOLD]
    pot = works.pots[p]
    if pot.grams > 0 and pot.colour != colour:
        return [UNFIT]
    if pot.grams + raw + cullet > pot.most:
        return [TOO_MUCH]
    if works.cullet[colour] < cullet:
        return [TOO_LITTLE]
    if works.raw + raw > MOST_RAW:
        return [FULL]
    works.cullet[colour] -= cullet
    works.raw += raw
    pot.colour = colour
    pot.grams += raw + cullet
    pot.hot = 0
    return [pot.grams]


def nearer(heat, goal):
    if heat < goal:
        return min(heat + FURNACE_STEP, goal)
    return max(heat - FURNACE_STEP, goal)


def furnace_minute(works):
    works.heat = nearer(works.heat, works.goal)
    if works.heat < works.melt:
        return
    for pot in works.pots:
        if pot.grams > 0:
            pot.hot = min(pot.hot + 1, works.found)


def is_pot_ready(works, pot):
    return pot.grams > 0 and pot.hot >= works.found


def is_pot_open(works, pot):
    return is_pot_ready(works, pot) and works.heat >= works.work


def minutes_till_ready(works, p):
    if not is_there(works.pots, p):
        return [ABSENT]
    pot = works.pots[p]
    if pot.grams == 0:
        return [NEVER]
    heat = works.heat
    hot = pot.hot
    for minutes in range(LOOKED_AHEAD + 1):
        if hot >= works.found:
            return [minutes]
        heat = nearer(heat, works.goal)
        if heat >= works.melt:
            hot += 1
    return [NEVER]


def pots_open(works):
    return many_as_bits([p for p, pot in enumerate(works.pots) if is_pot_open(works, pot)])


def look_at_pot(works, p):
    if not is_there(works.pots, p):
        return [ABSENT]
    pot = works.pots[p]
    return [pot.grams, pot.most, pot.colour, pot.hot]


def look_at_furnace(works):
    return [works.heat, works.goal, works.minute]
