"""How few minutes and how few heats a piece needs till it's shaped, the furnace staying as it is."""

from glassworks.checks import ABSENT, EMPTY, NEVER, is_there
from glassworks.teams import heat_after_loss


def least_minutes(works, t):
    if not is_there(works.teams, t):
        return [ABSENT]
    piece = works.teams[t].piece
    if piece is None:
        return [EMPTY]
    style = works.styles[piece.style]
    heat = piece.heat
    done = piece.done
    minutes = 0
    while done < style.steps:
        if heat >= works.work:
            done += 1
            heat = heat_after_loss(heat, style)
        elif works.heat >= works.work:
            heat = works.heat
        else:
            return [NEVER]
        minutes += 1
    return [minutes]


def steps_in_one_heat(works, style):
    if style.loses == 0:
        return style.steps
    # The first step needs no degree above work, each one behind it needs what is lost before it.
    return min(1 + (works.heat - works.work) // style.loses, style.steps)


def fewest_heats(works, s):
    if not is_there(works.styles, s):
        return [ABSENT]
    if works.heat < works.work:
        return [NEVER]
    style = works.styles[s]
    steps = steps_in_one_heat(works, style)
    # The first steps are done without: the piece is as hot as the furnace from the beginning.
    return [(style.steps - 1) // steps, steps]
