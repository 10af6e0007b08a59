"""Where each gram is."""

from glassworks.checks import ABSENT
from glassworks.state import COLOURS


def cullet_of(works, colour):
    if colour >= COLOURS:
        return [ABSENT]
    return [works.cullet[colour]]


def grams_of_styles(works, numbers):
    return sum([works.styles[s].grams for s in numbers])


def grams_everywhere(works):
    in_pots = sum([pot.grams for pot in works.pots])
    in_hands = grams_of_styles(works, [team.piece.style for team in works.teams if team.piece is not None])
    in_oven = grams_of_styles(works, [piece[0] for piece in works.oven])
    in_store = grams_of_styles(works, [piece[0] for piece in works.store])
    return [works.raw, in_pots, in_hands, in_oven, in_store, sum(works.cullet), works.sold]
