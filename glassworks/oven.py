"""The oven and the store: pieces put in, cooled, taken, sold."""

from glassworks.checks import ABSENT, ALREADY, COOLING, EMPTY, FULL, NOT_YET, is_there
from glassworks.state import COLOURS, OVEN_FIRST
from glassworks.teams import free_team, is_shaped

MOST_IN_OVEN = 8
MOST_IN_STORE = 64
FASTEST = 10
OVEN_COLDEST = 20
COLD_ENOUGH = 50


def put_piece(works, t):
    if not is_there(works.teams, t):
        return [ABSENT]
    team = works.teams[t]
    piece = team.piece
    if piece is None:
        return [EMPTY]
    if not is_shaped(works, piece):
        return [NOT_YET]
    if works.cooling:
        return [COOLING]
    if len(works.oven) >= MOST_IN_OVEN:
        return [FULL]
    works.oven.append((piece.style, piece.colour))
    free_team(team)
    return [len(works.oven)]


def oven_bears(works):
    bears = FASTEST
    for piece in works.oven:
        bears = min(bears, works.styles[piece[0]].bears)
    return bears


def minutes_till_cold(works):
    above = max(works.oven_heat - COLD_ENOUGH, 0)
    bears = oven_bears(works)
    # Rounded up: the last minute counts, even if it needn't lose all that it may.
    return (above + bears - 1) // bears


def cool_oven(works):
    if len(works.oven) == 0:
        return [EMPTY]
    if works.cooling:
        return [ALREADY]
    works.cooling = True
    return [minutes_till_cold(works)]


def oven_minute(works):
    if works.cooling:
        works.oven_heat = max(works.oven_heat - oven_bears(works), OVEN_COLDEST)


def take_pieces(works):
    many = len(works.oven)
    if many == 0:
        return [EMPTY]
    if works.oven_heat > COLD_ENOUGH:
        return [NOT_YET]
    if len(works.store) + many > MOST_IN_STORE:
        return [FULL]
    works.store.extend(works.oven)
    works.oven = []
    works.oven_heat = OVEN_FIRST
    works.cooling = False
    return [many]


def sell_piece(works, s, colour):
    piece = (s, colour)
    if piece not in works.store:
        return [EMPTY]
    works.store.remove(piece)
    works.sold += works.styles[s].grams
    return [len(works.store)]


def look_at_oven(works):
    return [len(works.oven), works.oven_heat, 1 if works.cooling else 0, oven_bears(works)]


def look_inside(works, k):
    if not is_there(works.oven, k):
        return [ABSENT]
    piece = works.oven[k]
    return [piece[0], piece[1]]


def cold_enough_in(works):
    if len(works.oven) == 0:
        return [EMPTY]
    return [minutes_till_cold(works)]


def look_at_store(works, s):
    if not is_there(works.styles, s):
        return [ABSENT]
    of_colours = [works.store.count((s, colour)) for colour in range(COLOURS)]
    return [sum(of_colours)] + of_colours
