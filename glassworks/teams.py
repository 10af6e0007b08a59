"""Styles, teams and their pieces: gathered, shaped, heated, cracked, smashed."""

from glassworks.checks import ABSENT, ALREADY, EMPTY, FULL, NOT_AS_TOLD, NOT_YET, TOO_LITTLE, UNFIT
from glassworks.checks import is_there, many_as_bits, within
from glassworks.furnace import is_pot_open
from glassworks.state import HEAT, REST, SHAPE, Piece, Style, Team

MOST_STYLES = 5
MOST_TEAMS = 4
ALL_STYLES = 31
CRACKS_BELOW = 400


def style_as_told(grams, steps, loses, bears):
    return within(grams, 1, 5000) and within(steps, 1, 60) and within(loses, 0, 200) and within(bears, 1, 10)


def add_style(works, grams, steps, loses, bears):
    if not style_as_told(grams, steps, loses, bears):
        return [NOT_AS_TOLD]
    if len(works.styles) >= MOST_STYLES:
        return [FULL]
    works.styles.append(Style(grams, steps, loses, bears))
    return [len(works.styles) - 1]


def add_team(works, can):
    if can > ALL_STYLES:
        return [NOT_AS_TOLD]
    if len(works.teams) >= MOST_TEAMS:
        return [FULL]
    works.teams.append(Team(can))
    return [len(works.teams) - 1]


def can_make(team, s):
    return (team.can >> s) & 1 == 1


def gather_piece(works, t, p, s):
    if not (is_there(works.teams, t) and is_there(works.pots, p) and is_there(works.styles, s)):
        return [ABSENT]
    team = works.teams[t]
    pot = works.pots[p]
    grams = works.styles[s].grams
    if team.piece is not None:
        return [ALREADY]
    if not can_make(team, s):
        return [UNFIT]
    if not is_pot_open(works, pot):
        return [NOT_YET]
    if pot.grams < grams:
        return [TOO_LITTLE]
    pot.grams -= grams
    team.piece = Piece(s, pot.colour, works.heat)
    team.does = REST
    return [pot.grams]


def tell_team(works, t, what):
    if not is_there(works.teams, t):
        return [ABSENT]
    if what > HEAT:
        return [NOT_AS_TOLD]
    team = works.teams[t]
    if team.piece is None:
        return [EMPTY]
    did = team.does
    team.does = what
    return [did]


def free_team(team):
    team.piece = None
    team.does = REST


def make_cullet(works, team):
    piece = team.piece
    grams = works.styles[piece.style].grams
    works.cullet[piece.colour] += grams
    free_team(team)
    return grams


def smash_piece(works, t):
    if not is_there(works.teams, t):
        return [ABSENT]
    team = works.teams[t]
    if team.piece is None:
        return [EMPTY]
    return [make_cullet(works, team)]


def is_shaped(works, piece):
    return piece.done >= works.styles[piece.style].steps


def heat_after_loss(heat, style):
    return max(heat - style.loses, 0)


def piece_minute(works, team):
    piece = team.piece
    if team.does == HEAT:
        piece.heat = max(piece.heat, works.heat)
    else:
        # The step is looked at ahead of the loss: a piece that's just as hot as work is still shaped.
        if team.does == SHAPE and piece.heat >= works.work and not is_shaped(works, piece):
            piece.done += 1
        piece.heat = heat_after_loss(piece.heat, works.styles[piece.style])
    if piece.heat < CRACKS_BELOW:
        make_cullet(works, team)
        works.cracked += 1


def teams_minute(works):
    for team in works.teams:
        if team.piece is not None:
            piece_minute(works, team)


def look_at_piece(works, t):
    if not is_there(works.teams, t):
        return [ABSENT]
    team = works.teams[t]
    piece = team.piece
    if piece is None:
        return [EMPTY]
    return [piece.style, piece.colour, piece.heat, piece.done, team.does]


def teams_free(works):
    return many_as_bits([t for t, team in enumerate(works.teams) if team.piece is None])


def teams_free_for(works, s):
    if not is_there(works.styles, s):
        return [ABSENT]
    return many_as_bits([t for t, team in enumerate(works.teams) if team.piece is None and can_make(team, s)])
