"""All that a glassworks is at one moment, and how it's copied."""

COLOURS = 4
FURNACE_COLDEST = 20
OVEN_FIRST = 500

REST = 0
SHAPE = 1
HEAT = 2


class Style:
    def __init__(self, grams, steps, loses, bears):
        self.grams = grams
        self.steps = steps
        self.loses = loses
        self.bears = bears


class Pot:
    def __init__(self, most):
        self.most = most
        self.colour = 0
        self.grams = 0
        self.hot = 0


class Piece:
    def __init__(self, style, colour, heat):
        self.style = style
        self.colour = colour
        self.heat = heat
        self.done = 0


class Team:
    def __init__(self, can):
        self.can = can
        self.piece = None
        self.does = REST


class Works:
    def __init__(self, melt, found, work):
        self.melt = melt
        self.found = found
        self.work = work
        self.minute = 0
        self.heat = FURNACE_COLDEST
        self.goal = FURNACE_COLDEST
        self.styles = []
        self.pots = []
        self.teams = []
        # A piece in the oven or the store is a tuple of its style and its colour: nothing else of it counts there.
        self.oven = []
        self.oven_heat = OVEN_FIRST
        self.cooling = False
        self.store = []
        self.cullet = [0] * COLOURS
        self.raw = 0
        self.sold = 0
        self.cracked = 0


def copied_pot(pot):
    other = Pot(pot.most)
    other.colour = pot.colour
    other.grams = pot.grams
    other.hot = pot.hot
    return other


def copied_piece(piece):
    if piece is None:
        return None
    other = Piece(piece.style, piece.colour, piece.heat)
    other.done = piece.done
    return other


def copied_team(team):
    other = Team(team.can)
    other.piece = copied_piece(team.piece)
    other.does = team.does
    return other


def copied_works(works):
    other = Works(works.melt, works.found, works.work)
    other.minute = works.minute
    other.heat = works.heat
    other.goal = works.goal
    # A style never changes once it's there, so the copy may share it.
    other.styles = list(works.styles)
    other.pots = [copied_pot(pot) for pot in works.pots]
    other.teams = [copied_team(team) for team in works.teams]
    other.oven = list(works.oven)
    other.oven_heat = works.oven_heat
    other.cooling = works.cooling
    other.store = list(works.store)
    other.cullet = list(works.cullet)
    other.raw = works.raw
    other.sold = works.sold
    other.cracked = works.cracked
    return other
