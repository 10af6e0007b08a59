"""A list of calls on one glassworks, and what each of them answers."""

from glassworks.checks import NOT_AS_TOLD, within
from glassworks.furnace import add_pot, charge_pot, minutes_till_ready, pots_open, set_furnace
from glassworks.minutes import pass_minutes
from glassworks.oven import cool_oven, put_piece, sell_piece, take_pieces
from glassworks.state import Works, copied_works
from glassworks.teams import add_style, add_team, gather_piece, smash_piece, tell_team

GL_START = 0
GL_STYLE = 1
GL_TEAM = 2
GL_POT = 3
GL_CHARGE = 4
GL_FIRE = 5
GL_GATHER = 6
GL_DOES = 7
GL_MINUTES = 8
GL_PUT = 9
GL_COOL = 10
GL_TAKE = 11
GL_SMASH = 12
GL_SELL = 13
GL_READY = 14
GL_OPEN = 15

# How many numbers stand behind the call's own, by that number.
HANDED = (3, 4, 1, 1, 4, 1, 3, 2, 1, 1, 0, 0, 1, 2, 1, 0)


class Line:
    def __init__(self):
        self.works = None

    def answer(self, call, given):
        if call == GL_START:
            return self.start(given[0], given[1], given[2])
        if is_change(call):
            return self.change(call, given)
        return looked(self.works, call, given)

    def start(self, melt, found, work):
        if not (within(melt, 1000, 1600) and within(found, 1, 1440) and within(work, 600, melt)):
            return [NOT_AS_TOLD]
        self.works = Works(melt, found, work)
        return [0]

    # A change is made on a copy: a refusal leaves all as it was, and what was before a change stays whole.
    def change(self, call, given):
        works = copied_works(self.works)
        told = changed(works, call, given)
        if told[0] >= 0:
            self.works = works
        return told


def is_change(call):
    return within(call, GL_STYLE, GL_SELL)


def changed(works, call, given):
    if call == GL_STYLE:
        return add_style(works, given[0], given[1], given[2], given[3])
    if call == GL_TEAM:
        return add_team(works, given[0])
    if call == GL_POT:
        return add_pot(works, given[0])
    if call == GL_CHARGE:
        return charge_pot(works, given[0], given[1], given[2], given[3])
    if call == GL_FIRE:
        return set_furnace(works, given[0])
    if call == GL_GATHER:
        return gather_piece(works, given[0], given[1], given[2])
    if call == GL_DOES:
        return tell_team(works, given[0], given[1])
    if call == GL_MINUTES:
        return pass_minutes(works, given[0])
    if call == GL_PUT:
        return put_piece(works, given[0])
    if call == GL_COOL:
        return cool_oven(works)
    if call == GL_TAKE:
        return take_pieces(works)
    if call == GL_SMASH:
        return smash_piece(works, given[0])
    return sell_piece(works, given[0], given[1])


def looked(works, call, given):
    if call == GL_READY:
        return minutes_till_ready(works, given[0])
    return pots_open(works)


def answers(calls):
    line = Line()
    told = []
    at = 0
    while at < len(calls):
        call = calls[at]
        behind = at + 1 + HANDED[call]
        one = line.answer(call, calls[at + 1:behind])
        told.append(len(one))
        told.extend(one)
        at = behind
    return told
