"""A list of calls on one glassworks, and what each of them answers."""

from glassworks.checks import ABSENT, NOT_AS_TOLD, within
from glassworks.furnace import add_pot, charge_pot, look_at_furnace, look_at_pot, minutes_till_ready, pots_open
from glassworks.furnace import set_furnace
from glassworks.grams import cullet_of, grams_everywhere
from glassworks.minutes import pass_minutes
from glassworks.oven import cold_enough_in, cool_oven, look_at_oven, look_at_store, look_inside, put_piece
from glassworks.oven import sell_piece, take_pieces
from glassworks.shaping import fewest_heats, least_minutes
from glassworks.state import Works, copied_works
from glassworks.teams import add_style, add_team, gather_piece, look_at_piece, smash_piece, teams_free
from glassworks.teams import teams_free_for, tell_team

GL_START = 0
GL_STYLE = 1
GL_TEAM = 2
GL_POT = 3
GL_CHARGE = 4
GL_FIRE = 5
GL_GATHER = 6
GL_DOES = 7
GL_MINUTES = 8
GL_PUT = 9
GL_COOL = 10
GL_TAKE = 11
GL_SMASH = 12
GL_SELL = 13
GL_READY = 14
GL_OPEN = 15
GL_LEAST = 16
GL_HEATS = 17
GL_PIECE = 18
GL_LOOK = 19
GL_OVEN = 20
GL_INSIDE = 21
GL_COLD = 22
GL_FREE = 23
GL_WHO = 24
GL_STORE = 25
GL_CULLET = 26
GL_GRAMS = 27
GL_FURNACE = 28
GL_BACK = 29
GL_AGAIN = 30
GL_STATE = 31

# How many numbers stand behind the call's own, by that number.
HANDED = (3, 4, 1, 1, 4, 1, 3, 2, 1, 1, 0, 0, 1, 2, 1, 0, 1, 1, 1, 1, 0, 1, 0, 0, 1, 1, 1, 0, 0, 0, 0, 0)

MOST_BACK = 20


class Line:
    def __init__(self):
        self.works = None
        # All as it was before each change that can be taken back, and as it was behind each that can be done again:
        # the one that comes next stands last.
        self.earlier = []
        self.later = []

    def answer(self, call, given):
        if call == GL_START:
            return self.start(given[0], given[1], given[2])
        if is_change(call):
            return self.change(call, given)
        if call == GL_BACK:
            return self.back()
        if call == GL_AGAIN:
            return self.again()
        if call == GL_STATE:
            return self.state()
        if len(given) == 0:
            return looked_at_all(self.works, call)
        return looked_at_one(self.works, call, given[0])

    def start(self, melt, found, work):
        if not (within(melt, 1000, 1600) and within(found, 1, 1440) and within(work, 600, melt)):
            return [NOT_AS_TOLD]
        self.works = Works(melt, found, work)
        self.earlier = []
        self.later = []
        return [0]

    # A change is made on a copy: a refusal leaves all as it was, and what was before a change stays whole.
    def change(self, call, given):
        works = copied_works(self.works)
        told = changed(works, call, given)
        if told[0] >= 0:
            self.earlier.append(self.works)
            if len(self.earlier) > MOST_BACK:
                self.earlier.pop(0)
            self.later = []
            self.works = works
        return told

    def back(self):
        if len(self.earlier) == 0:
            return [ABSENT]
        self.later.append(self.works)
        self.works = self.earlier.pop()
        return [len(self.earlier)]

    def again(self):
        if len(self.later) == 0:
            return [ABSENT]
        self.earlier.append(self.works)
        self.works = self.later.pop()
        return [len(self.later)]

    def state(self):
        works = self.works
        there = [len(works.styles), len(works.teams), len(works.pots), works.cracked]
        return [works.minute] + there + [len(self.earlier), len(self.later)]


def is_change(call):
    return within(call, GL_STYLE, GL_SELL)


def changed(works, call, given):
    if call == GL_STYLE:
        return add_style(works, given[0], given[1], given[2], given[3])
    if call == GL_TEAM:
        return add_team(works, given[0])
    if call == GL_POT:
        return add_pot(works, given[0])
    if call == GL_CHARGE:
        return charge_pot(works, given[0], given[1], given[2], given[3])
    if call == GL_FIRE:
        return set_furnace(works, given[0])
    if call == GL_GATHER:
        return gather_piece(works, given[0], given[1], given[2])
    if call == GL_DOES:
        return tell_team(works, given[0], given[1])
    if call == GL_MINUTES:
        return pass_minutes(works, given[0])
    if call == GL_PUT:
        return put_piece(works, given[0])
    if call == GL_COOL:
        return cool_oven(works)
    if call == GL_TAKE:
        return take_pieces(works)
    if call == GL_SMASH:
        return smash_piece(works, given[0])
    return sell_piece(works, given[0], given[1])


def looked_at_one(works, call, number):
    if call == GL_READY:
        return minutes_till_ready(works, number)
    if call == GL_LEAST:
        return least_minutes(works, number)
    if call == GL_HEATS:
        return fewest_heats(works, number)
    if call == GL_PIECE:
        return look_at_piece(works, number)
    if call == GL_LOOK:
        return look_at_pot(works, number)
    if call == GL_INSIDE:
        return look_inside(works, number)
    if call == GL_WHO:
        return teams_free_for(works, number)
    if call == GL_STORE:
        return look_at_store(works, number)
    return cullet_of(works, number)


def looked_at_all(works, call):
    if call == GL_OPEN:
        return pots_open(works)
    if call == GL_OVEN:
        return look_at_oven(works)
    if call == GL_COLD:
        return cold_enough_in(works)
    if call == GL_FREE:
        return teams_free(works)
    if call == GL_GRAMS:
        return grams_everywhere(works)
    return look_at_furnace(works)


def answers(calls):
    line = Line()
    told = []
    at = 0
    while at < len(calls):
        call = calls[at]
        behind = at + 1 + HANDED[call]
        one = line.answer(call, calls[at + 1:behind])
        told.append(len(one))
        told.extend(one)
        at = behind
    return told
