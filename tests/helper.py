"""Calls by name, answers split call by call, and set-ups that several tests begin with."""

import random
import unittest

from glassworks.works import Line, answers

BIG = 4294967295


def start(melt=1000, found=3, work=800):
    return (0, melt, found, work)


def style(grams=100, steps=2, loses=50, bears=10):
    return (1, grams, steps, loses, bears)


def team(can=31):
    return (2, can)


def pot(most=10000):
    return (3, most)


def charge(p=0, colour=0, raw=0, cullet=0):
    return (4, p, colour, raw, cullet)


def fire(t):
    return (5, t)


def gather(t=0, p=0, s=0):
    return (6, t, p, s)


def does(t, what):
    return (7, t, what)


def minutes(n):
    return (8, n)


def put(t=0):
    return (9, t)


def cool():
    return (10,)


def take():
    return (11,)


def smash(t=0):
    return (12, t)


def sell(s=0, colour=0):
    return (13, s, colour)


def ready(p=0):
    return (14, p)


def opens():
    return (15,)


def least(t=0):
    return (16, t)


def heats(s=0):
    return (17, s)


def piece(t=0):
    return (18, t)


def look(p=0):
    return (19, p)


def oven():
    return (20,)


def inside(k=0):
    return (21, k)


def cold():
    return (22,)


def free():
    return (23,)


def who(s=0):
    return (24, s)


def store(s=0):
    return (25, s)


def cullet(colour=0):
    return (26, colour)


def grams():
    return (27,)


def furnace():
    return (28,)


def back():
    return (29,)


def again():
    return (30,)


def state():
    return (31,)


REST, SHAPE, HEAT = 0, 1, 2

# From 20 to 1,000 degrees the furnace takes 98 minutes; the last of them is hot already, so with found 3 a pot
# that was charged at the beginning is ready at minute 100.
TO_MELT = 98
TO_READY = 100


def flat(calls):
    return [number for call in calls for number in call]


def split(told):
    rows = []
    at = 0
    while at < len(told):
        rows.append(told[at + 1:at + 1 + told[at]])
        at += 1 + told[at]
    return rows


def run(calls):
    rows = split(answers(flat(calls)))
    if len(rows) != len(calls):
        raise AssertionError(f"{len(calls)} calls, {len(rows)} answers")
    return rows


def last(calls):
    return run(calls)[-1]


def molten(styles=(style(),), teams=1, colour=0, raw=5000, melt=1000, work=800):
    """A pot of so much glass, ready and open, the furnace at melt and set to it."""
    calls = [start(melt, 3, work)] + list(styles) + [team()] * teams
    calls += [pot(500000), charge(0, colour, raw, 0), fire(melt)]
    return calls + [minutes((melt - 20 + 9) // 10 + 2)]


# A style whose pieces are shaped in a minute, don't get colder, and bear all that the oven does.
QUICK = style(10, 1, 0, 10)


def shaped(s=0, t=0, p=0):
    """A piece that's shaped, of a style with one step."""
    return [gather(t, p, s), does(t, SHAPE), minutes(1)]


def into_oven(many=1, s=0, p=0):
    return (shaped(s, 0, p) + [put()]) * many


def into_store(many, s=0):
    """So many pieces, of a style that bears 10 degrees, 8 at a time."""
    calls = []
    while many > 0:
        load = min(many, 8)
        calls += into_oven(load, s) + [cool(), minutes(45), take()]
        many -= load
    return calls


def line_after(calls):
    line = Line()
    for call in calls:
        line.answer(call[0], list(call[1:]))
    return line


def works_after(calls):
    return line_after(calls).works


def facts(thing):
    """All that an object holds, as plain values that can be compared."""
    if isinstance(thing, (list, tuple)):
        return [facts(part) for part in thing]
    if hasattr(thing, "__dict__"):
        return {name: facts(value) for name, value in vars(thing).items()}
    return thing


# All that can be looked at; gl_state stands last, for it alone tells of changes that were made.
LOOKS = (
    [call(t) for t in range(5) for call in (least, piece)] + [call(p) for p in range(5) for call in (ready, look)]
    + [call(s) for s in range(6) for call in (heats, who, store)] + [inside(k) for k in range(9)]
    + [cullet(c) for c in range(5)] + [opens(), oven(), cold(), free(), grams(), furnace(), state()]
)

# Calls whose answers together would show a change in what can be done.
PROBE = (
    [does(t, REST) for t in range(4)] + [put(t) for t in range(4)] + [cool(), take(), minutes(1), fire(777)]
    + [smash(t) for t in range(4)] + [sell(s, c) for s in range(5) for c in range(4)]
    + [charge(p, c, 1, 0) for p in range(4) for c in range(4)]
    + [charge(p, c, 0, 1) for p in range(4) for c in range(4)]
    + [minutes(45), take(), style(), team(), pot(), minutes(7)] + LOOKS
)
BACK_AND_AGAIN = [again()] * 21 + LOOKS + [back()] * 21 + LOOKS


def any_call(chance):
    """A call that's mostly let through, and now and then not."""
    t, p, s = chance.randint(0, 3), chance.randint(0, 2), chance.randint(0, 3)
    odd = chance.random() < 0.03
    few = chance.choice((1, 1, 1, 2, 3, 50, 150))
    choices = (
        (1, style(chance.randint(0, 300), chance.randint(1, 4), chance.randint(0, 201), chance.randint(0, 10))),
        (1, team(chance.randint(0, 32))), (1, pot(chance.randint(0, 3000))),
        (6, charge(p, 4 if odd else chance.randint(0, 1), chance.randint(0, 500), 0)),
        (6, charge(p, chance.randint(0, 1), 0, chance.randint(0, 200))),
        (2, fire(chance.choice((700, 850, 1000, 1100, 1100, 1600, 1601)))),
        (16, gather(t, p, s)), (20, does(t, chance.choice((0, 1, 1, 1, 1, 2, 3)))),
        (24, minutes(0 if odd else few)), (14, put(t)), (6, cool()), (10, take()), (2, smash(t)),
        (8, sell(s, chance.randint(0, 1))), (4, ready(p)), (3, opens()), (14, chance.choice(LOOKS)), (2, cold()),
        (2, inside(chance.randint(0, 2))), (5, back()), (3, again()))
    return chance.choices([call for weight, call in choices], [weight for weight, call in choices])[0]


def any_list(seed):
    chance = random.Random(seed)
    calls = [start(1000, chance.randint(1, 9), chance.randint(600, 1000))]
    for loses in (0, chance.randint(0, 20), chance.randint(0, 200)):
        calls.append(style(50, chance.randint(1, 3), loses, chance.randint(2, 10)))
    calls += [team(), team(), team(7), pot(3000), pot(2000), pot(1000)]
    calls += [charge(p, chance.randint(0, 1), 900, 0) for p in range(3)] + [fire(1100), minutes(110)]
    return calls + [any_call(chance) for number in range(480)]


def looked(calls):
    """What can be looked at behind these calls, and what gl_state tells then."""
    rows = run(calls + LOOKS)[len(calls):]
    return rows[:-1], rows[-1]


class Case(unittest.TestCase):
    def answers(self, calls, *told):
        """The last calls of the list answer this."""
        self.assertEqual(run(calls)[-len(told):], list(told))

    def leaves_all(self, before, call):
        """Behind the call all is as it was, also what can be taken back and done again."""
        for probe in (LOOKS + PROBE, BACK_AND_AGAIN):
            self.assertEqual(run(before + [call] + probe)[len(before) + 1:], run(before + probe)[len(before):])
        line = line_after(before)
        held = facts(line)
        line.answer(call[0], list(call[1:]))
        self.assertEqual(facts(line), held)

    def refused(self, before, call, number):
        """The call is refused with that number alone, and all is as it was."""
        self.assertEqual(run(before + [call])[-1], [number])
        self.leaves_all(before, call)

    def let_through(self, before, call, *told):
        self.assertEqual(run(before + [call])[-1], list(told))

    def tells(self, before, call, *told):
        """The call answers just this, and isn't a change: all is as it was, also if something can be done again."""
        for calls in (before, before + [fire(333), back()]):
            self.assertEqual(run(calls + [call])[-1], list(told))
            self.leaves_all(calls, call)
