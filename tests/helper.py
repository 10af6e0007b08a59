"""Calls by name, answers split call by call, and set-ups that several tests begin with."""

import unittest

from glassworks.works import HANDED, Line, answers

BIG = 4294967295


def start(melt=1000, found=3, work=800):
    return (0, melt, found, work)


def style(grams=100, steps=2, loses=50, bears=10):
    return (1, grams, steps, loses, bears)


def team(can=31):
    return (2, can)


def pot(most=10000):
    return (3, most)


def charge(p=0, colour=0, raw=0, cullet=0):
    return (4, p, colour, raw, cullet)


def fire(t):
    return (5, t)


def gather(t=0, p=0, s=0):
    return (6, t, p, s)


def does(t, what):
    return (7, t, what)


def minutes(n):
    return (8, n)


def put(t=0):
    return (9, t)


def cool():
    return (10,)


def take():
    return (11,)


def smash(t=0):
    return (12, t)


def sell(s=0, colour=0):
    return (13, s, colour)


def ready(p=0):
    return (14, p)


def opens():
    return (15,)


REST, SHAPE, HEAT = 0, 1, 2

# From 20 to 1,000 degrees the furnace takes 98 minutes; the last of them is hot already, so with found 3 a pot
# that was charged at the beginning is ready at minute 100.
TO_MELT = 98
TO_READY = 100


def flat(calls):
    return [number for call in calls for number in call]


def split(told):
    rows = []
    at = 0
    while at < len(told):
        rows.append(told[at + 1:at + 1 + told[at]])
        at += 1 + told[at]
    return rows


def run(calls):
    rows = split(answers(flat(calls)))
    if len(rows) != len(calls):
        raise AssertionError(f"{len(calls)} calls, {len(rows)} answers")
    return rows


def last(calls):
    return run(calls)[-1]


def molten(styles=(style(),), teams=1, colour=0, raw=5000, melt=1000, work=800):
    """A pot of so much glass, ready and open, the furnace at melt and set to it."""
    calls = [start(melt, 3, work)] + list(styles) + [team()] * teams
    calls += [pot(500000), charge(0, colour, raw, 0), fire(melt)]
    return calls + [minutes((melt - 20 + 9) // 10 + 2)]


def line_after(calls):
    line = Line()
    for call in calls:
        line.answer(call[0], list(call[1:]))
    return line


def works_after(calls):
    return line_after(calls).works


def facts(thing):
    """All that an object holds, as plain values that can be compared."""
    if isinstance(thing, (list, tuple)):
        return [facts(part) for part in thing]
    if hasattr(thing, "__dict__"):
        return {name: facts(value) for name, value in vars(thing).items()}
    return thing


# Calls whose answers together would show a change anywhere: what is set, hot, done, held, put, stored.
PROBE = (
    [ready(p) for p in range(4)] + [opens()] + [does(t, REST) for t in range(4)]
    + [put(t) for t in range(4)] + [cool(), take(), minutes(1), fire(777)]
    + [smash(t) for t in range(4)] + [sell(s, c) for s in range(5) for c in range(4)]
    + [charge(p, c, 1, 0) for p in range(4) for c in range(4)]
    + [charge(p, c, 0, 1) for p in range(4) for c in range(4)]
    + [minutes(45), take(), style(), team(), pot(), minutes(7), opens()]
)


class Case(unittest.TestCase):
    def answers(self, calls, *told):
        """The last calls of the list answer this."""
        self.assertEqual(run(calls)[-len(told):], list(told))

    def refused(self, before, call, number):
        """The call is refused with that number alone, and all is as it was."""
        self.assertEqual(run(before + [call])[-1], [number])
        self.assertEqual(run(before + [call] + PROBE)[len(before) + 1:], run(before + PROBE)[len(before):])
        line = line_after(before)
        held = facts(line)
        line.answer(call[0], list(call[1:]))
        self.assertEqual(facts(line), held)

    def let_through(self, before, call, *told):
        self.assertEqual(run(before + [call])[-1], list(told))
