"""What holds, whatever is called: looked at behind each call of many lists of calls."""

import random

from glassworks.furnace import is_pot_ready
from tests.helper import (BIG, SHAPE, Case, charge, cool, does, facts, fire, gather, line_after, minutes, molten,
                          opens, pot, put, ready, run, sell, smash, start, style, take, team)


def grams_held(works):
    """Where all grams are: pots, hands, the oven, the store, cullet, sold."""
    def of(number):
        return works.styles[number].grams
    return (sum(pot.grams for pot in works.pots)
            + sum(of(team.piece.style) for team in works.teams if team.piece is not None)
            + sum(of(piece[0]) for piece in works.oven) + sum(of(piece[0]) for piece in works.store)
            + sum(works.cullet) + works.sold)


def any_call(chance):
    """A call that's mostly let through, and now and then not."""
    t, p, s = chance.randint(0, 3), chance.randint(0, 2), chance.randint(0, 3)
    odd = chance.random() < 0.03
    few = chance.choice((1, 1, 1, 2, 3, 50, 150))
    choices = (
        (1, style(chance.randint(0, 300), chance.randint(1, 4), chance.randint(0, 201), chance.randint(0, 10))),
        (1, team(chance.randint(0, 32))), (1, pot(chance.randint(0, 3000))),
        (6, charge(p, 4 if odd else chance.randint(0, 1), chance.randint(0, 500), 0)),
        (6, charge(p, chance.randint(0, 1), 0, chance.randint(0, 200))),
        (2, fire(chance.choice((700, 850, 1000, 1100, 1100, 1600, 1601)))),
        (16, gather(t, p, s)), (20, does(t, chance.choice((0, 1, 1, 1, 1, 2, 3)))),
        (24, minutes(0 if odd else few)), (14, put(t)), (6, cool()), (10, take()), (2, smash(t)),
        (8, sell(s, chance.randint(0, 1))), (4, ready(p)), (3, opens()))
    return chance.choices([call for weight, call in choices], [weight for weight, call in choices])[0]


def any_list(seed):
    chance = random.Random(seed)
    calls = [start(1000, chance.randint(1, 9), chance.randint(600, 1000))]
    for loses in (0, chance.randint(0, 20), chance.randint(0, 200)):
        calls.append(style(50, chance.randint(1, 3), loses, chance.randint(2, 10)))
    calls += [team(), team(), team(7), pot(3000), pot(2000), pot(1000)]
    calls += [charge(p, chance.randint(0, 1), 900, 0) for p in range(3)] + [fire(1100), minutes(110)]
    return calls + [any_call(chance) for number in range(400)]


class EachList(Case):
    def watch(self, look):
        for seed in range(25):
            line = line_after([start()])
            before = facts(line.works)
            for call in any_list(seed):
                told = line.answer(call[0], list(call[1:]))
                look(line.works, before, call, told)
                before = facts(line.works)

    def test_the_lists_reach_every_call(self):
        done = {}
        for seed in range(25):
            calls = any_list(seed)
            for call, told in zip(calls, run(calls)):
                done[call[0]] = done.get(call[0], 0) + (told[0] >= 0)
        self.assertEqual([number for number in range(16) if done.get(number, 0) < 10], [])

    def test_each_gram(self):
        def look(works, before, call, told):
            self.assertEqual(grams_held(works), works.raw)
            self.assertTrue(all(grams >= 0 for grams in works.cullet))
        self.watch(look)

    def test_a_refusal_leaves_all_as_it_was(self):
        def look(works, before, call, told):
            if told[0] < 0:
                self.assertEqual(len(told), 1)
                self.assertEqual(facts(works), before)
        self.watch(look)

    def test_ready_and_open_change_nothing(self):
        def look(works, before, call, told):
            if call[0] in (14, 15):
                self.assertEqual(facts(works), before)
        self.watch(look)

    def test_never_too_fast(self):
        def look(works, before, call, told):
            if call[0] == 8 and told[0] > 0 and before["oven"]:
                fell = before["oven_heat"] - works.oven_heat
                for piece in works.oven:
                    self.assertLessEqual(fell, works.styles[piece[0]].bears * call[1])
        self.watch(look)

    def test_one_colour_to_a_pot(self):
        def look(works, before, call, told):
            for was, pot in zip(before["pots"], works.pots):
                if was["grams"] > 0 and call[0] != 0:
                    self.assertEqual(pot.colour, was["colour"])
        self.watch(look)

    def test_only_what_is_shaped_comes_into_the_oven(self):
        def look(works, before, call, told):
            if len(works.oven) > len(before["oven"]):
                piece = before["teams"][call[1]]["piece"]
                self.assertEqual(call[0], 9)
                self.assertEqual(piece["done"], works.styles[piece["style"]].steps)
                self.assertFalse(before["cooling"])
                self.assertEqual(facts(works.oven), before["oven"] + [[piece["style"], piece["colour"]]])
        self.watch(look)

    def test_a_team_without_a_piece_rests(self):
        def look(works, before, call, told):
            for team in works.teams:
                if team.piece is None:
                    self.assertEqual(team.does, 0)
                else:
                    self.assertGreaterEqual(team.piece.heat, 400)
        self.watch(look)


class InSoMany(Case):
    def test_ready_in_so_many_and_in_no_fewer(self):
        for seed in range(60):
            chance = random.Random(seed)
            calls = [start(chance.choice((1000, 1005, 1200)), chance.randint(1, 30), 600), pot(), fire(1250)]
            calls += [minutes(chance.randint(90, 130)), charge(0, 0, 1, 0), minutes(chance.randint(1, 30))]
            calls += [fire(chance.choice((20, 900, 1000, 1004, 1005, 1199, 1200, 1600)))]
            line = line_after(calls)
            told = line.answer(14, [0])[0]
            for minute in range(told if told >= 0 else 1440):
                self.assertFalse(is_pot_ready(line.works, line.works.pots[0]))
                line.answer(8, [1])
            self.assertEqual(is_pot_ready(line.works, line.works.pots[0]), told >= 0)

    def test_cold_enough_in_so_many_and_in_no_fewer(self):
        for seed in range(20):
            chance = random.Random(seed)
            styles = tuple(style(10, 1, 0, chance.randint(1, 10)) for number in range(5))
            before = molten(styles=styles)
            for number in range(chance.randint(1, 8)):
                before += [gather(0, 0, chance.randint(0, 4)), does(0, SHAPE), minutes(1), put()]
            told = run(before + [cool()])[-1][0]
            self.assertEqual(run(before + [cool(), minutes(told - 1), take()])[-1], [-16])
            self.assertGreater(run(before + [cool(), minutes(told), take()])[-1][0], 0)


class AnyNumbers(Case):
    def test_any_numbers_may_be_handed_in(self):
        handed = {0: 3, 1: 4, 2: 1, 3: 1, 4: 4, 5: 1, 6: 3, 7: 2, 8: 1, 9: 1, 10: 0, 11: 0, 12: 1, 13: 2, 14: 1, 15: 0}
        chance = random.Random(7)
        for time in range(20):
            calls = molten(teams=2) + [gather()]
            for number in range(100):
                call = chance.randint(1, 15)
                calls.append((call,) + tuple(chance.choice((0, 1, 2, 3, 4, 5, 31, 32, 500000, 2 ** 31, BIG))
                                             for place in range(handed[call])))
            for row in run(calls):
                self.assertTrue(-2 ** 31 <= row[0] < 2 ** 31)
                self.assertTrue(all(0 <= number <= BIG for number in row[1:]))
