"""What holds, whatever is called: looked at behind each call of many lists of calls."""

import random

from glassworks.furnace import is_pot_ready
from tests.helper import (BIG, SHAPE, Case, any_list, charge, cold, cool, does, facts, fire, gather, grams, line_after,
                          minutes, molten, pot, put, run, start, style, take)

BACK, AGAIN = 29, 30


def grams_held(works):
    """Where all grams are: pots, hands, the oven, the store, cullet, sold."""
    def of(number):
        return works.styles[number].grams
    return (sum(pot.grams for pot in works.pots)
            + sum(of(team.piece.style) for team in works.teams if team.piece is not None)
            + sum(of(piece[0]) for piece in works.oven) + sum(of(piece[0]) for piece in works.store)
            + sum(works.cullet) + works.sold)


class EachList(Case):
    def watch(self, look):
        for seed in range(25):
            line = line_after([start()])
            before = facts(line.works)
            for call in any_list(seed):
                told = line.answer(call[0], list(call[1:]))
                look(line.works, before, call, told)
                before = facts(line.works)

    def test_the_lists_reach_every_call(self):
        done = {}
        for seed in range(25):
            calls = any_list(seed)
            for call, told in zip(calls, run(calls)):
                done[call[0]] = done.get(call[0], 0) + (told[0] >= 0)
        self.assertEqual([number for number in range(32) if done.get(number, 0) < 10], [])

    def test_each_gram(self):
        def look(works, before, call, told):
            self.assertEqual(grams_held(works), works.raw)
            self.assertTrue(all(grams >= 0 for grams in works.cullet))
        self.watch(look)

    def test_each_gram_as_it_is_told(self):
        for seed in range(25):
            calls = [one for call in any_list(seed) for one in (call, grams())]
            for row in run(calls)[1::2]:
                self.assertEqual(len(row), 7)
                self.assertEqual(row[0], sum(row[1:]))

    def test_a_refusal_leaves_all_as_it_was(self):
        def look(works, before, call, told):
            if told[0] < 0:
                self.assertEqual(len(told), 1)
                self.assertEqual(facts(works), before)
        self.watch(look)

    def test_looks_change_nothing(self):
        def look(works, before, call, told):
            if call[0] >= 14 and call[0] not in (BACK, AGAIN):
                self.assertEqual(facts(works), before)
        self.watch(look)

    def test_all_can_be_taken_back_and_done_again(self):
        for seed in range(25):
            line = line_after([start()])
            for call in any_list(seed):
                before = facts(line.works)
                told = line.answer(call[0], list(call[1:]))
                if 1 <= call[0] <= 13 and told[0] >= 0:
                    after = facts(line.works)
                    line.answer(BACK, [])
                    self.assertEqual(facts(line.works), before)
                    line.answer(AGAIN, [])
                    self.assertEqual(facts(line.works), after)

    def test_never_too_fast(self):
        def look(works, before, call, told):
            if call[0] == 8 and told[0] > 0 and before["oven"]:
                fell = before["oven_heat"] - works.oven_heat
                for piece in works.oven:
                    self.assertLessEqual(fell, works.styles[piece[0]].bears * call[1])
        self.watch(look)

    def test_one_colour_to_a_pot(self):
        def look(works, before, call, told):
            for was, pot in zip(before["pots"], works.pots):
                if was["grams"] > 0 and call[0] not in (0, BACK, AGAIN):
                    self.assertEqual(pot.colour, was["colour"])
        self.watch(look)

    def test_only_what_is_shaped_comes_into_the_oven(self):
        def look(works, before, call, told):
            if len(works.oven) > len(before["oven"]) and call[0] not in (BACK, AGAIN):
                piece = before["teams"][call[1]]["piece"]
                self.assertEqual(call[0], 9)
                self.assertEqual(piece["done"], works.styles[piece["style"]].steps)
                self.assertFalse(before["cooling"])
                self.assertEqual(facts(works.oven), before["oven"] + [[piece["style"], piece["colour"]]])
        self.watch(look)

    def test_a_team_without_a_piece_rests(self):
        def look(works, before, call, told):
            for team in works.teams:
                if team.piece is None:
                    self.assertEqual(team.does, 0)
                else:
                    self.assertGreaterEqual(team.piece.heat, 400)
        self.watch(look)


class InSoMany(Case):
    def test_ready_in_so_many_and_in_no_fewer(self):
        for seed in range(60):
            chance = random.Random(seed)
            calls = [start(chance.choice((1000, 1005, 1200)), chance.randint(1, 30), 600), pot(), fire(1250)]
            calls += [minutes(chance.randint(90, 130)), charge(0, 0, 1, 0), minutes(chance.randint(1, 30))]
            calls += [fire(chance.choice((20, 900, 1000, 1004, 1005, 1199, 1200, 1600)))]
            line = line_after(calls)
            told = line.answer(14, [0])[0]
            for minute in range(told if told >= 0 else 1440):
                self.assertFalse(is_pot_ready(line.works, line.works.pots[0]))
                line.answer(8, [1])
            self.assertEqual(is_pot_ready(line.works, line.works.pots[0]), told >= 0)

    def test_cold_enough_in_so_many_and_in_no_fewer(self):
        for seed in range(20):
            chance = random.Random(seed)
            styles = tuple(style(10, 1, 0, chance.randint(1, 10)) for number in range(5))
            before = molten(styles=styles)
            for number in range(chance.randint(1, 8)):
                before += [gather(0, 0, chance.randint(0, 4)), does(0, SHAPE), minutes(1), put()]
            told = run(before + [cool()])[-1][0]
            self.assertEqual(run(before + [cold()])[-1], [told])
            self.assertEqual(run(before + [cool(), minutes(told - 1), take()])[-1], [-16])
            self.assertGreater(run(before + [cool(), minutes(told), take()])[-1][0], 0)


class AnyNumbers(Case):
    def test_any_numbers_may_be_handed_in(self):
        handed = {0: 3, 1: 4, 2: 1, 3: 1, 4: 4, 5: 1, 6: 3, 7: 2, 8: 1, 9: 1, 10: 0, 11: 0, 12: 1, 13: 2, 14: 1, 15: 0,
                  16: 1, 17: 1, 18: 1, 19: 1, 20: 0, 21: 1, 22: 0, 23: 0, 24: 1, 25: 1, 26: 1, 27: 0, 28: 0, 29: 0,
                  30: 0, 31: 0}
        behind = {8: 2, 15: 1, 17: 1, 18: 4, 19: 3, 20: 3, 21: 1, 23: 1, 24: 1, 25: 4, 27: 6, 28: 2, 31: 6}
        chance = random.Random(7)
        for time in range(20):
            calls = molten(teams=2) + [gather()]
            for number in range(300):
                call = chance.randint(0 if number % 50 == 0 else 1, 31)
                calls.append((call,) + tuple(chance.choice((0, 1, 2, 3, 4, 5, 31, 32, 500000, 2 ** 31, BIG))
                                             for place in range(handed[call])))
            for call, row in zip(calls, run(calls)):
                self.assertEqual(len(row), 1 + behind.get(call[0], 0) if row[0] >= 0 else 1)
                self.assertTrue(-2 ** 31 <= row[0] < 2 ** 31)
                self.assertTrue(all(0 <= number <= BIG for number in row[1:]))
