"""gl_least and gl_heats: in how few minutes, with how few heats a piece is shaped."""

import random

from tests.helper import (BIG, HEAT, REST, SHAPE, Case, does, fire, furnace, gather, heats, last, least, minutes,
                          molten, piece, put, start, style, team)


def gathered(steps, loses, heat=1000, work=800):
    """One piece, just gathered, the furnace as hot as it and set to that."""
    calls = molten(styles=(style(100, steps, loses, 1),), work=work)
    if heat < 1000:
        calls += [fire(heat), minutes((1000 - heat + 9) // 10)]
    return calls + [gather()]


def beside_colder_furnace(steps, loses, heat, work=800):
    """One piece of 1,000 degrees, the furnace come down to that heat."""
    return gathered(steps, loses, 1000, work) + [does(0, HEAT), fire(heat), minutes((1000 - heat + 9) // 10)]


class Least(Case):
    def test_shaped(self):
        before = gathered(2, 50) + [does(0, SHAPE), minutes(2)]
        self.tells(before, least(), 0)
        self.tells(before + [minutes(5)], least(), 0)

    def test_shaped_with_a_cold_furnace(self):
        before = gathered(1, 0) + [does(0, SHAPE), fire(20), minutes(98)]
        self.let_through(before, furnace(), 20, 20, 198)
        self.tells(before, least(), 0)

    def test_hot_enough_all_the_way(self):
        # 1,000, 950, 900, 850, 800: five steps.
        self.tells(gathered(4, 50), least(), 4)
        self.tells(gathered(5, 50), least(), 5)
        self.tells(gathered(60, 0), least(), 60)
        self.tells(gathered(1, 200), least(), 1)

    def test_heated_once(self):
        self.tells(gathered(6, 50), least(), 7)
        self.tells(gathered(10, 50), least(), 11)

    def test_heated_often(self):
        self.tells(gathered(11, 50), least(), 13)
        self.tells(gathered(60, 50), least(), 60 + 11)
        self.tells(gathered(7, 200, 800), least(), 13)
        self.tells(gathered(60, 200, 800), least(), 119)

    def test_steps_that_are_done_count(self):
        before = gathered(6, 50) + [does(0, SHAPE)]
        self.answers(before + [minutes(1), least()], [6])
        self.answers(before + [minutes(4), least()], [3])
        self.answers(before + [minutes(5), least()], [2])
        self.answers(before + [minutes(5), does(0, HEAT), minutes(1), least()], [1])

    def test_at_just_work_and_one_degree_below(self):
        self.let_through(gathered(1, 50) + [minutes(4)], piece(), 0, 0, 800, 0, 0)
        self.tells(gathered(1, 50) + [minutes(4)], least(), 1)
        self.tells(gathered(2, 50) + [minutes(4)], least(), 3)
        below = molten(styles=(style(100, 1, 50, 1),)) + [fire(999), minutes(1), gather(), minutes(4)]
        self.let_through(below, piece(), 0, 0, 799, 0, 0)
        self.tells(below, least(), 2)

    def test_what_the_team_does_makes_no_difference(self):
        for what in (REST, SHAPE, HEAT):
            self.tells(gathered(6, 50) + [does(0, what)], least(), 7)

    def test_one_that_would_crack(self):
        # At 400 it cracks in the next minute, unless that's the one in which it's heated.
        before = gathered(3, 200) + [minutes(3)]
        self.let_through(before, piece(), 0, 0, 400, 0, 0)
        self.let_through(before, minutes(1), 104, 1000, 1)
        self.tells(before, least(), 5)

    def test_one_that_comes_as_near_to_cracking_as_shaping_can_bring_it(self):
        # Work is 600 at least and 200 is the most that's lost: each step leaves it at 400, where it's heated again.
        before = gathered(4, 200, 600, 600)
        self.tells(before, least(), 7)
        self.let_through(before + [does(0, SHAPE), minutes(1)], piece(), 0, 0, 400, 1, 1)

    def test_the_furnace_as_hot_as_work_and_one_degree_less(self):
        rested = [does(0, REST), minutes(1)]
        self.tells(beside_colder_furnace(3, 200, 800) + rested + rested, least(), 6)
        self.tells(beside_colder_furnace(3, 200, 799) + rested + rested, least(), -33)

    def test_the_furnace_too_cold_and_the_piece_hot_enough(self):
        # 1,000 and 800 are two steps; a third one would have to be heated for.
        self.tells(beside_colder_furnace(1, 200, 799), least(), 1)
        self.tells(beside_colder_furnace(2, 200, 799), least(), 2)
        self.tells(beside_colder_furnace(3, 200, 799), least(), -33)
        self.tells(beside_colder_furnace(3, 200, 20), least(), -33)
        self.tells(beside_colder_furnace(60, 0, 20), least(), 60)

    def test_heated_again_it_is_only_as_hot_as_the_furnace(self):
        # 1,000, 900, 800; then 850 each time: one step.
        self.tells(beside_colder_furnace(5, 100, 850), least(), 7)
        self.tells(beside_colder_furnace(3, 100, 850), least(), 3)

    def test_the_furnace_stays_as_it_is(self):
        # What it's set to isn't looked at: it's 1,000 now.
        self.tells(gathered(6, 50) + [fire(20)], least(), 7)
        self.tells(beside_colder_furnace(3, 200, 799) + [fire(1600)], least(), -33)

    def test_no_piece(self):
        self.refused(molten(), least(), -6)
        self.refused(molten(teams=2) + [gather(0)], least(1), -6)
        self.refused([start(), team()], least(), -6)

    def test_absent(self):
        self.refused([start()], least(), -2)
        self.refused(gathered(3, 10), least(1), -2)
        self.refused(gathered(3, 10), least(BIG), -2)

    def test_the_last_team(self):
        self.tells(molten(teams=4) + [gather(3)], least(3), 2)
        self.refused(molten(teams=4) + [gather(3)], least(4), -2)


def fewest_minutes(work, furnace_heat, loses, steps, heat, done):
    """Whatever is done, minute by minute: when all steps are done first."""
    reached = {(heat, done)}
    for told in range(130):
        if any(one[1] == steps for one in reached):
            return told
        after = set()
        for was, did in reached:
            step = 1 if was >= work else 0
            after |= {(max(was, furnace_heat), did), (was - loses, did), (was - loses, did + step)}
        reached = {one for one in after if one[0] >= 400}
    return None


class LeastOfAll(Case):
    def some(self, seed):
        chance = random.Random(seed)
        work = chance.choice((600, 601, 700, 799, 800, 900, 1000))
        loses = chance.choice((0, 1, 7, 10, 50, 99, 100, 199, 200))
        steps = chance.randint(1, 9)
        heat = chance.randint(work, 1000)
        before = gathered(steps, loses, heat, work)
        for time in range(chance.randint(0, 2)):
            more = before + [does(0, chance.choice((REST, SHAPE, SHAPE, HEAT))), minutes(chance.randint(1, 3))]
            if last(more + [piece()])[0] >= 0:
                before = more
        return work, heat, loses, steps, before

    def test_in_so_many_and_in_no_fewer(self):
        for seed in range(150):
            work, heat, loses, steps, before = self.some(seed)
            now = last(before + [piece()])
            told = fewest_minutes(work, heat, loses, steps, now[2], now[3])
            self.let_through(before, least(), told)

    def test_it_can_be_done(self):
        for seed in range(60):
            work, heat, loses, steps, before = self.some(seed)
            told = last(before + [least()])[0]
            for still in range(told, 0, -1):
                self.answers(before + [put(), least()], [-16], [still])
                hot = last(before + [piece()])[2] >= work
                before = before + [does(0, SHAPE if hot else HEAT), minutes(1)]
            self.answers(before + [least(), put()], [0], [1])


class Heats(Case):
    def of(self, steps, loses, heat=1000, work=800):
        return gathered(steps, loses, heat, work)[:-1]

    def test_one_that_loses_nothing(self):
        self.tells(self.of(60, 0), heats(), 0, 60)
        self.tells(self.of(1, 0), heats(), 0, 1)
        self.tells(self.of(60, 0, 800), heats(), 0, 60)

    def test_in_one_heat(self):
        self.tells(self.of(4, 50), heats(), 0, 4)
        self.tells(self.of(5, 50), heats(), 0, 5)
        self.tells(self.of(1, 200), heats(), 0, 1)

    def test_one_is_left_over(self):
        self.tells(self.of(6, 50), heats(), 1, 5)
        self.tells(self.of(11, 50), heats(), 2, 5)

    def test_the_steps_come_out_even(self):
        self.tells(self.of(10, 50), heats(), 1, 5)
        self.tells(self.of(60, 50), heats(), 11, 5)

    def test_the_last_step_just_at_work(self):
        self.tells(self.of(9, 200, 1000), heats(), 4, 2)
        self.tells(self.of(9, 200, 999), heats(), 8, 1)

    def test_a_heat_for_each_step(self):
        self.tells(self.of(7, 200, 800), heats(), 6, 1)
        self.tells(self.of(60, 1, 800), heats(), 59, 1)
        self.tells(self.of(1, 200, 800), heats(), 0, 1)
        self.tells(self.of(2, 1, 801), heats(), 0, 2)

    def test_the_furnace_as_hot_as_work_and_one_degree_less(self):
        self.tells(self.of(3, 10, 800), heats(), 2, 1)
        self.refused(self.of(3, 10, 799), heats(), -33)
        self.refused(self.of(3, 0, 799), heats(), -33)
        self.refused([start(), style()], heats(), -33)

    def test_the_furnace_as_it_is_not_as_it_is_set(self):
        self.tells(self.of(6, 50) + [fire(20)], heats(), 1, 5)
        self.refused(self.of(3, 10, 799) + [fire(1600)], heats(), -33)

    def test_absent(self):
        self.refused([start()], heats(), -2)
        self.refused([start(), style()], heats(1), -2)
        self.refused(self.of(3, 10), heats(1), -2)
        self.refused(self.of(3, 10), heats(BIG), -2)

    def test_the_last_style(self):
        before = molten(styles=(style(),) * 4 + (style(10, 7, 100, 1),))
        self.tells(before, heats(4), 2, 3)
        self.refused(before, heats(5), -2)

    def test_the_least_minutes_are_the_steps_and_the_heats(self):
        for seed in range(60):
            chance = random.Random(seed)
            steps, loses = chance.randint(1, 60), chance.randint(0, 200)
            heat = chance.randint(800, 1000)
            before = self.of(steps, loses, heat)
            often, most = last(before + [heats()])
            self.let_through(before + [gather()], least(), steps + often)
            shaping = before + [gather(), does(0, SHAPE)]
            self.assertEqual(last(shaping + [minutes(most), piece()])[3], most)
            if most < steps:
                self.assertLess(last(shaping + [minutes(most), piece()])[2], 800)
