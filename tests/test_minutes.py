import random

from tests.helper import (BIG, HEAT, SHAPE, Case, charge, cool, does, facts, fire, gather, minutes, molten, pot, put,
                          ready, run, start, style, team, works_after)


class Minutes(Case):
    def test_answers(self):
        self.answers([start(), fire(100), minutes(3), minutes(1440)], [3, 50, 0], [1443, 100, 0])

    def test_edges(self):
        self.let_through([start()], minutes(1), 1, 20, 0)
        self.let_through([start()], minutes(1440), 1440, 20, 0)
        for n in (0, 1441, BIG):
            self.refused(molten(), minutes(n), -22)


class LastMinute(Case):
    # 34 times 1,440 are 48,960.
    before = [start(), fire(1000)] + [minutes(1440)] * 34

    def test_up_to_it(self):
        self.let_through(self.before, minutes(1040), 50000, 1000, 0)
        self.refused(self.before, minutes(1041), -75)
        self.refused(self.before, minutes(1440), -75)

    def test_at_it(self):
        there = self.before + [minutes(1040)]
        self.refused(there, minutes(1), -75)
        self.refused(there, minutes(1440), -75)
        self.answers(self.before + [minutes(1039), minutes(2), minutes(1), minutes(1)],
                     [49999, 1000, 0], [-75], [50000, 1000, 0], [-75])

    def test_not_as_told_comes_first(self):
        there = self.before + [minutes(1040)]
        self.refused(there, minutes(0), -22)
        self.refused(there, minutes(1441), -22)

    def test_other_calls_go_on(self):
        there = self.before + [minutes(1040)]
        self.answers(there + [style(), team(), pot(), charge(0, 0, 1, 0), ready(), fire(20), start(), minutes(1)],
                     [0], [0], [0], [1], [3], [1000], [0], [1, 20, 0])


def busy_glassworks(seed):
    """Teams at work, an oven that cools, pots on the way: with numbers that differ from seed to seed."""
    chance = random.Random(seed)
    styles = tuple(style(chance.randint(1, 90), chance.randint(1, 9), chance.randint(0, 200), chance.randint(1, 10))
                   for number in range(4)) + (style(5, 1, 0, chance.randint(1, 10)),)
    calls = molten(styles=styles, teams=4, melt=chance.randint(1000, 1600), work=chance.randint(600, 1000))
    calls += [gather(0, 0, 4), does(0, SHAPE), minutes(1), put(0), cool()]
    calls += [pot(), charge(1, 1, 50, 0)]
    for t in range(4):
        calls += [gather(t, 0, t), does(t, chance.randint(0, 2))]
    return calls + [fire(chance.randint(20, 1600))]


class InWhateverPieces(Case):
    def split_up(self, chance, n):
        parts = []
        while n > 0:
            part = chance.randint(1, n)
            parts.append(minutes(part))
            n -= part
        return parts

    def test_it_is_the_same(self):
        for seed in range(40):
            chance = random.Random(1000 + seed)
            before = busy_glassworks(seed)
            n = chance.choice((2, 3, 7, 60, 300, 1440))
            at_once = before + [minutes(n)]
            in_parts = before + self.split_up(chance, n)
            one_by_one = before + [minutes(1)] * min(n, 900)
            self.assertEqual(facts(works_after(in_parts)), facts(works_after(at_once)))
            self.assertEqual(run(in_parts)[-1], run(at_once)[-1])
            if n <= 900:
                self.assertEqual(facts(works_after(one_by_one)), facts(works_after(at_once)))
                self.assertEqual(run(one_by_one)[-1], run(at_once)[-1])

    def test_answers_written_out(self):
        before = molten(styles=(style(100, 3, 150, 4),), teams=2) + [gather(0), gather(1), does(1, HEAT), fire(905)]
        told = [110, 905, 1]
        self.let_through(before, minutes(10), *told)
        self.assertEqual(run(before + [minutes(1)] * 10)[-1], told)
        self.assertEqual(run(before + [minutes(4), minutes(6)])[-1], told)
        self.assertEqual(run(before + [minutes(9), minutes(1)])[-1], told)
