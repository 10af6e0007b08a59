from glassworks.oven import minutes_till_cold
from tests.helper import (BIG, QUICK, SHAPE, Case, charge, cool, does, gather, into_oven, into_store, minutes, molten,
                          put, run, sell, shaped, style, take, works_after)


class Put(Case):
    def test_how_many_it_has(self):
        calls = molten(styles=(QUICK,)) + into_oven(8)
        told = [row for call, row in zip(calls, run(calls)) if call == put()]
        self.assertEqual(told, [[1], [2], [3], [4], [5], [6], [7], [8]])

    def test_behind_the_others(self):
        before = molten(styles=(QUICK, style(20, 1, 0, 5)), colour=3) + into_oven(1, 1) + into_oven(2, 0)
        self.assertEqual(works_after(before).oven, [(1, 3), (0, 3), (0, 3)])

    def test_the_team_rests(self):
        before = molten(styles=(QUICK,)) + shaped() + [put()]
        self.refused(before, put(), -6)
        self.refused(before, does(0, 0), -6)
        self.answers(before + [gather(), does(0, SHAPE)], [4980], [0])
        self.assertEqual((works_after(before).teams[0].piece, works_after(before).teams[0].does), (None, 0))

    def test_no_piece(self):
        self.refused(molten(), put(), -6)

    def test_not_all_steps_are_done(self):
        before = molten(styles=(style(10, 2, 0, 1),)) + [gather(), does(0, SHAPE)]
        self.refused(before, put(), -16)
        self.refused(before + [minutes(1)], put(), -16)
        self.let_through(before + [minutes(2)], put(), 1)

    def test_while_it_cools(self):
        before = molten(styles=(QUICK,)) + into_oven(1) + [cool()] + shaped()
        self.refused(before, put(), -71)
        self.refused(before + [minutes(100)], put(), -71)
        self.let_through(before + [minutes(100), take()], put(), 1)

    def test_at_most_8(self):
        self.let_through(molten(styles=(QUICK,)) + into_oven(7) + shaped(), put(), 8)
        self.refused(molten(styles=(QUICK,)) + into_oven(8) + shaped(), put(), -28)

    def test_refusals_in_their_order(self):
        full = molten(styles=(QUICK,)) + into_oven(8)
        self.refused(full + [cool()], put(1), -2)
        self.refused(full + [cool()], put(0), -6)
        self.refused(full + [gather()], put(0), -16)
        self.refused(full + [gather(), cool()], put(0), -16)
        self.refused(full + shaped() + [cool()], put(0), -71)

    def test_a_cold_piece_may_come_in(self):
        before = molten(styles=(style(10, 1, 200, 10),)) + [gather(), does(0, SHAPE), minutes(3)]
        self.let_through(before, put(), 1)


class Cool(Case):
    def test_in_how_many_minutes(self):
        for bears in range(1, 11):
            before = molten(styles=(style(10, 1, 0, bears),)) + into_oven(1)
            told = [450, 225, 150, 113, 90, 75, 65, 57, 50, 45][bears - 1]
            self.let_through(before, cool(), told)
            self.refused(before + [cool(), minutes(told - 1)], take(), -16)
            self.let_through(before + [cool(), minutes(told)], take(), 1)

    def test_pieces_that_bear_differently(self):
        styles = (style(10, 1, 0, 10), style(10, 1, 0, 3), style(10, 1, 0, 7))
        for order in ((0, 1, 2), (1, 0, 2), (2, 0, 1)):
            before = molten(styles=styles)
            for s in order:
                before += into_oven(1, s)
            self.let_through(before, cool(), 150)
            self.refused(before + [cool(), minutes(149)], take(), -16)
            self.let_through(before + [cool(), minutes(150)], take(), 3)
        self.let_through(molten(styles=styles) + into_oven(1, 0) + into_oven(1, 2), cool(), 65)

    def test_down_to_20_and_not_below(self):
        styles = (style(10, 1, 0, 9), style(10, 1, 0, 7))
        before = molten(styles=styles) + into_oven(1, 0) + into_oven(1, 1) + [cool()]
        heats = [works_after(before + [minutes(n)]).oven_heat for n in range(64, 72)]
        self.assertEqual(heats, [52, 45, 38, 31, 24, 20, 20, 20])
        self.let_through(before + [minutes(1440)], take(), 2)

    def test_no_minutes_if_it_is_cold_enough_already(self):
        before = molten(styles=(QUICK,)) + into_oven(1) + [cool()]
        told = [minutes_till_cold(works_after(before + [minutes(n)])) for n in (1, 44, 45, 46, 100)]
        self.assertEqual(told, [44, 1, 0, 0, 0])

    def test_it_stays_at_500_till_it_is_set_to_cool(self):
        before = molten(styles=(QUICK,)) + into_oven(1) + [minutes(1000)]
        self.assertEqual(works_after(before).oven_heat, 500)
        self.let_through(before, cool(), 45)

    def test_empty(self):
        self.refused(molten(), cool(), -6)
        self.refused(molten(styles=(QUICK,)) + into_store(1), cool(), -6)

    def test_cooling(self):
        before = molten(styles=(QUICK,)) + into_oven(1) + [cool()]
        self.refused(before, cool(), -17)
        self.refused(before + [minutes(100)], cool(), -17)


class Take(Case):
    def test_how_many_they_were(self):
        before = molten(styles=(QUICK,)) + into_oven(3) + [cool(), minutes(45)]
        self.answers(before + [take(), sell(), sell(), sell(), sell()], [3], [2], [1], [0], [-6])

    def test_empty(self):
        self.refused(molten(), take(), -6)
        self.refused(molten(styles=(QUICK,)) + into_store(2), take(), -6)

    def test_not_cold_enough(self):
        before = molten(styles=(QUICK,)) + into_oven(1)
        self.refused(before, take(), -16)
        self.refused(before + [minutes(1000)], take(), -16)
        self.refused(before + [cool(), minutes(44)], take(), -16)
        self.let_through(before + [cool(), minutes(45)], take(), 1)
        nearly = molten(styles=(style(10, 1, 0, 1),)) + into_oven(1) + [cool(), minutes(449)]
        self.refused(nearly, take(), -16)
        self.let_through(nearly + [minutes(1)], take(), 1)

    def test_then_it_is_500_and_does_not_cool(self):
        before = molten(styles=(QUICK,)) + into_store(1)
        works = works_after(before)
        self.assertEqual((works.oven, works.oven_heat, works.cooling), ([], 500, False))
        self.let_through(before + shaped() + [put(), minutes(100)], cool(), 45)

    def test_at_most_64_in_the_store(self):
        before = molten(styles=(QUICK,)) + into_store(56)
        self.let_through(before + into_oven(8) + [cool(), minutes(45)], take(), 8)
        before = molten(styles=(QUICK,)) + into_store(57)
        self.let_through(before + into_oven(7) + [cool(), minutes(45)], take(), 7)
        self.refused(before + into_oven(8) + [cool(), minutes(45)], take(), -28)
        self.let_through(before + into_oven(8) + [cool(), minutes(45), take(), sell()], take(), 8)

    def test_not_cold_enough_comes_first(self):
        before = molten(styles=(QUICK,)) + into_store(64) + into_oven(1) + [cool()]
        self.refused(before + [minutes(44)], take(), -16)
        self.refused(before + [minutes(45)], take(), -28)
        self.refused(molten(styles=(QUICK,)) + into_store(64), take(), -6)


class Sell(Case):
    def setUp(self):
        styles = (QUICK, style(20, 1, 0, 10))
        self.before = molten(styles=styles, colour=1) + [(3, 1000), charge(1, 2, 1000, 0), minutes(3)]
        # Two of style 0 and colour 1, one of style 1 and colour 2.
        self.before += shaped(0) + [put()] + shaped(1, 0, 1) + [put()] + shaped(0) + [put()]
        self.before += [cool(), minutes(45), take()]

    def test_how_many_are_in_the_store(self):
        self.answers(self.before + [sell(0, 1), sell(1, 2), sell(0, 1), sell(0, 1)], [2], [1], [0], [-6])

    def test_no_such_piece(self):
        for s, colour in ((0, 0), (0, 2), (1, 1), (1, 0), (2, 1), (0, 4), (5, 1), (BIG, 1), (0, BIG), (BIG, BIG)):
            self.refused(self.before, sell(s, colour), -6)

    def test_what_is_in_the_oven_is_not_in_the_store(self):
        before = self.before + [sell(1, 2)] + shaped(1, 0, 1) + [put()]
        self.refused(before, sell(1, 2), -6)
        self.refused(before + [cool(), minutes(45)], sell(1, 2), -6)
        self.let_through(before + [cool(), minutes(45), take()], sell(1, 2), 2)

    def test_sold_grams(self):
        works = works_after(self.before + [sell(0, 1), sell(1, 2)])
        self.assertEqual((works.sold, works.store), (30, [(0, 1)]))
