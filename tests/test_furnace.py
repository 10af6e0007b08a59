from tests.helper import (BIG, TO_MELT, TO_READY, Case, charge, fire, gather, last, minutes, molten, opens, pot, ready,
                          run, smash, start, style, team, works_after)


class Fire(Case):
    def test_answers_how_hot_it_is(self):
        self.answers([start(), fire(1600), minutes(7), fire(300), minutes(1), fire(20)],
                     [20], [7, 90, 0], [90], [8, 100, 0], [100])

    def test_edges(self):
        self.let_through([start()], fire(20), 20)
        self.let_through([start()], fire(1600), 20)
        for t in (19, 1601, 0, BIG):
            self.refused([start(), fire(500), minutes(3)], fire(t), -22)

    def test_at_first_it_stays_at_20(self):
        self.answers([start(), minutes(1), minutes(1000)], [1, 20, 0], [1001, 20, 0])

    def test_up_by_less_than_10_at_the_end(self):
        self.answers([start(), fire(43)] + [minutes(1)] * 4, [1, 30, 0], [2, 40, 0], [3, 43, 0], [4, 43, 0])

    def test_down_by_less_than_10_at_the_end(self):
        self.answers([start(), fire(61), minutes(5), fire(38)] + [minutes(1)] * 4,
                     [6, 51, 0], [7, 41, 0], [8, 38, 0], [9, 38, 0])

    def test_just_10_and_back_to_20(self):
        self.answers([start(), fire(30), minutes(1), minutes(1), fire(20), minutes(1), minutes(1)],
                     [1, 30, 0], [2, 30, 0], [30], [3, 20, 0], [4, 20, 0])

    def test_by_one(self):
        self.answers([start(), fire(21), minutes(1), fire(20), minutes(1)], [1, 21, 0], [21], [2, 20, 0])

    def test_all_the_way_up(self):
        self.answers([start(), fire(1600), minutes(157), minutes(1), minutes(1)],
                     [157, 1590, 0], [158, 1600, 0], [159, 1600, 0])


class Pots(Case):
    def test_numbers(self):
        self.answers([start(), pot(1), pot(500000), pot(7), pot(7)], [0], [1], [2], [3])

    def test_edges(self):
        for most in (0, 500001, BIG):
            self.refused([start()], pot(most), -22)

    def test_at_most_4(self):
        self.refused([start()] + [pot()] * 4, pot(), -28)

    def test_not_as_told_comes_first(self):
        self.refused([start()] + [pot()] * 4, pot(0), -22)
        self.refused([start()] + [pot()] * 4, pot(500001), -22)

    def test_a_refused_pot_takes_no_number(self):
        self.answers([start(), pot(0), pot(1)], [-22], [0])

    def test_it_is_empty(self):
        self.answers([start(), pot(10), charge(0, 3, 10, 0)], [0], [10])
        made = works_after([start(), pot(10)]).pots[0]
        self.assertEqual((made.most, made.colour, made.grams, made.hot), (10, 0, 0, 0))


class Charge(Case):
    def setUp(self):
        # 300 grams of cullet of colour 2, 100 of colour 0.
        self.with_cullet = molten(styles=(style(300), style(100)), colour=2) + [gather(), smash()]
        self.with_cullet += [pot(1000), charge(1, 0, 1000, 0), minutes(3), gather(0, 1, 1), smash(), pot(400)]

    def test_raw(self):
        self.answers([start(), pot(100), charge(0, 1, 30, 0), charge(0, 1, 70, 0)], [30], [100])

    def test_raw_and_cullet(self):
        self.answers(self.with_cullet + [charge(2, 2, 50, 200), charge(2, 2, 0, 101), charge(2, 2, 0, 100)],
                     [250], [-12], [350])
        works = works_after(self.with_cullet + [charge(2, 2, 50, 200)])
        self.assertEqual((works.cullet, works.raw), ([100, 0, 100, 0], 6050))

    def test_colour_edges(self):
        for colour in (4, BIG):
            self.refused([start(), pot()], charge(0, colour, 1, 0), -22)
        for colour in range(4):
            self.let_through([start(), pot()], charge(0, colour, 1, 0), 1)
            self.assertEqual(works_after([start(), pot(), charge(0, colour, 1, 0)]).pots[0].colour, colour)

    def test_gram_edges(self):
        before = [start(), pot(500000)]
        self.refused(before, charge(0, 0, 0, 0), -22)
        self.let_through(before, charge(0, 0, 500000, 0), 500000)
        self.refused(before, charge(0, 0, 500001, 0), -22)
        self.refused(before, charge(0, 0, 0, 500001), -22)
        self.refused(before, charge(0, 0, BIG, BIG), -22)
        self.refused(before, charge(0, 0, 0, 500000), -12)
        self.refused(before, charge(0, 0, 500000, 500000), -62)

    def test_another_colour(self):
        self.refused([start(), pot(), charge(0, 1, 1, 0)], charge(0, 2, 1, 0), -13)
        self.refused([start(), pot(), charge(0, 1, 1, 0)], charge(0, 0, 1, 0), -13)

    def test_another_colour_if_it_is_empty_again(self):
        emptied = molten(styles=(style(500),), colour=1, raw=500) + [gather()]
        self.let_through(emptied, charge(0, 2, 40, 0), 40)
        nearly = molten(styles=(style(499),), colour=1, raw=500) + [gather()]
        self.refused(nearly, charge(0, 2, 40, 0), -13)

    def test_how_much_it_holds(self):
        before = [start(), pot(100), charge(0, 0, 60, 0)]
        self.let_through(before, charge(0, 0, 40, 0), 100)
        self.refused(before, charge(0, 0, 41, 0), -62)
        self.let_through(self.with_cullet, charge(2, 2, 150, 250), 400)
        self.refused(self.with_cullet, charge(2, 2, 150, 251), -62)

    def test_cullet_of_that_colour(self):
        self.let_through(self.with_cullet, charge(2, 2, 0, 300), 300)
        self.refused(self.with_cullet, charge(2, 2, 0, 301), -12)
        self.let_through(self.with_cullet, charge(2, 0, 0, 100), 100)
        self.refused(self.with_cullet, charge(2, 0, 0, 101), -12)
        self.refused(self.with_cullet, charge(2, 1, 0, 1), -12)

    def test_raw_that_was_ever_charged(self):
        before = [start()] + [pot(500000)] * 4 + [charge(0, 0, 500000, 0), charge(1, 0, 500000, 0)]
        self.answers(before + [charge(2, 0, 499999, 0), charge(3, 0, 2, 0), charge(3, 0, 1, 0), charge(3, 0, 1, 0)],
                     [499999], [-28], [1], [-28])
        self.refused(before + [charge(2, 0, 500000, 0)], charge(3, 0, 1, 0), -28)

    def test_raw_counts_that_is_no_longer_in_pots_and_cullet_does_not(self):
        # 4 times 5,000 grams are smashed, and charged again at the last gram of raw glass.
        before = [start(), style(5000, 1, 0, 1), team()] + [pot(500000)] * 4
        before += [charge(p, 0, 500000, 0) for p in range(3)] + [fire(1000), minutes(TO_READY)]
        before += [gather(), smash()] * 4
        self.refused(before, charge(3, 0, 1, 0), -28)
        self.refused(before, charge(3, 0, 1, 20000), -28)
        self.let_through(before, charge(3, 0, 0, 20000), 20000)

    def test_refusals_in_their_order(self):
        before = self.with_cullet + [charge(2, 2, 10, 0)]
        self.refused(before, charge(3, 4, 0, 0), -2)
        self.refused(before, charge(2, 1, 0, 0), -22)
        self.refused(before, charge(2, 4, 1, 0), -22)
        self.refused(before, charge(2, 1, 500001, 0), -22)
        self.refused(before, charge(2, 1, 400, 0), -13)
        self.refused(before, charge(2, 1, 0, 1), -13)
        self.refused(before, charge(2, 2, 0, 400), -62)
        full = [start()] + [pot(500000)] * 4 + [charge(p, 0, 500000, 0) for p in range(3)]
        self.refused(full, charge(3, 0, 1, 1), -12)
        self.refused(full, charge(2, 0, 1, 0), -62)
        self.refused(full, charge(2, 1, 1, 0), -13)

    def test_it_has_been_hot_for_0_minutes(self):
        before = molten()
        self.answers(before + [opens(), charge(0, 0, 1, 0), opens(), ready(), minutes(2), opens(), minutes(1), opens()],
                     [1, 1], [5001], [0, 0], [3], [102, 1000, 0], [0, 0], [103, 1000, 0], [1, 1])


class Ready(Case):
    charged = [start(), pot(), charge(0, 0, 1, 0)]

    def test_on_the_way_up(self):
        self.let_through(self.charged + [fire(1000)], ready(), TO_READY)
        self.let_through(self.charged + [fire(1600)], ready(), TO_READY)

    def test_the_minute_before_and_the_minute(self):
        self.answers(self.charged + [fire(1000), minutes(TO_READY - 1), ready(), opens(), minutes(1), ready(), opens(),
                                     minutes(1), ready()],
                     [99, 1000, 0], [1], [0, 0], [100, 1000, 0], [0], [1, 1], [101, 1000, 0], [0])

    def test_the_furnace_just_short_of_melt(self):
        self.refused(self.charged + [fire(999)], ready(), -33)
        self.refused(self.charged + [fire(999), minutes(1440)], ready(), -33)
        self.let_through(self.charged + [fire(999), minutes(1440), fire(1000)], ready(), 3)

    def test_empty(self):
        self.refused([start(), pot(), fire(1600), minutes(1440)], ready(), -33)
        self.refused(molten(styles=(style(500),), raw=500) + [gather()], ready(), -33)

    def test_at_first_never(self):
        self.refused(self.charged, ready(), -33)

    def test_within_1440_minutes(self):
        for found, told in ((1343, 1440), (1344, -33), (1440, -33)):
            before = [start(1000, found, 800), pot(), charge(0, 0, 1, 0), fire(1000)]
            self.let_through(before, ready(), told)
        before = [start(1000, 1440, 800), pot(), fire(1000), minutes(TO_MELT), charge(0, 0, 1, 0)]
        self.let_through(before, ready(), 1440)
        self.let_through(before[:3] + [minutes(TO_MELT - 1), charge(0, 0, 1, 0)], ready(), 1440)
        self.refused(before[:3] + [minutes(TO_MELT - 2), charge(0, 0, 1, 0)], ready(), -33)

    def test_while_it_cools(self):
        # At 1,020, on the way down: 1,010 and 1,000 are still hot.
        for found, told in ((1, 1), (2, 2), (3, -33)):
            before = [start(1000, found, 800), pot(), fire(1020), minutes(100), charge(0, 0, 1, 0), fire(20)]
            self.let_through(before, ready(), told)
            after = last(before + [minutes(20), ready()])
            self.assertEqual(after, [0] if told > 0 else [-33])

    def test_down_to_melt_itself(self):
        before = [start(1000, 50, 800), pot(), fire(1020), minutes(100), charge(0, 0, 1, 0), fire(1000)]
        self.let_through(before, ready(), 50)

    def test_what_it_has_been_hot_for_stays(self):
        # Two hot minutes at 1,000; then the furnace cools below it, and comes up again.
        before = self.charged + [fire(1000), minutes(99), fire(900), minutes(10)]
        self.refused(before, ready(), -33)
        self.let_through(before + [fire(1000)], ready(), 10)
        self.answers(before + [fire(1000), minutes(9), opens(), minutes(1), opens()],
                     [118, 990, 0], [0, 0], [119, 1000, 0], [1, 1])

    def test_ready_though_the_furnace_is_cold(self):
        self.answers(molten() + [fire(20), minutes(98), ready(), opens()], [198, 20, 0], [0], [0, 0])

    def test_not_more_than_found(self):
        works = works_after(self.charged + [fire(1000), minutes(TO_READY + 500)])
        self.assertEqual(works.pots[0].hot, 3)

    def test_a_pot_with_nothing_is_not_hot(self):
        works = works_after([start(), pot(), fire(1000), minutes(TO_READY + 500)])
        self.assertEqual(works.pots[0].hot, 0)

    def test_another_pot(self):
        before = [start(), pot(), pot(), charge(1, 0, 1, 0), fire(1000)]
        self.answers(before + [ready(0), ready(1)], [-33], [100])

    def test_nothing_changes(self):
        before = self.charged + [fire(1000), minutes(50)]
        self.assertEqual(run(before + [ready(), ready(), minutes(1)])[-3:], [[50], [50], [51, 530, 0]])


class Opens(Case):
    def test_none(self):
        self.let_through([start()], opens(), 0, 0)
        self.let_through([start(), pot(), pot()], opens(), 0, 0)

    def test_bits(self):
        before = [start(), pot(), pot(), pot(), pot(), charge(1, 0, 1, 0), charge(3, 2, 1, 0), fire(1000)]
        before += [minutes(TO_READY - 1)]
        self.answers(before + [opens(), charge(0, 1, 1, 0), minutes(1), opens(), minutes(2), opens()],
                     [0, 0], [1], [100, 1000, 0], [2, 10], [102, 1000, 0], [3, 11])

    def test_all(self):
        before = [start()] + [pot()] * 4 + [charge(p, p, 1, 0) for p in range(4)] + [fire(1000), minutes(TO_READY)]
        self.let_through(before, opens(), 4, 15)

    def test_just_as_hot_as_work(self):
        self.let_through(molten() + [fire(800), minutes(20)], opens(), 1, 1)
        self.let_through(molten() + [fire(799), minutes(20)], opens(), 1, 1)
        self.let_through(molten() + [fire(799), minutes(21)], opens(), 0, 0)

    def test_emptied(self):
        self.let_through(molten(styles=(style(500),), raw=500) + [gather()], opens(), 0, 0)
        self.let_through(molten(styles=(style(499),), raw=500) + [gather()], opens(), 1, 1)
