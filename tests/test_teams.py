from tests.helper import (BIG, HEAT, REST, SHAPE, TO_READY, Case, charge, does, fire, gather, minutes, molten, pot,
                          put, smash, start, style, team, works_after)


class Styles(Case):
    def test_numbers(self):
        self.answers([start()] + [style()] * 5, [0], [1], [2], [3], [4])

    def test_edges_that_are_let_through(self):
        for call in (style(1, 1, 0, 1), style(5000, 60, 200, 10)):
            self.let_through([start()], call, 0)

    def test_edges_that_are_refused(self):
        for call in (style(0), style(5001), style(BIG), style(steps=0), style(steps=61), style(steps=BIG),
                     style(loses=201), style(loses=BIG), style(bears=0), style(bears=11), style(bears=BIG)):
            self.refused([start()], call, -22)

    def test_at_most_5(self):
        self.refused([start()] + [style()] * 5, style(), -28)

    def test_not_as_told_comes_first(self):
        for call in (style(0), style(steps=61), style(loses=201), style(bears=0)):
            self.refused([start()] + [style()] * 5, call, -22)


class Teams(Case):
    def test_numbers(self):
        self.answers([start(), team(0), team(31), team(1), team(1)], [0], [1], [2], [3])

    def test_edges(self):
        for can in (32, BIG):
            self.refused([start()], team(can), -22)

    def test_at_most_4(self):
        self.refused([start()] + [team()] * 4, team(), -28)
        self.refused([start()] + [team()] * 4, team(32), -22)


class Gather(Case):
    def test_answers_what_the_pot_has(self):
        self.answers(molten(styles=(style(100), style(70)), teams=2, raw=200) + [gather(1, 0, 1), gather(0, 0, 0)],
                     [130], [30])

    def test_the_piece(self):
        works = works_after(molten(styles=(style(), style(70)), colour=3) + [gather(0, 0, 1)])
        piece = works.teams[0].piece
        self.assertEqual((piece.style, piece.colour, piece.heat, piece.done, works.teams[0].does), (1, 3, 1000, 0, 0))

    def test_the_team_has_a_piece(self):
        self.refused(molten() + [gather()], gather(), -17)

    def test_what_the_team_can_make(self):
        styles = (style(10), style(20), style(30), style(40), style(50))
        for can in range(32):
            before = molten(styles=styles, teams=0, raw=1000) + [team(can)]
            for s in range(5):
                told = 1000 - 10 * (s + 1) if can & (1 << s) else -13
                self.let_through(before, gather(0, 0, s), told)
        self.refused(molten(styles=styles, teams=0) + [team(29)], gather(0, 0, 1), -13)

    def test_the_pot_is_not_open(self):
        before = molten()
        self.refused(before[:-1] + [minutes(TO_READY - 1)], gather(), -16)
        self.let_through(before, gather(), 4900)
        self.let_through(before + [fire(800), minutes(20)], gather(), 4900)
        self.refused(before + [fire(799), minutes(21)], gather(), -16)

    def test_less_than_a_pieces_grams(self):
        self.let_through(molten(raw=100), gather(), 0)
        self.refused(molten(raw=99), gather(), -12)

    def test_refusals_in_their_order(self):
        busy = molten(styles=(style(), style()), teams=0) + [team(1), gather()]
        self.refused(busy, gather(1, 0, 0), -2)
        self.refused(busy, gather(0, 1, 0), -2)
        self.refused(busy, gather(0, 0, 2), -2)
        self.refused(busy, gather(0, 0, 1), -17)
        cold = [start(), style(), style(), team(1), pot(), charge(0, 0, 1, 0)]
        self.refused(cold, gather(0, 0, 1), -13)
        self.refused(cold, gather(0, 0, 0), -16)
        self.refused(molten(styles=(style(500), style(500)), teams=2, raw=500) + [gather()], gather(1), -16)
        self.refused(busy + [fire(700), minutes(1)], gather(0, 0, 1), -17)

    def test_it_rests_at_first(self):
        self.answers(molten() + [gather(), does(0, SHAPE), smash(), gather(), does(0, SHAPE)], [0], [100], [4800], [0])


class Does(Case):
    def test_answers_what_it_did(self):
        self.answers(molten() + [gather(), does(0, SHAPE), does(0, HEAT), does(0, HEAT), does(0, REST), does(0, SHAPE)],
                     [0], [1], [2], [2], [0])

    def test_edges(self):
        for what in (3, BIG):
            self.refused(molten() + [gather(), does(0, SHAPE)], does(0, what), -22)

    def test_no_piece(self):
        self.refused(molten(), does(0, SHAPE), -6)

    def test_refusals_in_their_order(self):
        self.refused(molten(), does(1, 3), -2)
        self.refused(molten(), does(0, 3), -22)

    def test_each_team_by_itself(self):
        before = molten(teams=2) + [gather(0), gather(1)]
        self.answers(before + [does(0, SHAPE), does(1, HEAT), does(0, REST), does(1, REST)], [0], [0], [1], [2])


class Smash(Case):
    def test_answers_its_grams(self):
        before = molten(styles=(style(100), style(70)), teams=2) + [gather(0, 0, 1), gather(1, 0, 0)]
        self.answers(before + [smash(0), smash(1)], [70], [100])

    def test_it_is_cullet_of_its_colour(self):
        before = molten(colour=2) + [gather(), smash()]
        self.answers(before + [charge(0, 2, 0, 101), charge(0, 2, 0, 100)], [-12], [5000])
        self.assertEqual(works_after(before).cullet, [0, 0, 100, 0])

    def test_no_piece(self):
        self.refused(molten(), smash(), -6)
        self.refused(molten() + [gather(), smash()], smash(), -6)
        self.refused(molten(), smash(1), -2)

    def test_it_is_not_counted_as_cracked(self):
        self.answers(molten() + [gather(), smash(), minutes(1)], [100], [101, 1000, 0])

    def test_a_shaped_piece_too(self):
        self.answers(molten() + [gather(), does(0, SHAPE), minutes(2), smash()], [100])

    def test_the_team_rests(self):
        works = works_after(molten() + [gather(), does(0, SHAPE), smash()])
        self.assertEqual((works.teams[0].piece, works.teams[0].does), (None, 0))


class PieceMinutes(Case):
    def piece(self, calls):
        piece = works_after(calls).teams[0].piece
        return None if piece is None else (piece.heat, piece.done)

    def test_shaped_rested_heated(self):
        before = molten(styles=(style(100, 3, 50, 1),)) + [gather(), minutes(1)]
        self.assertEqual(self.piece(before), (950, 0))
        before += [does(0, SHAPE), minutes(1)]
        self.assertEqual(self.piece(before), (900, 1))
        before += [does(0, HEAT), minutes(1)]
        self.assertEqual(self.piece(before), (1000, 1))
        before += [does(0, SHAPE), minutes(3)]
        self.assertEqual(self.piece(before), (850, 3))

    def test_shaped_at_just_work_and_not_below(self):
        # 1,000, 800: both are hot enough; 600 isn't.
        before = molten(styles=(style(100, 3, 200, 1),)) + [gather(), does(0, SHAPE), minutes(1)]
        self.assertEqual(self.piece(before), (800, 1))
        self.assertEqual(self.piece(before + [minutes(1)]), (600, 2))
        self.assertEqual(self.piece(before + [minutes(2)]), (400, 2))
        self.refused(before + [minutes(2)], put(), -16)
        self.let_through(molten(styles=(style(100, 2, 200, 1),)) + [gather(), does(0, SHAPE), minutes(2)], put(), 1)

    def test_not_shaped_one_degree_below_work(self):
        before = molten(styles=(style(100, 2, 200, 1),)) + [fire(999), minutes(1), gather(), does(0, SHAPE), minutes(2)]
        self.assertEqual(self.piece(before), (599, 1))
        self.refused(before, put(), -16)

    def test_at_400_it_holds_and_below_it_cracks(self):
        before = molten(styles=(style(100, 3, 200, 1),), colour=1) + [gather(), minutes(3)]
        self.let_through(before[:-1], minutes(3), 103, 1000, 0)
        self.assertEqual(self.piece(before), (400, 0))
        self.let_through(before, minutes(1), 104, 1000, 1)
        self.assertIsNone(self.piece(before + [minutes(1)]))
        self.let_through(molten(styles=(style(100, 3, 200, 1),)) + [fire(999), minutes(1), gather()], minutes(3),
                         104, 999, 1)

    def test_a_cracked_piece_is_cullet_and_the_team_rests(self):
        before = molten(styles=(style(100, 3, 200, 1), style(70)), colour=1) + [gather(), does(0, SHAPE), minutes(4)]
        works = works_after(before)
        self.assertEqual((works.cullet, works.cracked, works.teams[0].piece, works.teams[0].does),
                         ([0, 100, 0, 0], 1, None, 0))
        self.answers(before + [smash(), does(0, REST), charge(0, 1, 0, 101), gather(0, 0, 1), does(0, SHAPE),
                               charge(0, 1, 0, 100), charge(0, 1, 0, 1)],
                     [-6], [-6], [-12], [4830], [0], [4930], [-12])

    def test_a_shaped_piece_loses_and_cracks_too(self):
        before = molten(styles=(style(100, 1, 200, 1),)) + [gather(), does(0, SHAPE), minutes(3)]
        self.assertEqual(self.piece(before), (400, 1))
        self.let_through(before, minutes(1), 104, 1000, 1)

    def test_one_that_loses_nothing(self):
        before = molten(styles=(style(100, 60, 0, 1),)) + [gather(), does(0, SHAPE), minutes(59)]
        self.refused(before, put(), -16)
        self.let_through(before + [minutes(1)], put(), 1)
        self.assertEqual(self.piece(before + [minutes(1440)]), (1000, 60))

    def test_no_more_steps_than_there_are(self):
        before = molten(styles=(style(100, 2, 10, 1),)) + [gather(), does(0, SHAPE), minutes(9)]
        self.assertEqual(self.piece(before), (910, 2))

    def test_heated_it_never_gets_colder(self):
        # Gathered at 1,000, heated while the furnace comes down to 900: it's 1,000 still, and so is shaped twice.
        before = molten(styles=(style(100, 2, 200, 1),)) + [gather(), does(0, HEAT), fire(900), minutes(10)]
        self.assertEqual(self.piece(before), (1000, 0))
        self.let_through(before + [does(0, SHAPE), minutes(2)], put(), 1)

    def test_heated_it_is_as_hot_as_the_furnace_has_come_to_be(self):
        # The furnace comes from 800 to 810 first; 810 and 800 are hot enough to be shaped, 790 isn't.
        before = molten(styles=(style(100, 2, 10, 1),)) + [fire(800), minutes(20), gather(), does(0, HEAT), fire(1000)]
        self.assertEqual(self.piece(before + [minutes(1)]), (810, 0))
        self.let_through(before + [minutes(1), does(0, SHAPE), minutes(2)], put(), 1)

    def test_heated_in_a_furnace_colder_than_work(self):
        # It's 700 degrees hot again, which is below work: it's heated, but can't be shaped.
        before = molten(styles=(style(100, 2, 10, 1),)) + [gather(), fire(700), minutes(50), does(0, HEAT), minutes(1)]
        self.assertEqual(self.piece(before[:-1]), (500, 0))
        self.assertEqual(self.piece(before), (700, 0))
        self.assertEqual(self.piece(before + [does(0, SHAPE), minutes(1)]), (690, 0))

    def test_heated_in_a_furnace_colder_than_the_piece(self):
        before = molten(styles=(style(100, 2, 0, 1),)) + [gather(), does(0, HEAT), fire(20), minutes(98)]
        self.assertEqual(self.piece(before), (1000, 0))
        self.let_through(before, minutes(1), 199, 20, 0)

    def test_resting_nothing_is_shaped(self):
        before = molten(styles=(style(100, 1, 10, 1),)) + [gather(), minutes(5)]
        self.refused(before, put(), -16)
        self.refused(before + [does(0, HEAT), minutes(5)], put(), -16)

    def test_each_piece_by_itself(self):
        styles = (style(100, 3, 200, 1), style(70, 3, 150, 1), style(30, 3, 0, 1))
        before = molten(styles=styles, teams=4) + [gather(0, 0, 0), gather(1, 0, 1), gather(2, 0, 2), gather(3, 0, 0)]
        before += [does(3, HEAT)]
        self.answers(before + [minutes(3), minutes(1), minutes(1), minutes(100)],
                     [103, 1000, 0], [104, 1000, 1], [105, 1000, 2], [205, 1000, 2])
        works = works_after(before + [minutes(50)])
        self.assertEqual([team.piece is None for team in works.teams], [True, True, False, False])
        self.assertEqual(works.cullet, [170, 0, 0, 0])

    def test_cracks_are_counted_on(self):
        before = molten(styles=(style(100, 3, 200, 1),)) + [gather(), minutes(4), gather(), minutes(3)]
        self.let_through(before, minutes(1), 108, 1000, 2)
