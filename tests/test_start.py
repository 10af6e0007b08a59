from tests.helper import (BIG, LOOKS, Case, charge, cool, does, facts, fire, gather, heats, inside, least, line_after,
                          look, minutes, molten, opens, piece, pot, put, ready, run, sell, smash, start, store, style,
                          take, team, who, works_after)


class Start(Case):
    def test_edges_that_are_let_through(self):
        for melt, found, work in ((1000, 1, 600), (1600, 1440, 600), (1600, 1440, 1600), (1000, 1, 1000)):
            self.let_through([], start(melt, found, work), 0)

    def test_edges_that_are_refused(self):
        for melt, found, work in ((999, 1, 600), (1601, 1, 600), (1000, 0, 600), (1000, 1441, 600), (1000, 1, 599),
                                  (1000, 1, 1001), (1600, 1, 1601), (BIG, 1, 600), (1000, BIG, 600), (1000, 1, BIG),
                                  (0, 0, 0), (0, 1, 600), (1000, 1, 0)):
            self.let_through([], start(melt, found, work), -22)
            self.refused(molten(), start(melt, found, work), -22)

    def test_first_starts_may_be_refused(self):
        self.answers([start(999), start(1000, 0), start(), opens()], [-22], [-22], [0], [0, 0])

    def test_a_second_start_makes_all_as_at_first(self):
        calls = molten(teams=2) + [gather(0), gather(1), does(0, 1), minutes(2), put(0), cool(), smash(1), minutes(46),
                                   take(), gather(0), does(0, 1), minutes(2), put(0), cool(), gather(1)]
        calls.append(start(1100, 9, 700))
        self.assertEqual(facts(line_after(calls)), facts(line_after([start(1100, 9, 700)])))
        self.assertEqual(run(calls + LOOKS)[len(calls):], run([start(1100, 9, 700)] + LOOKS)[1:])
        self.answers(calls + [ready(), smash(), style(), team(), pot(), sell(), take(), cool(), charge(0, 0, 0, 1),
                              fire(30), minutes(1)],
                     [0], [-2], [-2], [0], [0], [0], [-6], [-6], [-6], [-12], [20], [1, 30, 0])

    def test_the_three_numbers_of_the_second_start_hold(self):
        calls = [start(1000, 3, 800), start(1100, 5, 700), pot(), charge(0, 0, 1, 0), fire(1600), ready()]
        self.let_through(calls, ready(), 108 + 4)

    def test_at_first(self):
        works = works_after([start(1234, 5, 678)])
        self.assertEqual(facts(works), {
            "melt": 1234, "found": 5, "work": 678, "minute": 0, "heat": 20, "goal": 20, "styles": [], "pots": [],
            "teams": [], "oven": [], "oven_heat": 500, "cooling": False, "store": [], "cullet": [0, 0, 0, 0],
            "raw": 0, "sold": 0, "cracked": 0})


class NoneThere(Case):
    def test_absent_is_looked_at_first(self):
        for call in (charge(0, 4, 0, 0), gather(0, 0, 0), does(0, 3), put(0), smash(0), ready(0), least(0), heats(0),
                     piece(0), look(0), inside(0), who(0), store(0)):
            self.refused([start()], call, -2)

    def test_sell_looks_for_pieces_alone(self):
        self.refused([start()], sell(0, 0), -6)
        self.refused([start()], sell(BIG, BIG), -6)

    def test_the_first_that_is_not_there(self):
        before = molten(teams=2)
        for call in (charge(1, 0, 1, 0), gather(2, 0, 0), gather(0, 1, 0), gather(0, 0, 1), does(2, 0), put(2),
                     smash(2), ready(1)):
            self.refused(before, call, -2)
        for call in (charge(BIG, 0, 1, 0), gather(BIG, 0, 0), gather(0, BIG, 0), gather(0, 0, BIG), does(BIG, 0),
                     put(BIG), smash(BIG), ready(BIG)):
            self.refused(before, call, -2)

    def test_the_last_that_is_there(self):
        before = molten(styles=(style(), style(70)), teams=2) + [pot(5)]
        self.answers(before + [charge(1, 3, 5, 0), gather(1, 0, 1), does(1, 2), smash(1), ready(1)],
                     [5], [4930], [0], [70], [3])


class Refused(Case):
    def test_a_refusal_is_its_number_alone(self):
        self.assertEqual(run([start(), minutes(0)]), [[0], [-22]])
