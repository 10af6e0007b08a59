import unittest

import glassworks.works
from glassworks.works import answers
from tests.helper import (Case, again, any_list, back, charge, cold, cool, cullet, does, fire, flat, free, furnace,
                          gather, grams, heats, inside, least, look, minutes, molten, opens, oven, piece, pot, put,
                          ready, run, sell, smash, start, state, store, style, take, team, who)

# Each call once at least, with what it answers.
DAY = (
    (start(), [0]), (style(100, 2, 50, 9), [0]), (team(1), [0]), (pot(1000), [0]), (charge(0, 3, 600, 0), [600]),
    (fire(1000), [20]), (ready(), [100]), (minutes(100), [100, 1000, 0]), (opens(), [1, 1]), (free(), [1, 1]),
    (who(0), [1, 1]), (heats(0), [0, 2]), (gather(), [500]), (least(), [2]), (does(0, 1), [0]),
    (minutes(2), [102, 1000, 0]), (piece(), [0, 3, 900, 2, 1]), (put(), [1]), (cold(), [50]), (cool(), [50]),
    (gather(), [400]), (smash(), [100]), (cullet(3), [100]), (minutes(50), [152, 1000, 0]), (oven(), [1, 50, 1, 9]),
    (inside(0), [0, 3]), (take(), [1]), (store(0), [1, 0, 0, 0, 1]), (grams(), [600, 400, 0, 0, 100, 100, 0]),
    (sell(0, 3), [0]), (sell(0, 3), [-6]), (back(), [15]), (state(), [152, 1, 1, 1, 0, 15, 1]), (again(), [0]),
    (charge(0, 3, 0, 100), [500]), (look(), [500, 1000, 3, 0]), (furnace(), [1000, 1000, 152]), (again(), [-2]),
    (grams(), [600, 500, 0, 0, 0, 0, 100]), (state(), [152, 1, 1, 1, 0, 17, 0]))
DAY_TOLD = [number for call, told in DAY for number in [len(told)] + told]
DAY = [call for call, told in DAY]


class Interface(Case):
    def test_a_day_has_every_call(self):
        self.assertEqual(sorted({call[0] for call in DAY}), list(range(32)))

    def test_a_whole_day(self):
        self.assertEqual(answers(flat(DAY)), DAY_TOLD)

    def test_by_its_full_name(self):
        self.assertEqual(glassworks.works.answers([0, 1000, 1, 600]), [1, 0])

    def test_what_is_handed_in_is_not_changed(self):
        calls = flat(DAY)
        held = list(calls)
        answers(calls)
        self.assertEqual(calls, held)

    def test_it_is_not_changed_for_a_while_either(self):
        class Held(list):
            def refuse(self, *given):
                raise AssertionError("the list that was handed in is changed")
            append = extend = insert = pop = remove = clear = sort = reverse = refuse
            __setitem__ = __delitem__ = __iadd__ = __imul__ = refuse
        self.assertEqual(answers(Held(flat(DAY))), DAY_TOLD)

    def test_nothing_is_kept_from_one_time_to_the_next(self):
        self.assertEqual([answers(flat(DAY)) for time in range(3)], [DAY_TOLD] * 3)
        answers(flat(molten()))
        self.assertEqual(answers(flat(DAY)), DAY_TOLD)
        self.assertEqual(answers(flat([start(), ready(), sell(), style(), team(), pot(), minutes(1)])),
                         [1, 0, 1, -2, 1, -6, 1, 0, 1, 0, 1, 0, 3, 1, 20, 0])

    def test_what_is_given_back_is_the_callers_own(self):
        told = answers(flat(DAY))
        told.clear()
        self.assertEqual(answers(flat(DAY)), DAY_TOLD)

    def test_kinds(self):
        told = answers(flat(DAY))
        self.assertIs(type(told), list)
        self.assertEqual({type(number) for number in told}, {int})

    def test_a_thousand_calls(self):
        self.assertEqual(run([start()] + [fire(30), fire(20)] * 499 + [minutes(1)])[-1], [1, 20, 0])
        self.assertEqual(run([start()] + [fire(30), back()] * 499 + [furnace()])[-1], [20, 20, 0])

    def test_a_thousand_calls_of_all_kinds(self):
        for seed in range(5):
            calls = (any_list(seed) + any_list(seed + 100) + any_list(seed + 200))[:1000]
            self.assertEqual(len(calls), 1000)
            handed = flat(calls)
            held = list(handed)
            told = answers(handed)
            self.assertEqual(handed, held)
            self.assertEqual(answers(handed), told)
            self.assertEqual({type(number) for number in told}, {int})
            rows = run(calls)
            # A start leaves nothing of what was before it.
            at = len(any_list(seed))
            self.assertEqual(run(calls[at:]), rows[at:])
            self.assertEqual(run(calls[:at]), rows[:at])

    def test_starts_that_are_refused_come_first(self):
        self.assertEqual(answers(flat([start(999), start(1000, 0)] + DAY)), [1, -22, 1, -22] + DAY_TOLD)
        self.assertEqual(answers(flat([start(999)])), [1, -22])


if __name__ == "__main__":
    unittest.main()
