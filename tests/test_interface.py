import unittest

import glassworks.works
from glassworks.works import answers
from tests.helper import (Case, charge, cool, does, fire, flat, gather, minutes, molten, opens, pot, put, ready, run,
                          sell, smash, start, style, take, team)

DAY = [start(), style(100, 2, 50, 9), team(1), pot(1000), charge(0, 3, 600, 0), fire(1000), ready(), minutes(100),
       opens(), gather(), does(0, 1), minutes(2), put(), cool(), gather(), smash(), minutes(50), take(), sell(0, 3),
       sell(0, 3), charge(0, 3, 0, 100)]
DAY_TOLD = [1, 0, 1, 0, 1, 0, 1, 0, 1, 600, 1, 20, 1, 100, 3, 100, 1000, 0, 2, 1, 1, 1, 500, 1, 0, 3, 102, 1000, 0,
            1, 1, 1, 50, 1, 400, 1, 100, 3, 152, 1000, 0, 1, 1, 1, 0, 1, -6, 1, 500]


class Interface(Case):
    def test_a_whole_day(self):
        self.assertEqual(answers(flat(DAY)), DAY_TOLD)

    def test_by_its_full_name(self):
        self.assertEqual(glassworks.works.answers([0, 1000, 1, 600]), [1, 0])

    def test_what_is_handed_in_is_not_changed(self):
        calls = flat(DAY)
        held = list(calls)
        answers(calls)
        self.assertEqual(calls, held)

    def test_it_is_not_changed_for_a_while_either(self):
        class Held(list):
            def refuse(self, *given):
                raise AssertionError("the list that was handed in is changed")
            append = extend = insert = pop = remove = clear = sort = reverse = refuse
            __setitem__ = __delitem__ = __iadd__ = __imul__ = refuse
        self.assertEqual(answers(Held(flat(DAY))), DAY_TOLD)

    def test_nothing_is_kept_from_one_time_to_the_next(self):
        self.assertEqual([answers(flat(DAY)) for time in range(3)], [DAY_TOLD] * 3)
        answers(flat(molten()))
        self.assertEqual(answers(flat(DAY)), DAY_TOLD)
        self.assertEqual(answers(flat([start(), ready(), sell(), style(), team(), pot(), minutes(1)])),
                         [1, 0, 1, -2, 1, -6, 1, 0, 1, 0, 1, 0, 3, 1, 20, 0])

    def test_what_is_given_back_is_the_callers_own(self):
        told = answers(flat(DAY))
        told.clear()
        self.assertEqual(answers(flat(DAY)), DAY_TOLD)

    def test_kinds(self):
        told = answers(flat(DAY))
        self.assertIs(type(told), list)
        self.assertEqual({type(number) for number in told}, {int})

    def test_a_thousand_calls(self):
        self.assertEqual(run([start()] + [fire(30), fire(20)] * 499 + [minutes(1)])[-1], [1, 20, 0])


if __name__ == "__main__":
    unittest.main()
