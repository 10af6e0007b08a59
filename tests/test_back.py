"""gl_back, gl_again, gl_state: changes that are taken back and done again."""

import random

from tests.helper import (BACK_AND_AGAIN, BIG, HEAT, LOOKS, QUICK, SHAPE, Case, again, any_list, back, charge, cool,
                          does, facts, fire, furnace, gather, into_oven, line_after, looked, minutes, molten, piece,
                          pot, put, ready, run, sell, shaped, smash, start, state, style, take, team, works_after)

BUSY = molten(styles=(QUICK, style(300, 3, 200, 7)), teams=3, colour=2) + [gather(2, 0, 1), does(2, HEAT)]
STORED = BUSY + into_oven(2) + [cool(), minutes(45)]

# Each of the 13 changes, with what comes ahead of it, and what it answers.
CHANGES = (
    (BUSY, style(7, 6, 5, 4), [2]),
    (BUSY, team(5), [3]),
    (BUSY, pot(70), [1]),
    (BUSY + [gather(), smash()], charge(0, 2, 5, 4), [4699]),
    (BUSY, fire(1234), [1000]),
    (BUSY, gather(1, 0, 1), [4400]),
    (BUSY, does(2, SHAPE), [2]),
    (BUSY + into_oven() + [gather(1, 0, 1), does(2, SHAPE), charge(0, 2, 1, 0), cool(), fire(950)], minutes(4),
     [105, 960, 2]),
    (BUSY + into_oven() + shaped(), put(), [2]),
    (BUSY + into_oven(), cool(), [45]),
    (STORED, take(), [2]),
    (BUSY, smash(2), [300]),
    (STORED + [take()], sell(0, 2), [1]),
)


class EachChange(Case):
    def test_there_are_13(self):
        self.assertEqual([change[0] for before, change, told in CHANGES], list(range(1, 14)))

    def test_taken_back_and_done_again(self):
        for before, change, told in CHANGES:
            was, state_was = looked(before)
            now, state_now = looked(before + [change])
            self.assertEqual(run(before + [change])[-1], told)
            self.assertNotEqual((was, state_was[:5]), (now, state_now[:5]))
            can_be = state_now[5]
            taken = before + [change, back()]
            self.answers(taken, [can_be - 1])
            self.assertEqual(looked(taken), (was, state_was[:5] + [can_be - 1, 1]))
            self.answers(taken + [again()], [0])
            self.assertEqual(looked(taken + [again()]), (now, state_now[:5] + [can_be, 0]))
            self.answers(taken + [again(), back(), again(), back()], [can_be - 1])
            self.assertEqual(looked(taken + [again(), back()]), (was, state_was[:5] + [can_be - 1, 1]))

    def test_all_that_is_kept(self):
        for before, change, told in CHANGES:
            self.assertEqual(facts(works_after(before + [change, back()])), facts(works_after(before)))
            self.assertEqual(facts(works_after(before + [change, back(), again()])),
                             facts(works_after(before + [change])))

    def test_what_goes_on_behind_it_does_not_reach_what_was(self):
        # Behind the change much else happens, and it's taken back too.
        for before, change, told in CHANGES:
            more = [charge(0, 2, 1, 0), does(2, SHAPE), minutes(3), fire(777), gather(0), smash(2), sell(0, 2), pot(9)]
            made = [call for call, row in zip(more, run(before + [change] + more)[len(before) + 1:]) if row[0] >= 0]
            calls = before + [change] + more + [back()] * (len(made) + 1)
            self.assertEqual(looked(calls)[0], looked(before)[0])
            self.assertEqual(looked(calls + [again()])[0], looked(before + [change])[0])
            self.assertEqual(looked(calls + [again()] * (len(made) + 1))[0], looked(before + [change] + more)[0])

    def test_each_leaves_nothing_to_be_done_again(self):
        for before, change, told in CHANGES:
            calls = before + [fire(555), fire(666), back(), back()]
            many = run(calls + [state()])[-1][5]
            self.assertEqual(run(calls + [change, state()])[-1][5:], [many + 1, 0])
            self.answers(calls + [change, again()], told, [-2])
            self.assertEqual(looked(calls + [change, again()])[0], looked(before + [change])[0])

    def test_a_change_that_changes_nothing_is_one_too(self):
        before = molten() + [gather(), does(0, SHAPE)]
        many = run(before + [state()])[-1][5]
        self.answers(before + [does(0, SHAPE), state()], [1], [100, 1, 1, 1, 0, many + 1, 0])
        self.answers(before + [fire(1000), back()], [1000], [many])


# What 21 times gl_back or gl_again answers, if there are 20 of them.
TWENTY = [[number] for number in range(19, -1, -1)] + [[-2]]


class HowMany(Case):
    def heated(self, many):
        return [start()] + [fire(100 + number) for number in range(many)]

    def test_none(self):
        self.refused([start()], back(), -2)
        self.refused([start()], again(), -2)
        self.refused([start(), fire(30)], again(), -2)
        self.refused([start(), fire(30), back()], back(), -2)
        self.refused([start(), fire(30), back(), again()], again(), -2)

    def test_one_by_one(self):
        calls = self.heated(3)
        self.answers(calls + [back(), furnace(), back(), furnace(), again(), furnace(), back(), back(), furnace(),
                              back()],
                     [2], [20, 101, 0], [1], [20, 100, 0], [1], [20, 101, 0], [1], [0], [20, 20, 0], [-2])
        self.answers(calls + [back()] * 3 + [again(), furnace(), again(), furnace(), again(), furnace(), again()],
                     [2], [20, 100, 0], [1], [20, 101, 0], [0], [20, 102, 0], [-2])

    def test_19_changes(self):
        told = run(self.heated(19) + [back()] * 20)[20:]
        self.assertEqual(told, [[number] for number in range(18, -1, -1)] + [[-2]])

    def test_20_changes(self):
        calls = self.heated(20)
        self.let_through(calls, state(), 0, 0, 0, 0, 0, 20, 0)
        told = run(calls + [back()] * 21 + [furnace(), state()])[21:]
        self.assertEqual(told, TWENTY + [[20, 20, 0], [0, 0, 0, 0, 0, 0, 20]])

    def test_21_changes(self):
        calls = self.heated(21)
        self.let_through(calls, state(), 0, 0, 0, 0, 0, 20, 0)
        told = run(calls + [back()] * 21 + [furnace(), state()])[22:]
        self.assertEqual(told, TWENTY + [[20, 100, 0], [0, 0, 0, 0, 0, 0, 20]])

    def test_20_done_again(self):
        calls = self.heated(21) + [back()] * 21
        told = run(calls + [again()] * 21 + [furnace(), state()])[len(calls):]
        self.assertEqual(told, TWENTY + [[20, 120, 0], [0, 0, 0, 0, 0, 20, 0]])

    def test_many_more(self):
        calls = self.heated(300)
        self.answers(calls + [back()] * 20 + [furnace(), back()], [0], [20, 379, 0], [-2])

    def test_some_taken_back_and_others_made(self):
        calls = self.heated(20) + [back()] * 5 + [fire(500)]
        self.answers(calls + [state(), again(), back(), furnace()], [0, 0, 0, 0, 0, 16, 0], [-2], [15], [20, 114, 0])
        self.answers(calls + [back()] * 17 + [furnace()], [0], [-2], [20, 20, 0])
        self.answers(calls + [fire(501), fire(502), fire(503), fire(504), fire(505), state()],
                     [20], [0, 0, 0, 0, 0, 20, 0])

    def test_back_and_again_are_no_changes(self):
        calls = self.heated(4) + [back(), again()] * 50
        self.answers(calls + [state(), back(), back(), back(), back(), back()],
                     [0, 0, 0, 0, 0, 4, 0], [3], [2], [1], [0], [-2])


class Between(Case):
    # BUSY makes 11 changes; one of these three stays, two can be done again.
    taken = BUSY + [fire(555), fire(666), fire(777), back(), back()]

    def test_a_refused_change_leaves_what_can_be_done_again(self):
        refused = (style(0), team(32), pot(0), charge(0, 1, 1, 0), fire(19), gather(2, 0, 0), does(0, 1), minutes(0),
                   put(0), cool(), take(), smash(0), sell(0, 0))
        self.assertEqual([call[0] for call in refused], list(range(1, 14)))
        for call in refused:
            self.assertLess(run(self.taken + [call])[-1][0], 0)
            self.answers(self.taken + [call, again(), furnace(), again(), furnace()],
                         [1], [1000, 666, 100], [0], [1000, 777, 100])
            self.leaves_all(self.taken, call)

    def test_a_look_leaves_what_can_be_done_again(self):
        for call in LOOKS:
            self.answers(self.taken + [call, again(), furnace(), again(), furnace()],
                         [1], [1000, 666, 100], [0], [1000, 777, 100])

    def test_looks_of_every_kind_leave_all(self):
        seen = {}
        for call in LOOKS:
            if seen.setdefault(call[0], call) == call:
                self.leaves_all(self.taken, call)
        self.assertEqual(sorted(seen), list(range(14, 29)) + [31])

    def test_a_change_behind_some_that_were_done_again(self):
        self.answers(self.taken + [again(), fire(888), again(), back(), furnace(), back(), furnace(), back(),
                                   furnace()],
                     [-2], [13], [1000, 666, 100], [12], [1000, 555, 100], [11], [1000, 1000, 100])

    def test_start_refused(self):
        for call in (start(999), start(1000, 0), start(1000, 1, 599), start(BIG, BIG, BIG)):
            self.refused(self.taken, call, -22)
            self.answers(self.taken + [call, again(), back()], [1], [12])

    def test_start(self):
        calls = self.taken + [start(1100, 9, 700)]
        self.refused(calls, back(), -2)
        self.refused(calls, again(), -2)
        self.answers(calls + [state()], [0, 0, 0, 0, 0, 0, 0])
        self.assertEqual(facts(line_after(calls)), facts(line_after([start(1100, 9, 700)])))
        self.answers(calls + [fire(40), back(), back()], [20], [0], [-2])
        self.assertEqual(run(calls + BACK_AND_AGAIN)[len(calls):], run([start(1100, 9, 700)] + BACK_AND_AGAIN)[1:])


class State(Case):
    def test_at_first(self):
        self.let_through([start()], state(), 0, 0, 0, 0, 0, 0, 0)

    def test_how_many(self):
        before = [start(), style(), team(), team(), pot(), pot(), pot(), minutes(7)]
        self.answers(before + [state()], [7, 1, 2, 3, 0, 7, 0])
        self.answers(before + [back(), back(), state()], [0, 1, 2, 2, 0, 5, 2])
        self.answers(before + [back(), back(), again(), state()], [0, 1, 2, 3, 0, 6, 1])

    def test_cracked(self):
        before = molten(styles=(style(100, 2, 200, 1),), teams=2) + [gather(0), gather(1)]
        self.answers(before + [minutes(3), state(), minutes(1), state()],
                     [103, 1, 2, 1, 0, 10, 0], [104, 1000, 2], [104, 1, 2, 1, 2, 11, 0])
        self.answers(before + [minutes(4), gather(0), smash(0), state()], [104, 1, 2, 1, 2, 12, 0])
        self.answers(before + [minutes(4), back(), state()], [100, 1, 2, 1, 0, 9, 1])

    def test_it_changes_nothing(self):
        for calls in ([start()], BUSY, Between.taken):
            self.leaves_all(calls, state())


class LastMinute(Case):
    # 34 times 1,440 are 48,960.
    there = [start(), fire(1000)] + [minutes(1440)] * 33 + [style(), pot(), minutes(1440), minutes(1039), minutes(1)]

    def test_reached_with_all_that_can_be_taken_back(self):
        self.answers(self.there + [state(), minutes(1), state()],
                     [50000, 1, 0, 1, 0, 20, 0], [-75], [50000, 1, 0, 1, 0, 20, 0])

    def test_taken_back_and_done_again(self):
        # The 20 last changes: 15 times 1,440 of the 33, a style, a pot, three times minutes.
        calls = self.there + [back()] * 20
        self.answers(calls + [state(), back()], [18 * 1440, 0, 0, 0, 0, 0, 20], [-2])
        self.answers(calls + [again()] * 20 + [state(), again(), minutes(1)],
                     [50000, 1, 0, 1, 0, 20, 0], [-2], [-75])

    def test_minutes_that_were_taken_back_can_go_by_otherwise(self):
        self.answers(self.there + [back(), minutes(2), minutes(1), minutes(1), state()],
                     [19], [-75], [50000, 1000, 0], [-75], [50000, 1, 0, 1, 0, 20, 0])


class AsIfNeverMade(Case):
    """What was taken back is as if it had never been made, what was done again as if it had been all along."""

    def test_any_list(self):
        for seed in range(12):
            chance = random.Random(seed)
            line = line_after([])
            begun, done, undone, kept = [], [], [], 0
            for call in any_list(seed)[:200]:
                call = chance.choice((call, call, call, call, back(), again())) if begun else call
                told = line.answer(call[0], list(call[1:]))
                if call == back():
                    self.assertEqual(told, [kept - 1] if kept else [-2])
                    if kept:
                        undone.append(done.pop())
                        kept -= 1
                elif call == again():
                    self.assertEqual(told, [len(undone) - 1] if undone else [-2])
                    if undone:
                        done.append(undone.pop())
                        kept += 1
                elif call[0] == 0:
                    begun = [call]
                elif call[0] <= 13 and told[0] >= 0:
                    done, undone, kept = done + [call], [], min(kept + 1, 20)
                self.assertEqual(line.answer(31, [])[5:], [kept, len(undone)])
                if chance.random() < 0.1:
                    self.assertEqual(facts(line.works), facts(works_after(begun + done)))


class Written(Case):
    def test_a_piece_that_cracked_is_whole_again(self):
        before = molten(styles=(style(100, 3, 200, 1),)) + [gather(), does(0, SHAPE), minutes(2), piece(), minutes(9)]
        self.answers(before + [piece(), back(), piece(), does(0, HEAT), minutes(1), piece(), again()],
                     [-6], [9], [0, 0, 600, 2, 1], [1], [103, 1000, 0], [0, 0, 1000, 2, 2], [-2])

    def test_what_a_look_ahead_tells_is_true_again(self):
        before = [start(), pot(), charge(0, 0, 1, 0), fire(1000), minutes(60)]
        self.answers(before + [ready(), back(), ready(), back(), ready(), again(), again(), ready()],
                     [40], [3], [100], [2], [-33], [1], [0], [40])

    def test_a_sold_piece_is_in_the_store_again(self):
        before = STORED + [take(), sell(0, 2), sell(0, 2)]
        self.answers(before + [sell(0, 2), back(), sell(0, 2), sell(0, 2)], [-6], [19], [0], [-6])
