"""Promise 8: check."""

import unittest

from tests.support import COUNTING, MOST, STEP, TURN, ask, check, keep, last, run, state, take, told_acts


class Checks(unittest.TestCase):
    def assert_told(self, steps, slots, acts, expected):
        self.assertEqual(ask(check(steps, slots, acts)), [expected], (steps, slots, acts))


class Played(Checks):
    def test_told_schedules(self):
        self.assert_told(1, 1, [0, 0, 3], [0, 0, 1])
        self.assert_told(2, 1, [0, 0, 2, 3, 0, 0, 3], [0, 1, 1])
        self.assert_told(3, 2, [0, 0, 2, 1, 1, 0, 1, 2, 3, 0, 1, 3, 0, 0, 3], [0, 2, 2])

    def test_each_end_of_the_ranges(self):
        self.assert_told(1, 10, told_acts(1, 10), [0, 0, 1])
        self.assert_told(50, 1, told_acts(50, 1), [0, 1225, 1])
        # With 10 slots T(n, c) is 2 * n - 12 for n from 11 to 60.
        self.assert_told(50, 10, told_acts(50, 10), [0, 88, 10])

    def test_the_same_acts_in_more_slots(self):
        for slots in range(2, 11):
            self.assert_told(3, slots, told_acts(3, 2), [0, 2, 2])

    def test_what_is_taken_stays_in_its_slot(self):
        self.assert_told(2, 1, [take(0), take(0), STEP, TURN, take(0), take(0), TURN], [0, 1, 1])

    def test_what_is_kept_stays_at_hand(self):
        self.assert_told(2, 2, [take(0), STEP, keep(1), TURN, take(0), TURN], [0, 1, 2])

    def test_the_state_stays_at_hand_when_it_is_turned(self):
        self.assert_told(1, 2, [take(0), TURN, keep(1)], [0, 0, 2])
        self.assert_told(1, 2, [take(0), TURN, keep(1), take(1), STEP], [0, 1, 2])

    def test_a_slot_kept_over_what_was_there(self):
        # State 1, then state 2 in slot 1: state 1 has to be made again.
        acts = [take(0), STEP, keep(1), STEP, keep(1), take(1), TURN, take(0), STEP, TURN, take(0), TURN]
        self.assert_told(3, 2, acts, [0, 3, 2])
        # State 0 is brought back into slot 0 from slot 1.
        acts = [take(0), keep(1), STEP, keep(0), take(0), TURN, take(1), keep(0), take(0), TURN]
        self.assert_told(2, 2, acts, [0, 1, 2])

    def test_a_state_that_is_lost(self):
        acts = [take(0), STEP, keep(0), TURN, take(0), TURN]
        self.assert_told(2, 2, acts, [1, 5, 5])

    def test_the_same_state_in_several_slots(self):
        acts = [take(0)] + [keep(slot) for slot in range(10)] + [TURN]
        self.assert_told(1, 10, acts, [0, 0, 10])
        self.assert_told(1, 10, [take(0), keep(9), keep(4), TURN], [0, 0, 3])

    def test_steps_on_to_the_last_state(self):
        self.assert_told(1, 2, [take(0), STEP, keep(1), take(0), TURN], [0, 1, 2])
        self.assert_told(2, 1, [take(0), STEP, STEP, take(0), STEP, TURN, take(0), TURN], [0, 3, 1])

    def test_the_last_state_in_a_slot(self):
        self.assert_told(1, 2, [take(0), STEP, keep(1), take(1), STEP], [1, 4, 4])
        self.assert_told(1, 2, [take(0), STEP, keep(1), take(1), TURN], [1, 4, 5])

    def test_acts_behind_the_last_turn(self):
        self.assert_told(1, 1, [take(0), TURN, take(0)], [0, 0, 1])
        self.assert_told(1, 2, [take(0), TURN, STEP, keep(1)], [0, 1, 2])
        self.assert_told(1, 2, [take(0), TURN, STEP, STEP], [1, 3, 4])
        self.assert_told(1, 2, [take(0), TURN, TURN], [1, 2, 5])
        self.assert_told(1, 2, [take(0), TURN, take(1)], [1, 2, 2])
        self.assert_told(1, 2, [take(0), TURN, take(2)], [1, 2, 1])

    def test_steps_that_lead_nowhere_count_too(self):
        self.assert_told(3, 2, [take(0), STEP, STEP, take(0), STEP, keep(1), STEP, TURN, take(1), TURN, take(0), TURN],
                         [0, 4, 2])


class Reasons(Checks):
    def test_no_slot(self):
        for slot in (1, 2, 10, MOST):
            self.assert_told(2, 1, [take(slot)], [1, 0, 1])
            self.assert_told(2, 1, [take(0), keep(slot)], [1, 1, 1])
        self.assert_told(2, 10, [take(0), keep(9), keep(10)], [1, 2, 1])

    def test_an_empty_slot(self):
        self.assert_told(2, 2, [take(1)], [1, 0, 2])
        self.assert_told(2, 10, [take(0), keep(5), take(9)], [1, 2, 2])

    def test_nothing_at_hand(self):
        for act in (keep(0), keep(1), STEP, TURN):
            self.assert_told(1, 2, [act], [1, 0, 3])
            self.assert_told(50, 2, [act, take(0)], [1, 0, 3])

    def test_the_last_state_at_hand(self):
        self.assert_told(1, 1, [take(0), STEP, STEP], [1, 2, 4])
        self.assert_told(50, 1, [take(0)] + [STEP] * 51, [1, 51, 4])

    def test_other_steps_are_left(self):
        self.assert_told(2, 1, [take(0), TURN], [1, 1, 5])
        self.assert_told(2, 1, [take(0), STEP, TURN, TURN], [1, 3, 5])
        self.assert_told(2, 1, [take(0), STEP, STEP, TURN], [1, 3, 5])
        self.assert_told(1, 1, [take(0), STEP, TURN], [1, 2, 5])
        self.assert_told(3, 1, [take(0), STEP, STEP, TURN, take(0), TURN], [1, 5, 5])

    def test_steps_are_left_in_the_end(self):
        self.assert_told(1, 1, [], [1, 0, 6])
        self.assert_told(50, 10, [], [1, 0, 6])
        self.assert_told(2, 1, [take(0), STEP, TURN], [1, 3, 6])
        self.assert_told(1, 1, [take(0), STEP], [1, 2, 6])
        # Acts are counted, not their numbers.
        self.assert_told(1, 1, [take(0), keep(0), take(0)], [1, 3, 6])

    def test_a_schedule_for_fewer_or_more_steps(self):
        # Its first turn is at state 3.
        self.assert_told(5, 1, told_acts(4, 1), [1, 4, 5])
        # It steps on to state 3 and then once more.
        self.assert_told(3, 1, told_acts(5, 1), [1, 4, 4])

    def test_no_slot_ahead_of_an_empty_one(self):
        self.assert_told(2, 2, [take(2)], [1, 0, 1])

    def test_no_slot_ahead_of_nothing_at_hand(self):
        self.assert_told(2, 2, [keep(2)], [1, 0, 1])
        self.assert_told(2, 2, [keep(1)], [1, 0, 3])

    def test_nothing_at_hand_ahead_of_what_is_left(self):
        self.assert_told(1, 1, [TURN], [1, 0, 3])

    def test_the_first_act_alone(self):
        self.assert_told(2, 2, [take(0), take(1), keep(7), TURN], [1, 1, 2])
        self.assert_told(2, 2, [take(0), TURN, take(7)], [1, 1, 5])
        # An act that can't be done, and steps are left too.
        self.assert_told(2, 2, [take(0), STEP, TURN, take(1)], [1, 3, 2])


class Lengths(Checks):
    def test_2000_acts(self):
        played = [take(0), TURN] + [take(0)] * 1998
        self.assert_told(1, 1, played, [0, 0, 1])
        self.assert_told(1, 1, played + [take(0)], [-7])
        self.assert_told(1, 1, [take(0)] * 2000, [1, 2000, 6])
        self.assert_told(1, 1, [TURN] * 2000, [1, 0, 3])
        self.assert_told(1, 1, [TURN] * 2001, [-7])
        self.assert_told(1, 1, [take(0)] + [keep(0)] * 1998 + [TURN], [0, 0, 1])

    def test_lists_as_long_as_they_may_be(self):
        self.assert_told(1, 1, [take(0)] * 2500, [-7])
        self.assert_told(1, 1, [STEP] * 5000, [-7])
        self.assert_told(1, 1, [2] * 4999 + [0], [-2])
        self.assert_told(1, 1, [2] * 4999 + [4], [-2])


class Refused(Checks):
    def test_out_of_range(self):
        for steps, slots in ((0, 1), (51, 1), (1, 0), (1, 11), (-1, 5), (5, -1), (MOST, 1), (1, MOST), (-MOST, 1),
                             (1, -MOST)):
            self.assert_told(steps, slots, [take(0), TURN], [-1])

    def test_the_form(self):
        for numbers in ([4], [-1], [MOST], [-MOST], [0], [1], [0, -1], [1, -1], [0, -MOST], [0, 0, 3, 0],
                        [0, 0, 3, 1], [0, 0, 3, 5], [0, 0, 1, -1, 3], [3, 7]):
            self.assert_told(1, 1, numbers, [-2])

    def test_the_form_where_an_earlier_act_cannot_be_done(self):
        self.assert_told(1, 1, [3, 2, 9], [-2])

    def test_order(self):
        self.assert_told(0, 1, [9], [-1])
        self.assert_told(1, 11, [9], [-1])
        self.assert_told(0, 1, [STEP] * 2001, [-1])
        self.assert_told(1, 1, [2] * 2001 + [9], [-2])
        self.assert_told(1, 1, [9] + [2] * 2001, [-2])

    def test_it_asks_for_no_chain_and_changes_none(self):
        told = ask(COUNTING, run(3, [5, 1]), check(1, 1, [0, 0, 3]), check(2, 1, [0, 0, 3]), check(0, 1, []),
                   check(1, 1, [4]), check(1, 1, [STEP] * 2001), state(3))
        self.assertEqual(told[2:], [[0, 0, 1], [1, 1, 5], [-1], [-2], [-7], [1, 8, 1]])

    def test_nothing_is_kept_from_one_check_to_the_next(self):
        told = ask(check(2, 2, [take(0), STEP, keep(1)]), check(2, 2, [take(1)]), check(2, 2, [TURN]),
                   check(2, 2, told_acts(2, 2)), check(2, 2, told_acts(2, 2)))
        self.assertEqual(told, [[1, 3, 6], [1, 0, 2], [1, 0, 3], [0, 1, 2], [0, 1, 2]])
        self.assertEqual(last(check(2, 2, [])), [1, 0, 6])


if __name__ == "__main__":
    unittest.main()
