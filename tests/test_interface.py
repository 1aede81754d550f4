"""The interface: how calls are laid in the list, and in which form they are answered."""

import unittest

from guestkeeper.keeper import answers
from tests.helper import (GO, HALT, IN, OUT, SET, STORE, TOP, changed, code, come, drop, image, leave, new, put, run,
                          settle, start, state, take, word)

PAGE = image((8, [code(IN, 1), code(STORE, 1, n=9), code(OUT, 1)]), (255, [6]))
STATE = list(range(8)) + [8, 0, 1, 0, 0, 99, 10, 3, 4, 11] + list(range(20, 36))
PROGRAM = image((8, [code(IN, 1), code(OUT, 1), code(STORE, 1, n=40), code(HALT)]))
ALL_CALLS = (start() + new(0, PROGRAM) + run(0, 9, [6]) + word(0, 40) + state(0) + changed(0)
             + new(0, []) + new(5, [1, 2]) + run(1, 7, [3, 4]) + word(2, 5) + word(0, 4096) + state(3) + changed(TOP)
             + take(0, 15) + take(0, 16) + take(1, 0) + leave(0) + leave(1) + come(1) + come(1) + come(0) + come(3)
             + put(1, 0, PAGE) + put(1, 16, PAGE) + put(2, 0, PAGE) + settle(1, [TOP] * 34) + settle(2, STATE)
             + settle(1, STATE) + run(1, 3, [7]) + take(1, 0) + sum([take(0, p) for p in range(16)], [])
             + leave(0) + drop(0) + drop(1))
ALL_ANSWERS = ([2, 0, 0] + [2, 0, 0] + [7, 2, 2, 1, 6, 0, 6, 4] + [3, 1, 1, 6]
               + [36, 1, 34, 0, 6, 0, 0, 0, 0, 0, 0, 12, 0, 0, 0, 1, 0] + [0] * 20 + [2, 0, 65535]
               + [2, 0, -17] + [2, 0, -22] + [2, 0, -2] + [2, 0, -2] + [2, 0, -22] + [2, 0, -2] + [2, 0, -2]
               + [258, 1, 256] + [0] * 256 + [2, 0, -22] + [2, 0, -2] + [2, 0, -16] + [2, 0, -2] + [2, 0, 0]
               + [2, 0, -17] + [2, 0, -17] + [2, 0, -22] + [2, 0, 0] + [2, 0, -22] + [2, 0, -2] + [2, 0, -22]
               + [2, 0, -2] + [2, 0, 0] + [7, 2, 2, 1, 7, 0, 7, 3] + [258, 1, 256] + PAGE[:9] + [7] + PAGE[10:]
               + [258, 1, 256] + PROGRAM + [0] * (40 - len(PROGRAM)) + [6] + [0] * 215
               + ([258, 1, 256] + [0] * 256) * 15 + [36, 1, 34, 0, 6, 0, 0, 0, 0, 0, 0, 12, 0, 0, 0, 1, 0] + [0] * 20
               + [2, 0, -2] + [2, 0, 0])


class FormTest(unittest.TestCase):
    def test_every_call_and_refusal(self):
        self.assertEqual(answers(ALL_CALLS), ALL_ANSWERS)

    def test_calls_written_out(self):
        self.assertEqual(answers([0]), [2, 0, 0])
        self.assertEqual(answers([1, 2, 3, 7, 8, 9, 3, 2, 1]), [2, 0, 0, 3, 1, 1, 8])
        self.assertEqual(answers([1, 0, 0, 2, 0, 5, 2, 1, 1, 5, 0]), [2, 0, 0, 3, 2, 0, 5, 2, 0, 65535])
        moving = [8, 1] + [9, 1, 15, 256] + [3] * 256 + [10, 1, 34] + [0] * 34 + [6, 1, 15, 7, 1, 11, 1, 11, 1]
        self.assertEqual(answers(moving), [2, 0, 0] * 3 + [258, 1, 256] + [3] * 256 + [2, 0, -16, 2, 0, 0, 2, 0, -2])

    def test_rows_of_refused_calls_are_passed_over(self):
        self.assertEqual(answers([1, 3, 2, 0, 0, 2, 0, 1, 2, 4, 4, 0]), [2, 0, -22, 2, 0, -2, 2, 0, 0])
        self.assertEqual(answers(new(0, [9] * 4200) + start()), [2, 0, -28, 2, 0, 0])
        self.assertEqual(answers(put(0, 0, [11] * 256) + settle(3, [11] * 34) + come(0) + put(0, 99, [11] * 256)
                                 + settle(0, [4096] * 34) + drop(0)),
                         [2, 0, -2] * 2 + [2, 0, 0] + [2, 0, -22] * 2 + [2, 0, 0])

    def test_a_run_with_nothing_told_or_asked(self):
        self.assertEqual(answers(new(0, []) + run(0, 4, [1, 2])), [2, 0, 0, 3, 2, 0, 4])

    def test_a_list_of_one_call_and_of_200(self):
        self.assertEqual(answers(state(0)), [2, 0, -2])
        self.assertEqual(answers(new(0, [4]) + word(0, 0) * 199), [2, 0, 0] + [3, 1, 1, 4] * 199)

    def test_long_runs(self):
        memory = image((8, [code(OUT, 1), code(GO, n=8)]))
        answered = answers(new(0, memory) + run(0, 20000) * 9)
        self.assertEqual(answered, [2, 0, 0] + ([20003, 2, 10000] + [0, 0] * 10000 + [20000]) * 9)

    def test_whole_numbers_and_lists(self):
        answered = answers(ALL_CALLS)
        self.assertIs(type(answered), list)
        self.assertEqual({type(number) for number in answered}, {int})


class KeptTest(unittest.TestCase):
    def test_what_is_handed_in_stays_as_it_was(self):
        calls = list(ALL_CALLS)
        answers(calls)
        self.assertEqual(calls, ALL_CALLS)

    def test_it_is_not_changed_for_a_while_either(self):
        class Frozen(list):
            def refuse(self, *given):
                raise AssertionError("changed")
            __setitem__ = __delitem__ = __iadd__ = __imul__ = refuse
            append = extend = insert = pop = remove = clear = reverse = sort = refuse

        self.assertEqual(answers(Frozen(ALL_CALLS)), ALL_ANSWERS)

    def test_a_guest_that_writes_its_image_leaves_the_list(self):
        calls = new(0, image((8, [code(SET, 1, n=5), code(STORE, 1, n=0)]))) + run(0, 2) + word(0, 0)
        before = list(calls)
        self.assertEqual(answers(calls), [2, 0, 0, 3, 2, 0, 2, 3, 1, 1, 5])
        self.assertEqual(calls, before)

    def test_asked_twice_it_is_answered_the_same(self):
        self.assertEqual(answers(ALL_CALLS), answers(ALL_CALLS))

    def test_no_guest_is_left_from_another_list(self):
        answers(new(0, [1]) + new(1, [2]) + new(2, [3]))
        self.assertEqual(answers(state(0) + state(1) + state(2)), [2, 0, -2] * 3)

    def test_none_that_is_coming_is_left_from_another_list(self):
        answers(come(0) + come(1) + put(1, 0, PAGE))
        self.assertEqual(answers(drop(0) + put(1, 0, PAGE) + settle(1, STATE)), [2, 0, -2] * 3)
        self.assertEqual(answers(come(1) + settle(1, STATE) + word(1, 255)), [2, 0, 0] * 2 + [3, 1, 1, 0])

    def test_what_was_put_and_settled_leaves_the_list(self):
        calls = come(1) + put(1, 0, PAGE) + settle(1, STATE) + run(1, 9) + take(1, 0)
        before = list(calls)
        answers(calls)
        self.assertEqual(calls, before)

    def test_what_is_answered_is_a_list_of_its_own(self):
        first = answers(ALL_CALLS)
        first.clear()
        self.assertEqual(answers(ALL_CALLS), ALL_ANSWERS)


if __name__ == "__main__":
    unittest.main()
