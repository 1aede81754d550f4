"""Points 1 and 2: no guests, and new ones."""

import unittest

from tests.helper import (HALT, SET, STORE, TOP, ask, changed, code, come, drop, new, put, run, settle, start, state,
                          state_words, word)

NEW_STATE = [0] * 8 + [8] + [0] * 25


class StartTest(unittest.TestCase):
    def test_answers_zero(self):
        self.assertEqual(ask(start()), [[0, 0]])

    def test_no_number_has_a_guest_behind_it(self):
        guests = [new(k, [k]) for k in range(3)]
        looks = [state(k) for k in range(3)] + [changed(k) for k in range(3)]
        self.assertEqual(ask(*guests, start(), *looks)[4:], [[0, -2]] * 6)

    def test_before_the_first_call_it_is_as_behind_it(self):
        calls = [state(0), run(1, 5), word(2, 0), changed(0), new(1, [7]), word(1, 0)]
        self.assertEqual(ask(*calls), ask(start(), *calls)[1:])
        self.assertEqual(ask(*calls), [[0, -2]] * 4 + [[0, 0], [1, 1, 7]])

    def test_numbers_are_free_for_new_guests_behind_it(self):
        self.assertEqual(ask(new(0, [5]), start(), new(0, [6]), word(0, 0)), [[0, 0], [0, 0], [0, 0], [1, 1, 6]])

    def test_with_guests_and_coming_ones_there(self):
        before = [new(0, [5]), come(1), put(1, 0, [6] * 256), come(2), settle(2, state_words()), start()]
        gone = [call for k in range(3) for call in (state(k), put(k, 0, [0] * 256), drop(k))]
        answered = ask(*before, *gone, *[come(k) for k in range(3)])
        self.assertEqual(answered, [[0, 0]] * 6 + [[0, -2]] * 9 + [[0, 0]] * 3)
        answered = ask(*before, *[new(k, []) for k in range(3)], *[word(k, 0) for k in range(3)])
        self.assertEqual(answered[6:], [[0, 0]] * 3 + [[1, 1, 0]] * 3)

    def test_a_coming_one_behind_it_has_nothing_of_one_before(self):
        answered = ask(come(1), put(1, 0, [6] * 256), start(), come(1), settle(1, state_words()), word(1, 0))
        self.assertEqual(answered[3:], [[0, 0], [0, 0], [1, 1, 0]])


class NewTest(unittest.TestCase):
    def test_each_number_from_0_to_2(self):
        self.assertEqual(ask(*[new(k, []) for k in range(3)]), [[0, 0]] * 3)

    def test_number_above_2(self):
        for k in (3, 4, 2 ** 31, TOP):
            self.assertEqual(ask(new(k, [1]), state(k)), [[0, -22], [0, -2]])

    def test_has_a_guest(self):
        self.assertEqual(ask(new(2, [4]), new(2, [5]), word(2, 0)), [[0, 0], [0, -17], [1, 1, 4]])

    def test_has_one_that_is_coming(self):
        refused = [new(2, [5]), new(2, [1] * 4097)]
        answered = ask(come(2), put(2, 0, [4] * 256), *refused, settle(2, state_words()), word(2, 0))
        self.assertEqual(answered, [[0, 0], [0, 0], [0, -17], [0, -17], [0, 0], [1, 1, 4]])

    def test_refused_for_a_guest_that_ran_changes_nothing(self):
        program = [0] * 8 + [code(SET, 1, n=9), code(STORE, 1, n=100), code(HALT)]
        looks = [state(0), word(0, 100), changed(0)]
        answered = ask(new(0, program), run(0, 3), *looks, new(0, [1]), *looks)
        self.assertEqual(answered[5], [0, -17])
        self.assertEqual(answered[2:5], answered[6:])

    def test_image_too_long(self):
        for length in (4097, 4200):
            self.assertEqual(ask(new(0, [1] * length), state(0)), [[0, -28], [0, -2]])

    def test_refused_number_can_be_used_afterwards(self):
        self.assertEqual(ask(new(0, [1] * 4097), new(0, [3]), word(0, 0)), [[0, -28], [0, 0], [1, 1, 3]])

    def test_the_refusal_named_first(self):
        self.assertEqual(ask(new(3, [1] * 4097)), [[0, -22]])
        self.assertEqual(ask(new(1, []), new(1, [1] * 4097)), [[0, 0], [0, -17]])

    def test_image_of_no_word(self):
        answered = ask(new(0, []), word(0, 0), word(0, 4095), state(0))
        self.assertEqual(answered, [[0, 0], [1, 1, 0], [1, 1, 0], [1, 34] + NEW_STATE])

    def test_image_of_some_words(self):
        answered = ask(new(0, [11, TOP, 13]), *[word(0, a) for a in (0, 1, 2, 3, 4095)])
        self.assertEqual(answered[1:], [[1, 1, 11], [1, 1, TOP], [1, 1, 13], [1, 1, 0], [1, 1, 0]])

    def test_image_of_4096_words(self):
        answered = ask(new(0, range(1, 4097)), *[word(0, a) for a in (0, 255, 256, 4094, 4095)])
        self.assertEqual(answered, [[0, 0]] + [[1, 1, a + 1] for a in (0, 255, 256, 4094, 4095)])

    def test_state_of_a_new_guest(self):
        self.assertEqual(ask(new(1, [TOP] * 4096), state(1))[1], [1, 34] + NEW_STATE)

    def test_no_page_of_a_new_guest_is_taken(self):
        self.assertEqual(ask(new(1, []), changed(1))[1], [0, 65535])


if __name__ == "__main__":
    unittest.main()
