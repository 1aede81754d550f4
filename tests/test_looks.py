"""Points 4 and 5: looking at a guest's words, its state and its pages."""

import unittest

from guestkeeper.machine import Machine
from guestkeeper.running import run as run_machine
from tests.helper import (HALT, HIGH, NO_GUESTS, PLUS, SET, SPECIAL, STORE, TABLE, TIMER, TOP, ask, changed, code,
                          come, image, into_user, new, number, run, start, state, word)


class WordTest(unittest.TestCase):
    def test_no_guest(self):
        for k in NO_GUESTS:
            self.assertEqual(ask(word(k, 0)), [[0, -2]])

    def test_a_coming_one_is_none(self):
        self.assertEqual(ask(come(2), word(2, 0), word(2, 4096)), [[0, 0], [0, -2], [0, -2]])

    def test_no_guest_is_named_before_a_wrong_address(self):
        self.assertEqual(ask(new(0, []), word(1, 4096), word(3, TOP)), [[0, 0], [0, -2], [0, -2]])

    def test_address_not_below_4096(self):
        for a in (4096, 4097, 8192, TOP):
            self.assertEqual(ask(new(0, [5]), word(0, a))[1], [0, -22])

    def test_words_from_first_to_last(self):
        answered = ask(new(0, [a * 3 for a in range(4096)]), *[word(0, a) for a in (0, 1, 8, 4095)])
        self.assertEqual(answered[1:], [[1, 1, 0], [1, 1, 3], [1, 1, 24], [1, 1, 12285]])

    def test_a_word_is_memory_itself_though_the_guest_is_in_user(self):
        memory = image((8, into_user({0: 0x0F01, 1: 0x0F01}, 300)), (300, [77]))
        steps = len(into_user({0: 0, 1: 0}, 300))
        answered = ask(new(0, memory), run(0, steps), state(0), word(0, 300))
        self.assertEqual(answered[2][2 + 9], 1)
        self.assertEqual(answered[3], [1, 1, 77])

    def test_a_word_that_was_written(self):
        memory = [0] * 8 + number(1, TOP) + [code(STORE, 1, n=4095), code(HALT)]
        self.assertEqual(ask(new(0, memory), run(0, 4), word(0, 4095))[2], [1, 1, TOP])


class StateTest(unittest.TestCase):
    def test_no_guest(self):
        for k in NO_GUESTS:
            self.assertEqual(ask(state(k)), [[0, -2]])

    def test_a_coming_one_is_none(self):
        self.assertEqual(ask(come(0), state(0)), [[0, 0], [0, -2]])

    def test_34_words_in_order(self):
        codes = [code(SET, a, n=100 + a) for a in range(8)]
        codes += [code(SPECIAL, 2, n=0), code(SPECIAL, 3, n=1)]
        codes += [code(TABLE, a, a) for a in range(8)]
        codes += [code(TIMER, 5), code(HALT)]
        answered = ask(new(0, [0] * 8 + codes), run(0, 100), state(0))[2]
        table = [0] * 4 + [100 + a for a in range(8)] + [0] * 4
        registers = [100 + a for a in range(8)]
        self.assertEqual(answered, [1, 34] + registers + [28, 0, 0, 0, 1, 104, 102, 3, 0, 0] + table)

    def test_looking_changes_nothing(self):
        memory = [0] * 8 + [code(SET, 1, n=1), code(PLUS, 2, 1), code(HIGH, 2, n=1)]
        looks = [state(0), word(0, 8), changed(0)]
        answered = ask(new(0, memory), run(0, 2), *looks, *looks)
        self.assertEqual(answered[2:5], answered[5:])


class ChangedTest(unittest.TestCase):
    def test_no_guest(self):
        for k in NO_GUESTS:
            self.assertEqual(ask(changed(k)), [[0, -2]])
        self.assertEqual(ask(new(1, []), changed(0), changed(2), start(), changed(1))[1:], [[0, -2], [0, -2], [0, 0],
                                                                                          [0, -2]])

    def test_a_coming_one_is_none(self):
        self.assertEqual(ask(come(0), changed(0)), [[0, 0], [0, -2]])

    def test_all_bits_where_no_page_is_taken(self):
        memory = [0] * 8 + [code(STORE, 1, n=300), code(HALT)]
        answered = ask(new(0, memory), changed(0), run(0, 1), changed(0), run(0, 5), changed(0))
        self.assertEqual([answered[1], answered[3], answered[5]], [[0, 65535]] * 3)

    def test_a_page_that_is_written_is_not_taken_any_more(self):
        machine = Machine([0] * 8 + [code(STORE, 1, n=300), code(STORE, 1, n=4095), code(HALT)])
        machine.changed = [0] * 16
        run_machine(machine, 1)
        self.assertEqual(machine.changed, [0, 1] + [0] * 14)
        run_machine(machine, 1)
        self.assertEqual(machine.changed, [0, 1] + [0] * 13 + [1])

    def test_in_user_it_is_the_page_that_the_table_tells(self):
        codes = into_user({0: 0x0001, 2: 0x0503}, 100)
        machine = Machine(image((8, codes), (100, [code(STORE, 1, n=512)])))
        machine.changed = [0] * 16
        run_machine(machine, len(codes) + 1)
        self.assertEqual(machine.changed, [0] * 5 + [1] + [0] * 10)

    def test_reading_and_a_refused_write_leave_a_page_taken(self):
        codes = into_user({0: 0x0001, 2: 0x0501}, 100)
        machine = Machine(image((8, codes), (100, [code(6, 1, n=512), code(STORE, 1, n=512)])))
        machine.changed = [0] * 16
        run_machine(machine, len(codes) + 2)
        self.assertEqual(machine.specials[2:], [2, 512])
        self.assertEqual(machine.changed, [0] * 16)


if __name__ == "__main__":
    unittest.main()
