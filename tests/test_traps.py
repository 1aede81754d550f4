"""Point 3: the table in user, traps, and the timer."""

import unittest

from tests.helper import (BACK, GET, GO, HALT, LOAD, SET, SPECIAL, STORE, TIMER, TOP, TRAP, Seen, code, image,
                          into_user)


def in_user(entries, codes, steps, words=(), ints=0, rows=(), place=100):
    """Goes to user at a place of page 0, where the codes lie; steps count from there."""
    prelude = into_user(entries, place, ints)
    return Seen(image((8, prelude), (place, codes), *rows), len(prelude) + steps, words=words)


class TableTest(unittest.TestCase):
    def test_reads_the_page_that_the_table_tells(self):
        got = in_user({0: 0x0001, 3: 0x0A01}, [code(LOAD, 1, n=3 * 256 + 17)], 1, rows=[(10 * 256 + 17, [99])])
        self.assertEqual((got.state.registers[1], got.state.user), (99, 1))

    def test_writes_the_page_that_the_table_tells(self):
        codes = [code(SET, 1, n=5), code(STORE, 1, n=3 * 256 + 255)]
        got = in_user({0: 0x0001, 3: 0x0F03}, codes, 2, words=(4095, 3 * 256 + 255))
        self.assertEqual((got.words, got.state.user), ([5, 0], 1))

    def test_other_bits_of_an_entry_say_nothing(self):
        got = in_user({0: 0x0001, 3: 0xFAFD}, [code(LOAD, 1, n=768)], 1, rows=[(2560, [99])])
        self.assertEqual((got.state.registers[1], got.state.user), (99, 1))

    def test_reading_needs_bit_0(self):
        for entry in (0x0000, 0x0A00, 0x0A02, 0x0AFE):
            state = in_user({0: 0x0001, 3: entry}, [code(LOAD, 1, n=770)], 1, rows=[(2562, [99])]).state
            self.assertEqual((state.place, state.specials), (4, [100, 1, 2, 770]))
            self.assertEqual((state.registers[1], state.user), (0, 0))

    def test_writing_needs_bits_0_and_1(self):
        for entry in (0x0A00, 0x0A01, 0x0A02, 0x0AFD, 0x0AFE):
            got = in_user({0: 0x0001, 3: entry}, [code(STORE, 6, n=770)], 1, words=(2562, 770))
            self.assertEqual((got.state.place, got.state.specials), (4, [100, 1, 2, 770]))
            self.assertEqual((got.words, got.state.user), ([0, 0], 0))

    def test_no_address_above_4095(self):
        entries = {number: 0x0003 for number in range(16)}
        for which in (LOAD, STORE):
            for address in (4096, 65535):
                state = in_user(entries, [code(which, 1, n=address)], 1).state
                self.assertEqual((state.place, state.specials), (4, [100, 1, 2, address]))

    def test_last_word_of_the_last_page(self):
        got = in_user({0: 0x0001, 15: 0x0203}, [code(STORE, 6, n=4095), code(LOAD, 1, n=4095)], 2, words=(767, 4095))
        self.assertEqual((got.words, got.state.registers[1]), ([1, 0], 1))

    def test_two_pages_of_the_table_that_are_one(self):
        codes = [code(SET, 1, n=7), code(STORE, 1, n=2 * 256 + 9), code(LOAD, 2, n=5 * 256 + 9)]
        codes += [code(SET, 1, n=8), code(STORE, 1, n=5 * 256 + 9), code(LOAD, 3, n=2 * 256 + 9)]
        got = in_user({0: 0x0001, 2: 0x0903, 5: 0x0903}, codes, 6, words=(9 * 256 + 9,))
        self.assertEqual((got.state.registers[2:4], got.words), ([7, 8], [8]))

    def test_one_page_that_may_be_written_one_way_alone(self):
        codes = [code(STORE, 6, n=2 * 256), code(STORE, 6, n=5 * 256)]
        got = in_user({0: 0x0001, 2: 0x0903, 5: 0x0901}, codes, 2, words=(9 * 256,))
        self.assertEqual((got.words, got.state.specials), ([1], [101, 1, 2, 1280]))

    def test_writes_the_next_instruction_through_another_page(self):
        codes = [code(LOAD, 1, n=110), code(STORE, 1, n=256 + 102), code(HALT)] + [0] * 7 + [code(SET, 5, n=3)]
        state = in_user({0: 0x0001, 1: 0x0003}, codes, 3).state
        self.assertEqual((state.registers[5], state.user, state.place), (3, 1, 103))

    def test_instructions_are_read_through_the_table(self):
        got = in_user({0: 0x0701}, [code(SET, 1, n=1)], 1, rows=[(7 * 256 + 100, [code(SET, 2, n=2)])])
        self.assertEqual((got.state.registers[1:3], got.state.place), ([0, 2], 101))

    def test_an_instruction_that_may_not_be_read(self):
        for entry in (0x0000, 0x0002):
            state = in_user({0: entry}, [code(SET, 1, n=1)], 1).state
            self.assertEqual((state.place, state.user, state.specials), (4, 0, [100, 1, 2, 100]))
            self.assertEqual(state.registers[1], 0)

    def test_place_of_4095_in_user(self):
        got = in_user({0: 0x0001, 15: 0x0F01}, [code(GO, n=4095)], 3,
                      rows=[(4095, [code(SET, 1, n=1)]), (0, [code(SET, 2, n=2)])])
        self.assertEqual((got.state.registers[1:3], got.state.place), ([1, 2], 1))

    def test_system_does_not_look_at_the_table(self):
        got = in_user({0: 0x0001}, [code(TRAP)], 3, words=(900,), rows=[(4, [code(LOAD, 1, n=901),
                                                                             code(STORE, 1, n=900)]), (901, [6])])
        self.assertEqual((got.words, got.state.registers[1]), ([6], 6))


class TrapTest(unittest.TestCase):
    def test_way_from_before(self):
        for ints in (0, 1):
            state = in_user({0: 0x0001}, [code(TRAP)], 1, ints=ints).state
            self.assertEqual((state.specials, state.user, state.ints), ([101, 1 + 2 * ints, 3, 0], 0, 0))

    def test_in_system_with_ints(self):
        codes = [code(SET, 1, n=2), code(SPECIAL, 1, n=1), code(SET, 1, n=100), code(SPECIAL, 1), code(BACK)]
        state = Seen(image((8, codes), (100, [code(TRAP)])), 6).state
        self.assertEqual((state.specials, state.ints, state.place), ([101, 2, 3, 0], 0, 4))

    def test_back_to_user_behind_a_trap(self):
        codes = [code(TRAP), code(SET, 1, n=4)]
        state = in_user({0: 0x0001}, codes, 3, ints=0, rows=[(4, [code(BACK)])]).state
        self.assertEqual((state.user, state.place, state.registers[1]), (1, 102, 4))

    def test_a_later_trap_takes_the_place_of_an_earlier(self):
        state = in_user({0: 0x0001}, [code(LOAD, 1, n=900)], 2, rows=[(4, [code(TRAP)])]).state
        self.assertEqual((state.specials, state.place), ([5, 0, 3, 0], 4))

    def test_a_trap_leaves_registers_table_and_timer(self):
        state = Seen(image((8, [code(SET, 1, n=50), code(TIMER, 1), code(TRAP)])), 3).state
        self.assertEqual((state.registers, state.timer, state.pending), ([0, 50] + [0] * 6, 49, 0))


class TimerTest(unittest.TestCase):
    def with_ints(self, timer, steps, rows=()):
        """Sets the timer, then lets interruptions in by going to 100; steps count from there."""
        codes = [code(SET, 1, n=2), code(SPECIAL, 1, n=1), code(SET, 1, n=100), code(SPECIAL, 1)]
        codes += [code(SET, 1, n=timer), code(TIMER, 1), code(BACK)]
        return Seen(image((8, codes), *rows), len(codes) + steps).state

    def test_of_1_without_ints(self):
        codes = [code(SET, 1, n=1), code(TIMER, 1), code(SET, 2, n=5), code(SET, 3, n=6)]
        state = Seen(image((8, codes)), 2).state
        self.assertEqual((state.timer, state.pending), (1, 0))
        state = Seen(image((8, codes)), 3).state
        self.assertEqual((state.timer, state.pending, state.registers[2], state.place), (0, 1, 5, 11))
        state = Seen(image((8, codes)), 4).state
        self.assertEqual((state.timer, state.pending, state.registers[3], state.place), (0, 1, 6, 12))

    def test_of_1_with_ints(self):
        # The step that goes back lets ints in and takes the timer to 0; the next one is the trap.
        state = self.with_ints(1, 0)
        self.assertEqual((state.timer, state.pending, state.ints, state.place), (0, 1, 1, 100))
        state = self.with_ints(1, 1)
        self.assertEqual((state.timer, state.pending, state.ints, state.place), (0, 0, 0, 4))
        self.assertEqual(state.specials, [100, 2, 4, 0])

    def test_comes_to_0_with_ints(self):
        rows = [(100, [code(SET, 2, n=7), code(SET, 3, n=8)])]
        state = self.with_ints(3, 1, rows)
        self.assertEqual((state.timer, state.pending, state.registers[2:4], state.place), (1, 0, [7, 0], 101))
        state = self.with_ints(3, 2, rows)
        self.assertEqual((state.timer, state.pending, state.registers[2:4], state.place), (0, 0, [7, 0], 4))
        self.assertEqual(state.specials, [101, 2, 4, 0])

    def test_a_timer_of_0_lets_nothing_pend(self):
        state = self.with_ints(0, 5)
        self.assertEqual((state.timer, state.pending, state.place), (0, 0, 105))

    def test_comes_before_an_instruction_that_would_trap(self):
        state = self.with_ints(2, 1, [(100, [code(255)])])
        self.assertEqual(state.specials, [100, 2, 4, 0])

    def test_the_interrupted_instruction_is_done_behind_it(self):
        state = self.with_ints(2, 3, [(4, [code(BACK)]), (100, [code(SET, 2, n=7)])])
        self.assertEqual((state.registers[2], state.ints, state.place), (7, 1, 101))

    def test_pending_waits_for_ints(self):
        codes = [code(SET, 1, n=1), code(TIMER, 1), code(SET, 2), code(SET, 1, n=2), code(SPECIAL, 1, n=1),
                 code(SET, 1, n=100), code(SPECIAL, 1), code(BACK)]
        state = Seen(image((8, codes)), len(codes)).state
        self.assertEqual((state.pending, state.ints, state.place), (1, 1, 100))
        state = Seen(image((8, codes)), len(codes) + 1).state
        self.assertEqual((state.pending, state.ints, state.specials), (0, 0, [100, 2, 4, 0]))

    def test_in_user_with_ints(self):
        prelude = [code(SET, 1, n=20), code(TIMER, 1)] + into_user({0: 0x0001}, 100, ints=1)
        loop = [code(SET, 2, n=1), code(GO, n=100)]
        state = Seen(image((8, prelude), (100, loop)), 22).state
        self.assertEqual((state.user, state.ints, state.pending, state.place), (0, 0, 0, 4))
        self.assertEqual(state.specials, [100 + (21 - len(prelude)) % 2, 3, 4, 0])

    def test_in_user_without_ints_nothing_is_let_in(self):
        prelude = [code(SET, 1, n=20), code(TIMER, 1)] + into_user({0: 0x0001}, 100, ints=0)
        state = Seen(image((8, prelude), (100, [code(GO, n=100)])), 60).state
        self.assertEqual((state.user, state.pending, state.place, state.timer), (1, 1, 100, 0))

    def test_goes_on_in_a_step_that_traps(self):
        codes = [code(SET, 1, n=2), code(TIMER, 1), code(255)]
        state = Seen(image((4, [code(GET, 2, n=4)]), (8, codes)), 4).state
        self.assertEqual((state.pending, state.timer, state.registers[2], state.specials[2]), (1, 0, 0, 1))

    def test_set_again_in_the_step_in_which_it_comes_to_0(self):
        codes = [code(SET, 1, n=1), code(TIMER, 1), code(TIMER, 1)]
        state = Seen(image((8, codes)), 3).state
        self.assertEqual((state.timer, state.pending), (1, 1))

    def test_counts_from_the_top(self):
        codes = [code(SET, 1, n=1), code(3, 2, 1), code(TIMER, 2), code(SET)]
        self.assertEqual(Seen(image((8, codes)), 4).state.timer, TOP - 1)


if __name__ == "__main__":
    unittest.main()
