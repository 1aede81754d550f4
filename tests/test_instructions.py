"""Point 3: each instruction, in system and in user."""

import unittest

from tests.helper import (AND, BACK, GET, GO, HALT, HIGH, IN, LOAD, MINUS, OUT, PLUS, SET, SPECIAL, STORE, TABLE,
                          TIMER, TOP, TRAP, WHERE, XOR, ZERO, Seen, code, image, into_user, number)


def seen(*codes, steps=None, told=(), words=(), extra=()):
    """The codes from place 8 on, one step each."""
    count = len(codes) if steps is None else steps
    return Seen(image((8, list(codes)), *extra), count, told, words)


class ReckoningTest(unittest.TestCase):
    def result(self, which, first, second):
        return seen(*number(1, first), *number(2, second), code(which, 1, 2)).state.registers[:3]

    def test_0_sets_and_clears_the_high_half(self):
        self.assertEqual(seen(code(SET, 3, n=65535)).state.registers[3], 65535)
        self.assertEqual(seen(*number(3, TOP), code(SET, 3, n=7)).state.registers[3], 7)

    def test_1_ors_the_high_half(self):
        self.assertEqual(seen(code(SET, 3, n=5), code(HIGH, 3, n=0x8001)).state.registers[3], 0x80010005)
        self.assertEqual(seen(code(HIGH, 3, n=0x0F), code(HIGH, 3, n=0xF1)).state.registers[3], 0xFF0000)

    def test_2_adds(self):
        self.assertEqual(self.result(PLUS, 5, 7), [0, 12, 7])
        self.assertEqual(self.result(PLUS, TOP, 2), [0, 1, 2])

    def test_3_takes_away(self):
        self.assertEqual(self.result(MINUS, 9, 7), [0, 2, 7])
        self.assertEqual(self.result(MINUS, 3, 4), [0, TOP, 4])

    def test_4_and(self):
        self.assertEqual(self.result(AND, 0xF0F0FF00, 0xFF00F0F0), [0, 0xF000F000, 0xFF00F0F0])

    def test_5_xor(self):
        self.assertEqual(self.result(XOR, 0xF0F0FF00, 0xFF00F0F0), [0, 0x0FF00FF0, 0xFF00F0F0])

    def test_the_same_register_twice(self):
        for which, result in ((PLUS, 2 ** 32 - 4), (MINUS, 0), (AND, TOP - 1), (XOR, 0)):
            self.assertEqual(seen(*number(4, TOP - 1), code(which, 4, 4)).state.registers[4], result)

    def test_all_eight_registers_and_the_bits_that_say_nothing(self):
        odd = 1 << 23 | 1 << 19
        codes = [code(SET, a, n=a + 1) | odd for a in range(8)]
        self.assertEqual(seen(*codes).state.registers, [1, 2, 3, 4, 5, 6, 7, 8])
        self.assertEqual(seen(*codes, code(PLUS, 7, 6) | odd | 0xFFFF).state.registers[7], 15)

    def test_the_place_goes_on_by_one(self):
        for which in (SET, HIGH, PLUS, MINUS, AND, XOR, LOAD, STORE, WHERE, TABLE, TIMER, OUT, IN, HALT, GET, SPECIAL):
            self.assertEqual(seen(code(which)).state.place, 9)


class MemoryTest(unittest.TestCase):
    def test_6_reads(self):
        got = seen(code(SET, 2, n=90), code(LOAD, 1, 2, 10), extra=[(100, [TOP])])
        self.assertEqual(got.state.registers[1], TOP)

    def test_6_address_goes_round_at_2_to_the_32(self):
        got = seen(*number(2, TOP), code(LOAD, 1, 2, 101), extra=[(100, [55])])
        self.assertEqual(got.state.registers[1], 55)

    def test_6_first_and_last_word(self):
        self.assertEqual(seen(code(LOAD, 1, n=4095), extra=[(4095, [9])]).state.registers[1], 9)
        self.assertEqual(seen(code(LOAD, 1, n=0), extra=[(0, [8])]).state.registers[1], 8)

    def test_6_into_its_own_address_register(self):
        self.assertEqual(seen(code(SET, 2, n=100), code(LOAD, 2, 2), extra=[(100, [7])]).state.registers[2], 7)

    def test_6_may_not_be_read(self):
        for base, n, address in ((4096, 0, 4096), (1, 4095, 4096), (TOP, 0, TOP), (TOP, 4097, 4096)):
            state = seen(*number(2, base), code(SET, 1, n=3), code(LOAD, 1, 2, n)).state
            self.assertEqual((state.place, state.specials), (4, [11, 0, 2, address]))
            self.assertEqual(state.registers[1], 3)

    def test_7_writes(self):
        got = seen(*number(1, TOP), code(SET, 2, n=90), code(STORE, 1, 2, 10), words=(99, 100, 101))
        self.assertEqual(got.words, [0, TOP, 0])

    def test_7_address_goes_round_at_2_to_the_32(self):
        got = seen(code(SET, 1, n=6), *number(2, TOP), code(STORE, 1, 2, 1), words=(0,))
        self.assertEqual(got.words, [6])

    def test_7_the_same_register_twice(self):
        self.assertEqual(seen(code(SET, 2, n=200), code(STORE, 2, 2), words=(200,)).words, [200])

    def test_7_may_not_be_written(self):
        got = seen(code(SET, 1, n=6), code(STORE, 1, n=4096), words=(0, 4095))
        self.assertEqual((got.state.place, got.state.specials), (4, [9, 0, 2, 4096]))
        self.assertEqual(got.words, [0, 0])

    def test_7_writes_itself(self):
        got = seen(code(SET, 1, n=6), code(STORE, 1, n=9), words=(9,))
        self.assertEqual((got.words, got.state.place), ([6], 10))

    def test_7_writes_the_instruction_that_is_next(self):
        got = seen(*number(1, code(SET, 5, n=44)), code(STORE, 1, n=11), code(HALT))
        self.assertEqual((got.state.registers[5], got.state.halted), (44, 0))


class PlaceTest(unittest.TestCase):
    def test_8_goes_if_zero(self):
        self.assertEqual(seen(code(ZERO, 1, n=300)).state.place, 300)
        self.assertEqual(seen(code(SET, 1, n=1), code(ZERO, 1, n=300)).state.place, 10)
        self.assertEqual(seen(code(HIGH, 1, n=1), code(ZERO, 1, n=300)).state.place, 10)

    def test_8_place_is_modulo_4096(self):
        self.assertEqual(seen(code(ZERO, n=4096)).state.place, 0)
        self.assertEqual(seen(code(ZERO, n=65535)).state.place, 4095)

    def test_9_goes(self):
        self.assertEqual(seen(code(SET, 2, n=90), code(GO, 1, 2, 10)).state.place, 100)
        self.assertEqual(seen(code(GO, n=4095)).state.place, 4095)
        self.assertEqual(seen(*number(2, TOP), code(GO, 0, 2, 1)).state.place, 0)

    def test_9_not_below_4096(self):
        for base, n, target in ((0, 4096, 4096), (4095, 1, 4096), (0, 65535, 65535), (TOP, 0, TOP)):
            state = seen(*number(2, base), code(GO, 1, 2, n)).state
            self.assertEqual((state.place, state.specials), (4, [10, 0, 2, target]))

    def test_10_place_and_one_more(self):
        self.assertEqual(seen(code(WHERE, 3)).state.registers[3], 9)

    def test_10_at_4095(self):
        state = seen(code(SET, 3, n=5), code(GO, n=4095), steps=3, extra=[(4095, [code(WHERE, 3)])]).state
        self.assertEqual((state.registers[3], state.place), (0, 0))

    def test_behind_4095_comes_0(self):
        state = seen(code(GO, n=4095), steps=3, extra=[(4095, [code(SET, 1, n=2)]), (0, [code(SET, 2, n=3)])]).state
        self.assertEqual((state.registers[1:3], state.place), ([2, 3], 1))

    def test_11_traps_with_the_next_place(self):
        state = seen(code(TRAP, n=7)).state
        self.assertEqual((state.place, state.specials), (4, [9, 0, 3, 0]))

    def test_11_at_4095(self):
        state = seen(code(GO, n=4095), steps=2, extra=[(4095, [code(TRAP)])]).state
        self.assertEqual((state.place, state.specials), (4, [0, 0, 3, 0]))


class SystemTest(unittest.TestCase):
    def test_12_sets_the_table(self):
        table = seen(code(SET, 1, n=5), *number(2, TOP), code(TABLE, 1, 2)).state.table
        self.assertEqual(table, [0] * 5 + [TOP] + [0] * 10)

    def test_12_number_is_modulo_16(self):
        table = seen(*number(1, TOP), code(TABLE, 1, 1)).state.table
        self.assertEqual(table, [0] * 15 + [TOP])
        self.assertEqual(seen(code(SET, 1, n=16), code(TABLE, 1, 1)).state.table, [16] + [0] * 15)

    def test_13_with_nothing_from_before(self):
        state = seen(code(SET, 1, n=2), code(BACK)).state
        self.assertEqual((state.place, state.user, state.ints, state.specials), (0, 0, 0, [0] * 4))

    def test_13_mode_and_ints(self):
        for way in range(4):
            state = seen(code(SET, 1, n=way), code(SPECIAL, 1, n=1), code(BACK)).state
            self.assertEqual((state.user, state.ints, state.specials[1]), (way % 2, way // 2, way))

    def test_13_takes_ints_away(self):
        first = [code(SET, 1, n=2), code(SPECIAL, 1, n=1), code(SET, 1, n=13), code(SPECIAL, 1, n=0), code(BACK)]
        state = seen(*first, code(SPECIAL, 2, n=1), code(BACK)).state
        self.assertEqual((state.ints, state.place), (0, 13))

    def test_13_place_is_modulo_4096(self):
        state = seen(*number(1, TOP), code(SPECIAL, 1, n=0), code(BACK)).state
        self.assertEqual((state.place, state.specials[0]), (4095, TOP))

    def test_14_sets_the_timer(self):
        state = seen(*number(1, TOP), code(TIMER, 1)).state
        self.assertEqual((state.timer, state.pending), (TOP, 0))

    def test_14_of_0_stops_the_timer(self):
        state = seen(code(SET, 1, n=9), code(TIMER, 1), code(TIMER, 2), code(SET), code(SET)).state
        self.assertEqual((state.timer, state.pending), (0, 0))

    def test_15_tells(self):
        self.assertEqual(seen(*number(3, TOP), code(OUT, 3), code(OUT, 2)).passed, [(0, TOP), (0, 0)])

    def test_16_asks(self):
        got = seen(code(IN, 3), told=[TOP])
        self.assertEqual((got.passed, got.state.registers[3]), ([(1, TOP)], TOP))

    def test_17_halts(self):
        got = seen(code(HALT), code(SET, 1, n=1), steps=10)
        self.assertEqual((got.steps, got.state.halted, got.state.place, got.state.registers[1]), (1, 1, 9, 0))

    def test_17_at_4095(self):
        got = seen(code(GO, n=4095), steps=9, extra=[(4095, [code(HALT)])])
        self.assertEqual((got.steps, got.state.halted, got.state.place), (2, 1, 0))

    def test_18_gets_specials(self):
        # The trap behind an unreadable address fills all four; place 4 then reads them.
        reads = [code(GET, 1 + n, n=n) for n in range(4)]
        first = [code(SET, 7, n=2), code(SPECIAL, 7, n=1), code(SET, 7, n=200), code(SPECIAL, 7), code(BACK)]
        state = Seen(image((4, [code(ZERO, n=100)]), (8, first), (100, reads), (200, [code(LOAD, 0, n=5000)])), 11).state
        self.assertEqual(state.specials, [200, 2, 2, 5000])
        self.assertEqual(state.registers[1:5], [200, 2, 2, 5000])

    def test_18_gets_the_timer_one_less(self):
        state = seen(code(SET, 1, n=10), code(TIMER, 1), code(GET, 2, n=4), code(GET, 3, n=4)).state
        self.assertEqual(state.registers[2:4], [9, 8])

    def test_18_else_0(self):
        for n in (5, 6, 8, 16, 256, 65535):
            self.assertEqual(seen(code(SET, 1, n=10), code(TIMER, 1), code(GET, 1, n=n)).state.registers[1], 0)

    def test_19_special_0_whole(self):
        self.assertEqual(seen(*number(1, TOP), code(SPECIAL, 1, n=0)).state.specials, [TOP, 0, 0, 0])

    def test_19_special_1_modulo_4(self):
        self.assertEqual(seen(*number(1, TOP), code(SPECIAL, 1, n=1)).state.specials, [0, 3, 0, 0])
        self.assertEqual(seen(code(SET, 1, n=6), code(SPECIAL, 1, n=1)).state.specials, [0, 2, 0, 0])

    def test_19_else_nothing(self):
        for n in (2, 3, 4, 5, 256, 65535):
            state = seen(code(SET, 1, n=9), code(SPECIAL, 1, n=n)).state
            self.assertEqual((state.specials, state.timer, state.place), ([0] * 4, 0, 10))


class NoInstructionTest(unittest.TestCase):
    def test_above_19(self):
        for which in (20, 21, 32, 128, 255):
            state = seen(code(which, 1, 2, 300)).state
            self.assertEqual((state.place, state.specials, state.registers), (4, [8, 0, 1, 0], [0] * 8))

    def test_trap_in_the_trap_place(self):
        state = Seen(image((4, [code(20)]), (8, [code(TRAP)])), 5).state
        self.assertEqual((state.place, state.specials), (4, [4, 0, 1, 0]))


class UserTest(unittest.TestCase):
    PRELUDE = into_user({0: 0x0003}, 100)

    def in_user(self, *codes, told=()):
        return Seen(image((8, self.PRELUDE), (100, list(codes))), len(self.PRELUDE) + len(codes), told)

    def test_12_to_19_trap(self):
        for which in range(12, 20):
            got = self.in_user(code(SET, 1, n=4), code(which, 1, 2, 0), told=[5])
            state = got.state
            self.assertEqual((state.place, state.specials), (4, [101, 1, 1, 0]))
            self.assertEqual((state.user, state.ints, state.halted, state.timer), (0, 0, 0, 0))
            self.assertEqual((state.table, state.registers[:3]), ([3] + [0] * 15, [0, 4, 0]))
            self.assertEqual(got.passed, [])

    def test_above_19_traps(self):
        for which in (20, 255):
            state = self.in_user(code(which)).state
            self.assertEqual((state.place, state.specials, state.user), (4, [100, 1, 1, 0], 0))

    def test_0_to_10_are_done(self):
        codes = [code(SET, 1, n=3), code(HIGH, 1, n=1), code(SET, 2, n=2), code(PLUS, 2, 1), code(MINUS, 2, 1)]
        codes += [code(AND, 1, 2), code(XOR, 1, 2), code(STORE, 2, n=200), code(LOAD, 3, n=200), code(WHERE, 4)]
        state = self.in_user(*codes, code(ZERO, 1, n=111), code(GO, n=50)).state
        self.assertEqual((state.user, state.place), (1, 50))
        self.assertEqual(state.registers[:5], [0, 0, 2, 2, 110])

    def test_11_traps_out_of_user(self):
        state = self.in_user(code(TRAP)).state
        self.assertEqual((state.place, state.specials, state.user), (4, [101, 1, 3, 0], 0))

    def test_9_not_below_4096(self):
        state = self.in_user(code(GO, n=4096)).state
        self.assertEqual((state.place, state.specials, state.user), (4, [100, 1, 2, 4096], 0))


if __name__ == "__main__":
    unittest.main()
