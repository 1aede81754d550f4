"""Points 6 and 7: a guest's pages are taken, and it leaves."""

import unittest

from tests.helper import (BACK, GO, HALT, HIGH, IN, LOAD, NO_GUESTS, OUT, PLUS, SET, SPECIAL, STORE, TOP, TRAP, ask,
                          changed, code, come, drop, image, into_user, leave, new, number, put, run, settle, start,
                          state, take, word)

ALL = 65535
EVERY_WORD = [TOP - a for a in range(4096)]
TAKE_ALL = [take(0, p) for p in range(16)]


def page_words(words, p):
    return [1, 256] + (list(words) + [0] * 4096)[p * 256:p * 256 + 256]


class TakeTest(unittest.TestCase):
    def test_no_guest(self):
        for k in NO_GUESTS:
            self.assertEqual(ask(take(k, 0)), [[0, -2]])
        self.assertEqual(ask(new(1, []), take(0, 0), take(2, 0), take(3, 0))[1:], [[0, -2]] * 3)
        self.assertEqual(ask(new(1, []), start(), take(1, 0))[2], [0, -2])

    def test_a_coming_one_is_none(self):
        self.assertEqual(ask(come(1), take(1, 0), take(1, 16)), [[0, 0], [0, -2], [0, -2]])

    def test_page_above_15(self):
        for p in (16, 17, 31, 256, 4096, TOP):
            answered = ask(new(0, EVERY_WORD), take(0, 3), take(0, p), changed(0))
            self.assertEqual(answered[2:], [[0, -22], [0, ALL - 8]])

    def test_no_guest_is_named_before_a_wrong_page(self):
        self.assertEqual(ask(new(0, []), take(1, 16), take(3, TOP)), [[0, 0], [0, -2], [0, -2]])

    def test_the_words_of_each_page(self):
        answered = ask(new(0, EVERY_WORD), *TAKE_ALL)
        self.assertEqual(answered[1:], [page_words(EVERY_WORD, p) for p in range(16)])

    def test_an_image_that_ends_within_a_page(self):
        answered = ask(new(0, [7] * 300), take(0, 0), take(0, 1), take(0, 2))
        self.assertEqual(answered[1:], [[1, 256] + [7] * 256, [1, 256] + [7] * 44 + [0] * 212, [1, 256] + [0] * 256])

    def test_it_is_taken_and_no_other(self):
        for p in range(16):
            self.assertEqual(ask(new(0, []), take(0, p), changed(0))[2], [0, ALL - (1 << p)])

    def test_one_behind_another(self):
        expected, bits, calls = [], ALL, []
        for p in (9, 0, 15, 3, 3, 8, 1, 14, 2, 13, 4, 12, 5, 11, 6, 10, 7):
            calls += [take(0, p), changed(0)]
            bits &= ~(1 << p)
            expected.append([0, bits])
        self.assertEqual(ask(new(0, []), *calls)[2::2], expected)
        self.assertEqual(bits, 0)

    def test_taken_twice(self):
        answered = ask(new(0, EVERY_WORD), take(0, 5), take(0, 5), changed(0))
        self.assertEqual(answered[1:3], [page_words(EVERY_WORD, 5)] * 2)
        self.assertEqual(answered[3], [0, ALL - 32])

    def test_of_the_guest_that_is_named_alone(self):
        answered = ask(*[new(k, [k + 1]) for k in range(3)], take(1, 0), *[changed(k) for k in range(3)])
        self.assertEqual(answered[3:], [[1, 256, 2] + [0] * 255, [0, ALL], [0, ALL - 1], [0, ALL]])

    def test_it_changes_nothing_of_the_machine(self):
        memory = image((8, [code(SET, 1, n=3), code(STORE, 1, n=300), code(OUT, 1), code(HALT)]))
        looks = [state(0), word(0, 300)]
        answered = ask(new(0, memory), run(0, 2), *looks, *TAKE_ALL, *looks, run(0, 9))
        self.assertEqual(answered[2:4], answered[20:22])
        self.assertEqual(answered[22], [2, 1, 0, 3, 2])

    def test_of_a_guest_in_user_it_is_a_page_of_memory_itself(self):
        codes = into_user({0: 0x0F01, 1: 0x0F01}, 300)
        memory = image((8, codes), (256, [7] * 256))
        answered = ask(new(0, memory), run(0, len(codes)), take(0, 1), changed(0))
        self.assertEqual(answered[2:], [[1, 256] + [7] * 256, [0, ALL - 2]])

    def test_of_a_halted_guest(self):
        memory = image((8, [code(SET, 1, n=5), code(STORE, 1, n=300), code(HALT)]))
        answered = ask(new(0, memory), run(0, 9), take(0, 1), run(0, 9), changed(0))
        self.assertEqual(answered[2:], [[1, 256] + [0] * 44 + [5] + [0] * 211, [2, 0, 0], [0, ALL - 2]])


class WrittenTest(unittest.TestCase):
    def written(self, codes, steps, rows=()):
        """What isn't taken when all pages were taken before so many steps."""
        return ask(new(0, image((8, codes), *rows)), *TAKE_ALL, run(0, steps), changed(0))[18][1]

    def test_taken_written_and_taken(self):
        memory = image((8, [code(SET, 1, n=5), code(STORE, 1, n=600), code(HALT)]))
        answered = ask(new(0, memory), take(0, 2), changed(0), run(0, 1), changed(0), run(0, 1), changed(0), take(0, 2),
                       changed(0), run(0, 9), changed(0))
        self.assertEqual([answered[at] for at in (2, 4, 6, 8, 10)],
                         [[0, ALL - 4], [0, ALL - 4], [0, ALL], [0, ALL - 4], [0, ALL - 4]])
        self.assertEqual(answered[1], [1, 256] + [0] * 256)
        self.assertEqual(answered[7], [1, 256] + [0] * 88 + [5] + [0] * 167)

    def test_written_as_what_it_was(self):
        memory = image((8, [code(LOAD, 1, n=600), code(STORE, 1, n=600), code(HALT)]), (600, [77]))
        answered = ask(new(0, memory), take(0, 2), run(0, 1), changed(0), run(0, 1), changed(0), take(0, 2), changed(0))
        self.assertEqual([answered[at] for at in (3, 5, 7)], [[0, ALL - 4], [0, ALL], [0, ALL - 4]])
        self.assertEqual(answered[1], answered[6])

    def test_the_pages_first_and_last_words(self):
        for address in (0, 255, 256, 511, 2047, 2048, 3839, 3840, 4095):
            self.assertEqual(self.written([code(STORE, 1, n=address)], 1), 1 << address // 256)

    def test_several_pages(self):
        self.assertEqual(self.written([code(STORE, 1, n=a) for a in (300, 900, 301, 4000)], 4), 2 | 8 | 32768)

    def test_an_instruction_that_writes_itself_or_the_next(self):
        self.assertEqual(self.written([code(STORE, 1, n=8)], 1), 1)
        self.assertEqual(self.written([code(STORE, 1, n=9)], 1), 1)

    def test_what_writes_no_word_leaves_all_taken(self):
        codes = [code(SET, 1, n=5), code(LOAD, 2, n=700), code(PLUS, 1, 2), code(OUT, 1), code(IN, 3), code(12, 1, 2),
                 code(14, 1), code(SPECIAL, 1), code(TRAP)]
        self.assertEqual(self.written(codes, len(codes)), 0)
        self.assertEqual(self.written([code(255)], 1), 0)
        self.assertEqual(self.written([code(HALT), code(STORE, 1, n=700)], 9), 0)
        self.assertEqual(self.written([code(STORE, 1, n=700)], 0), 0)

    def test_a_write_that_is_refused_leaves_it_taken(self):
        self.assertEqual(self.written([code(STORE, 1, n=4096)], 1), 0)
        codes = into_user({0: 0x0001, 3: 0x0301}, 100)
        self.assertEqual(self.written(codes, len(codes) + 1, [(100, [code(STORE, 1, n=768)])]), 0)

    def test_in_user_it_is_the_page_that_the_table_tells(self):
        codes = into_user({0: 0x0001, 3: 0x0A03}, 100)
        self.assertEqual(self.written(codes, len(codes) + 1, [(100, [code(STORE, 1, n=768)])]), 1 << 10)

    def test_two_pages_of_the_table_that_are_one(self):
        codes = into_user({0: 0x0001, 3: 0x0A03, 4: 0x0A03}, 100)
        for address in (3 * 256 + 9, 4 * 256 + 9):
            rows = [(100, [code(SET, 1, n=5), code(STORE, 1, n=address)])]
            memory = image((8, codes), *rows)
            answered = ask(new(0, memory), *TAKE_ALL, run(0, len(codes) + 2), changed(0), take(0, 10), changed(0))
            self.assertEqual(answered[18:], [[0, 1 << 10], [1, 256] + [0] * 9 + [5] + [0] * 246, [0, 0]])

    def test_a_step_that_the_timer_takes_writes_nothing(self):
        codes = [code(SET, 1, n=2), code(SPECIAL, 1, n=1), code(SET, 1, n=100), code(SPECIAL, 1), code(SET, 1, n=2),
                 code(14, 1), code(BACK)]
        rows = [(4, [code(BACK)]), (100, [code(STORE, 1, n=900)])]
        self.assertEqual(self.written(codes, 8, rows), 0)
        self.assertEqual(self.written(codes, 10, rows), 8)

    def test_the_writes_of_another_guest_say_nothing(self):
        memory = image((8, [code(STORE, 1, n=300), code(HALT)]))
        answered = ask(new(0, memory), new(1, memory), take(0, 1), take(1, 1), run(1, 2), changed(0), changed(1))
        self.assertEqual(answered[5:], [[0, ALL - 2], [0, ALL]])

    def test_taken_words_stay_what_they_were(self):
        loop = image((8, [code(SET, 1, n=1), code(PLUS, 2, 1), code(STORE, 2, n=300), code(GO, n=9)]))
        turns = [call for turn in range(5) for call in (run(0, 3), take(0, 1))]
        answered = ask(new(0, loop), *turns)[2::2]
        self.assertEqual(answered, [[1, 256] + [0] * 44 + [count] + [0] * 211 for count in range(1, 6)])


class LeaveTest(unittest.TestCase):
    def test_no_guest(self):
        for k in NO_GUESTS:
            self.assertEqual(ask(leave(k)), [[0, -2]])
        self.assertEqual(ask(new(0, []), *TAKE_ALL, leave(1), leave(2), leave(3))[17:], [[0, -2]] * 3)

    def test_a_coming_one_is_none(self):
        answered = ask(come(0), put(0, 1, [4] * 256), leave(0), settle(0, [0] * 34), word(0, 256))
        self.assertEqual(answered[2:], [[0, -2], [0, 0], [1, 1, 4]])

    def test_no_page_is_taken(self):
        self.assertEqual(ask(new(0, []), leave(0)), [[0, 0], [0, -16]])

    def test_one_page_is_not_taken(self):
        for missing in range(16):
            answered = ask(new(0, []), *[take(0, p) for p in range(16) if p != missing], leave(0), changed(0))
            self.assertEqual(answered[16:], [[0, -16], [0, 1 << missing]])

    def test_a_page_was_written_behind_its_taking(self):
        memory = image((8, [code(STORE, 1, n=600), code(HALT)]))
        answered = ask(new(0, memory), *TAKE_ALL, run(0, 1), leave(0), take(0, 2), leave(0))
        self.assertEqual(answered[18], [0, -16])
        self.assertEqual(answered[20], [1, 34] + [0] * 8 + [9] + [0] * 25)

    def test_refused_it_changes_nothing(self):
        memory = image((8, [code(SET, 1, n=5), code(STORE, 1, n=600), code(OUT, 1), code(HALT)]))
        looks = [state(0), changed(0), word(0, 600)]
        answered = ask(new(0, memory), run(0, 2), take(0, 4), *looks, leave(0), *looks, run(0, 9))
        self.assertEqual(answered[6], [0, -16])
        self.assertEqual(answered[3:6], answered[7:10])
        self.assertEqual(answered[10], [2, 1, 0, 5, 2])

    def test_the_state_and_then_no_guest(self):
        codes = into_user({0: 0x0001, 7: 0x0703}, 100, ints=1)
        memory = image((8, number(1, TOP) + [code(14, 1)] + codes), (100, [code(HIGH, 2, n=9)]))
        answered = ask(new(0, memory), run(0, len(codes) + 4), *TAKE_ALL, state(0), leave(0), state(0), run(0, 1),
                       word(0, 0), changed(0), take(0, 0), leave(0), put(0, 0, [0] * 256), settle(0, [0] * 34), drop(0))
        self.assertEqual(answered[18], answered[19])
        self.assertEqual(answered[19][2:12], [0, TOP, 9 << 16, 0, 0, 0, 3, 0x0703, 101, 1])
        self.assertEqual(answered[20:], [[0, -2]] * 9)

    def test_of_a_halted_guest(self):
        answered = ask(new(0, image((8, [code(HALT)]))), run(0, 5), *TAKE_ALL, leave(0))
        self.assertEqual(answered[18], [1, 34] + [0] * 8 + [9, 0, 0, 0, 1] + [0] * 21)

    def test_steps_that_write_nothing_let_it_leave(self):
        answered = ask(new(0, image((8, [code(SET, 1, n=7)]))), *TAKE_ALL, run(0, 0), run(0, 1), leave(0))
        self.assertEqual(answered[19], [1, 34, 0, 7, 0, 0, 0, 0, 0, 0, 9] + [0] * 25)

    def test_other_guests_stay(self):
        answered = ask(new(0, [1]), new(1, [2]), come(2), *TAKE_ALL, leave(0), word(1, 0), changed(1), new(2, []))
        self.assertEqual(answered[20:], [[1, 1, 2], [0, ALL], [0, -17]])

    def test_its_number_is_free(self):
        left = [new(0, [1]), *TAKE_ALL, leave(0)]
        self.assertEqual(ask(*left, new(0, [3]), word(0, 0), changed(0))[18:], [[0, 0], [1, 1, 3], [0, ALL]])
        answered = ask(*left, come(0), settle(0, [0] * 34), word(0, 0), changed(0))
        self.assertEqual(answered[18:], [[0, 0], [0, 0], [1, 1, 0], [0, ALL]])


if __name__ == "__main__":
    unittest.main()
