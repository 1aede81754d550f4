"""Points 8 and 9: one comes, its pages are put, it is settled; and what is dropped."""

import unittest

from tests.helper import (BACK, GO, HALT, IN, NO_GUESTS, OUT, SET, STORE, TOP, State, ask, changed, code, come, drop,
                          image, leave, new, put, run, settle, start, state, state_words, take, word)

ALL = 65535
ZEROS = [0] * 34
# Where in the 34 words a number stands that has a highest one, and which.
TOPS = {"place": (8, 4095), "user": (9, 1), "ints": (10, 1), "pending": (11, 1), "halted": (12, 1),
        "way": (15, 3), "cause": (16, 4)}


def with_word(at, value, words=tuple(ZEROS)):
    return list(words[:at]) + [value] + list(words[at + 1:])


def settled(words, *rows):
    """A guest 0 of these state words, with rows of (place, words) in memory, all within page 0."""
    return [come(0), put(0, 0, image((255, [0]), *rows)), settle(0, words)]


class ComeTest(unittest.TestCase):
    def test_each_number_from_0_to_2(self):
        self.assertEqual(ask(*[come(k) for k in range(3)]), [[0, 0]] * 3)

    def test_number_above_2(self):
        for k in (3, 4, 2 ** 31, TOP):
            self.assertEqual(ask(come(k), put(k, 0, [0] * 256), drop(k)), [[0, -22], [0, -2], [0, -2]])

    def test_has_a_guest(self):
        answered = ask(new(1, [5]), take(1, 3), come(1), word(1, 0), changed(1), put(1, 0, [1] * 256))
        self.assertEqual(answered[2:], [[0, -17], [1, 1, 5], [0, ALL - 8], [0, -2]])

    def test_has_one_that_is_coming(self):
        answered = ask(come(1), put(1, 0, [6] * 256), come(1), settle(1, ZEROS), word(1, 0))
        self.assertEqual(answered, [[0, 0], [0, 0], [0, -17], [0, 0], [1, 1, 6]])

    def test_has_one_that_was_settled(self):
        self.assertEqual(ask(come(1), settle(1, ZEROS), come(1), state(1))[2:], [[0, -17], [1, 34] + ZEROS])

    def test_of_zeros(self):
        answered = ask(come(0), settle(0, ZEROS), *[take(0, p) for p in range(16)])
        self.assertEqual(answered[2:], [[1, 256] + [0] * 256] * 16)

    def test_of_zeros_where_a_guest_was(self):
        gone = [new(0, [7] * 4096), drop(0), come(0), settle(0, ZEROS)]
        self.assertEqual(ask(*gone, take(0, 0), take(0, 15))[4:], [[1, 256] + [0] * 256] * 2)


class PutTest(unittest.TestCase):
    def test_none_is_coming(self):
        for k in NO_GUESTS:
            self.assertEqual(ask(put(k, 0, [1] * 256)), [[0, -2]])
        self.assertEqual(ask(come(1), put(0, 0, [1] * 256), put(2, 0, [1] * 256))[1:], [[0, -2]] * 2)

    def test_a_guest_is_none_that_is_coming(self):
        answered = ask(new(0, [5]), take(0, 0), put(0, 0, [1] * 256), word(0, 0), changed(0))
        self.assertEqual(answered[2:], [[0, -2], [1, 1, 5], [0, ALL - 1]])
        answered = ask(come(0), settle(0, ZEROS), take(0, 0), put(0, 0, [1] * 256), word(0, 0), changed(0))
        self.assertEqual(answered[3:], [[0, -2], [1, 1, 0], [0, ALL - 1]])

    def test_page_above_15(self):
        for p in (16, 17, 256, TOP):
            answered = ask(come(0), put(0, p, [1] * 256), settle(0, ZEROS), *[take(0, page) for page in range(16)])
            self.assertEqual(answered, [[0, 0], [0, -22], [0, 0]] + [[1, 256] + [0] * 256] * 16)

    def test_none_coming_is_named_before_a_wrong_page(self):
        self.assertEqual(ask(put(0, 16, [1] * 256), new(1, []), put(1, 16, [1] * 256), put(3, 16, [1] * 256)),
                         [[0, -2], [0, 0], [0, -2], [0, -2]])

    def test_each_page(self):
        pages = [[TOP - p * 256 - low for low in range(256)] for p in range(16)]
        for order in (range(16), range(15, -1, -1)):
            puts = [put(2, p, pages[p]) for p in order]
            answered = ask(come(2), *puts, settle(2, ZEROS), *[take(2, p) for p in range(16)])
            self.assertEqual(answered[:18], [[0, 0]] * 18)
            self.assertEqual(answered[18:], [[1, 256] + page for page in pages])

    def test_one_page_leaves_the_others(self):
        answered = ask(come(0), put(0, 7, [9] * 256), settle(0, ZEROS), *[take(0, p) for p in range(16)])
        self.assertEqual(answered[3:], [[1, 256] + [9 if p == 7 else 0] * 256 for p in range(16)])

    def test_a_page_put_twice_is_the_later(self):
        answered = ask(come(0), put(0, 7, [9] * 256), put(0, 7, [8] + [0] * 255), settle(0, ZEROS), take(0, 7))
        self.assertEqual(answered[4], [1, 256, 8] + [0] * 255)

    def test_several_that_are_coming_at_once(self):
        answered = ask(*[come(k) for k in range(3)], *[put(k, 0, [k + 1] * 256) for k in range(3)],
                       *[settle(k, ZEROS) for k in (2, 0, 1)], *[word(k, 255) for k in range(3)])
        self.assertEqual(answered[9:], [[1, 1, 1], [1, 1, 2], [1, 1, 3]])

    def test_put_words_stay_what_they_were(self):
        page = image((8, [code(SET, 1, n=5), code(STORE, 1, n=8)]), (255, [0]))
        calls = put(0, 0, page)
        answered = ask(come(0), come(1), calls, [9, 1] + calls[2:], settle(0, with_word(8, 8)), run(0, 2), word(0, 8),
                       settle(1, with_word(8, 8)), word(1, 8))
        self.assertEqual((answered[6], answered[8]), ([1, 1, 5], [1, 1, page[8]]))
        self.assertEqual(calls, put(0, 0, page))


class SettleTest(unittest.TestCase):
    def test_none_is_coming(self):
        for k in NO_GUESTS:
            self.assertEqual(ask(settle(k, ZEROS), state(k)), [[0, -2], [0, -2]])

    def test_a_guest_is_none_that_is_coming(self):
        answered = ask(new(0, [5]), settle(0, with_word(0, 1)), state(0))
        self.assertEqual(answered[1:], [[0, -2], [1, 34] + with_word(8, 8)])
        answered = ask(come(0), settle(0, ZEROS), settle(0, with_word(0, 1)), state(0))
        self.assertEqual(answered[2:], [[0, -2], [1, 34] + ZEROS])

    def test_none_coming_is_named_before_a_state_that_is_none(self):
        answered = ask(settle(0, [TOP] * 34), new(1, []), settle(1, [TOP] * 34), settle(3, [TOP] * 34))
        self.assertEqual(answered, [[0, -2], [0, 0], [0, -2], [0, -2]])

    def test_a_state_that_is_none(self):
        for part, (at, top) in TOPS.items():
            for value in (top + 1, top + 2, 2 ** 31, TOP):
                answered = ask(come(0), settle(0, with_word(at, value)), state(0))
                self.assertEqual(answered[1:], [[0, -22], [0, -2]], (part, value))

    def test_the_highest_of_each(self):
        for part, (at, top) in TOPS.items():
            words = with_word(at, top)
            self.assertEqual(ask(come(0), settle(0, words), state(0))[1:], [[0, 0], [1, 34] + words], part)

    def test_other_words_may_be_any(self):
        tops = {at: top for at, top in TOPS.values()}
        words = [tops.get(at, TOP) for at in range(34)]
        self.assertEqual(ask(come(0), settle(0, words), state(0))[1:], [[0, 0], [1, 34] + words])

    def test_34_words_in_order(self):
        words = [200 + at for at in range(8)] + [77, 1, 0, 1, 0, 55, 300, 2, 3, 301] + [400 + at for at in range(16)]
        self.assertEqual(ask(come(1), settle(1, words), state(1))[2], [1, 34] + words)
        words = words[:9] + [0, 1, 0, 1] + words[13:]
        self.assertEqual(ask(come(1), settle(1, words), state(1))[2], [1, 34] + words)

    def test_refused_it_is_still_coming_as_it_was(self):
        refused = [settle(0, with_word(at, TOP)) for at, top in TOPS.values()]
        answered = ask(come(0), put(0, 3, [4] * 256), *refused, new(0, []), come(0), put(0, 4, [5] * 256),
                       settle(0, ZEROS), word(0, 768), word(0, 1024), state(0))
        self.assertEqual(answered[2:9], [[0, -22]] * 7)
        self.assertEqual(answered[9:], [[0, -17], [0, -17], [0, 0], [0, 0], [1, 1, 4], [1, 1, 5], [1, 34] + ZEROS])

    def test_no_page_is_taken(self):
        answered = ask(come(0), put(0, 0, [4] * 256), settle(0, ZEROS), changed(0), leave(0))
        self.assertEqual(answered[3:], [[0, ALL], [0, -16]])

    def test_none_is_coming_any_more(self):
        answered = ask(come(0), settle(0, ZEROS), put(0, 0, [1] * 256), settle(0, ZEROS), drop(0), drop(0))
        self.assertEqual(answered[2:], [[0, -2], [0, -2], [0, 0], [0, -2]])

    def test_the_number_that_is_named_alone(self):
        answered = ask(come(0), come(1), new(2, [5]), settle(1, ZEROS), state(0), state(1), word(2, 0))
        self.assertEqual(answered[4:], [[0, -2], [1, 34] + ZEROS, [1, 1, 5]])

    def test_settled_words_stay_what_they_were(self):
        codes = [code(SET, 1, n=5), code(12, 1, 1), code(14, 1), code(19, 1), code(11)]
        before = state_words(place=8, table=[9] * 16, registers=[9] * 8, specials=[9, 1, 1, 9])
        calls = settle(0, before)
        answered = ask(*settled(before, (8, codes)), state(0), run(0, 5), state(0), come(1), [10, 1] + calls[2:],
                       state(1))
        self.assertEqual((answered[3], answered[8]), ([1, 34] + before, [1, 34] + before))
        after = State(answered[5][2:])
        self.assertEqual((after.registers[1], after.table[5], after.specials), (5, 5, [13, 0, 3, 0]))
        self.assertEqual(calls, settle(0, before))

    def test_it_tells_and_asks_its_console(self):
        answered = ask(*settled(with_word(8, 20), (20, [code(IN, 1), code(OUT, 1), code(HALT)])), run(0, 9, [6, 7]))
        self.assertEqual(answered[3], [2, 2, 1, 6, 0, 6, 3])


class SettledCornersTest(unittest.TestCase):
    def after(self, words, steps, *rows):
        answered = ask(*settled(words, *rows), run(0, steps), state(0))
        self.assertEqual(answered[:3], [[0, 0]] * 3)
        self.assertEqual(answered[3], [2, 0, steps])
        return State(answered[4][2:])

    def test_place_of_4095(self):
        calls = [come(0), put(0, 15, [0] * 255 + [code(SET, 1, n=5)]), put(0, 0, [code(SET, 2, n=6)] + [0] * 255),
                 settle(0, with_word(8, 4095))]
        after = State(ask(*calls, run(0, 1), state(0))[5][2:])
        self.assertEqual((after.place, after.registers[1:3]), (0, [5, 0]))
        after = State(ask(*calls, run(0, 2), state(0))[5][2:])
        self.assertEqual((after.place, after.registers[1:3]), (1, [5, 6]))

    def test_place_of_4095_in_user(self):
        words = state_words(place=4095, user=1, table=[0x0001] + [0] * 14 + [0x0001])
        after = self.after(words, 1, (255, [code(11)]))
        self.assertEqual((after.place, after.user, after.specials), (4, 0, [0, 1, 3, 0]))

    def test_halted(self):
        words = state_words(place=8, halted=1, pending=1, ints=1, timer=1)
        answered = ask(*settled(words, (8, [code(SET, 1, n=5)])), run(0, 100), state(0), take(0, 0))
        self.assertEqual(answered[3:5], [[2, 0, 0], [1, 34] + words])
        self.assertEqual(answered[5][:2], [1, 256])

    def test_timer_comes_to_0_with_ints(self):
        after = self.after(state_words(place=50, ints=1, timer=1), 1, (50, [code(SET, 1, n=5)]))
        self.assertEqual((after.timer, after.pending, after.ints, after.place), (0, 0, 0, 4))
        self.assertEqual((after.specials, after.registers[1]), ([50, 2, 4, 0], 0))

    def test_timer_comes_to_0_without_ints(self):
        after = self.after(state_words(place=50, timer=1), 1, (50, [code(SET, 1, n=5)]))
        self.assertEqual((after.timer, after.pending, after.ints, after.place), (0, 1, 0, 51))
        self.assertEqual((after.specials, after.registers[1]), ([0] * 4, 5))

    def test_timer_of_2(self):
        after = self.after(state_words(place=50, ints=1, timer=2), 1, (50, [code(SET, 1, n=5)]))
        self.assertEqual((after.timer, after.pending, after.place, after.registers[1]), (1, 0, 51, 5))

    def test_timer_of_0_lets_nothing_pend(self):
        after = self.after(state_words(place=50, ints=1), 3)
        self.assertEqual((after.timer, after.pending, after.place), (0, 0, 53))

    def test_pending_with_ints_and_without(self):
        after = self.after(state_words(place=50, ints=1, pending=1, user=1), 1)
        self.assertEqual((after.pending, after.user, after.place, after.specials), (0, 0, 4, [50, 3, 4, 0]))
        after = self.after(state_words(place=50, pending=1), 1)
        self.assertEqual((after.pending, after.place, after.specials), (1, 51, [0] * 4))

    def test_user_from_the_first_step_on(self):
        table = [0x0001, 0, 0x0003] + [0] * 13
        after = self.after(state_words(place=50, user=1, table=table), 1, (50, [code(SET, 1, n=5)]))
        self.assertEqual((after.place, after.user, after.registers[1]), (51, 1, 5))
        after = self.after(state_words(place=2 * 256 + 50, user=1, table=table), 1, (50, [code(SET, 1, n=5)]))
        self.assertEqual((after.place, after.user, after.registers[1]), (563, 1, 5))

    def test_traps_in_user_from_the_first_step_on(self):
        table = [0x0001] + [0] * 15
        after = self.after(state_words(place=256, user=1, ints=1, table=table), 1)
        self.assertEqual((after.place, after.user, after.specials), (4, 0, [256, 3, 2, 256]))
        for which in range(12, 21):
            after = self.after(state_words(place=50, user=1, table=table), 1, (50, [code(which)]))
            self.assertEqual((after.place, after.user, after.specials), (4, 0, [50, 1, 1, 0]))
        after = self.after(state_words(place=50, user=1, table=table), 1, (50, [code(STORE, 1, n=60)]))
        self.assertEqual((after.place, after.user, after.specials), (4, 0, [50, 1, 2, 60]))

    def test_two_pages_of_the_table_that_are_one(self):
        words = state_words(place=50, user=1, registers=[0, 7] + [0] * 6, table=[0x0001, 0x0903, 0x0903] + [0] * 13)
        codes = [code(STORE, 1, n=256 + 9), code(6, 2, n=512 + 9)]
        answered = ask(*settled(words, (50, codes)), *[take(0, p) for p in range(16)], run(0, 2), changed(0), state(0),
                       word(0, 9 * 256 + 9))
        self.assertEqual(answered[20], [0, 1 << 9])
        self.assertEqual((answered[21][4], answered[22]), (7, [1, 1, 7]))

    def test_writes_the_instruction_that_is_next(self):
        words = state_words(place=50, registers=[0, code(SET, 5, n=44)] + [0] * 6)
        after = self.after(words, 2, (50, [code(STORE, 1, n=51), code(HALT)]))
        self.assertEqual((after.registers[5], after.halted, after.place), (44, 0, 52))

    def test_goes_back_by_what_was_settled(self):
        after = self.after(state_words(place=50, specials=[TOP, 3, 4, TOP]), 1, (50, [code(BACK)]))
        self.assertEqual((after.place, after.user, after.ints, after.specials), (4095, 1, 1, [TOP, 3, 4, TOP]))

    def test_steps_of_0(self):
        words = state_words(place=4095, user=1, ints=1, pending=1, timer=1, specials=[1, 2, 3, 4])
        answered = ask(come(0), settle(0, words), run(0, 0, [5]), state(0), changed(0))
        self.assertEqual(answered[2:], [[2, 0, 0], [1, 34] + words, [0, ALL]])


class DropTest(unittest.TestCase):
    def test_no_guest_and_none_coming(self):
        for k in NO_GUESTS:
            self.assertEqual(ask(drop(k)), [[0, -2]])
        self.assertEqual(ask(new(0, []), come(1), drop(2), drop(3), word(0, 0), put(1, 0, [0] * 256))[2:],
                         [[0, -2], [0, -2], [1, 1, 0], [0, 0]])
        self.assertEqual(ask(new(0, []), come(1), start(), drop(0), drop(1))[3:], [[0, -2]] * 2)

    def test_a_guest(self):
        for calls in ([new(2, [5])], [new(2, [5]), run(2, 9)], [new(2, [5])] + [take(2, p) for p in range(16)]):
            answered = ask(*calls, drop(2), state(2), run(2, 1), word(2, 0), changed(2), take(2, 0), leave(2), drop(2))
            self.assertEqual(answered[len(calls):], [[0, 0]] + [[0, -2]] * 7)

    def test_a_coming_one(self):
        page = put(2, 0, [5] * 256)
        answered = ask(come(2), page, drop(2), page, settle(2, ZEROS), state(2), drop(2))
        self.assertEqual(answered[2:], [[0, 0]] + [[0, -2]] * 4)

    def test_a_settled_one(self):
        answered = ask(come(2), settle(2, ZEROS), drop(2), state(2), put(2, 0, [5] * 256), settle(2, ZEROS), drop(2))
        self.assertEqual(answered[2:], [[0, 0]] + [[0, -2]] * 4)

    def test_its_number_is_free(self):
        for first in ([new(1, [7] * 4096), take(1, 0)], [come(1), put(1, 0, [7] * 256)]):
            answered = ask(*first, drop(1), new(1, [3]), word(1, 0), word(1, 1), changed(1), state(1))
            self.assertEqual(answered[2:], [[0, 0], [0, 0], [1, 1, 3], [1, 1, 0], [0, ALL], [1, 34] + with_word(8, 8)])
            answered = ask(*first, drop(1), come(1), settle(1, ZEROS), word(1, 0), changed(1))
            self.assertEqual(answered[2:], [[0, 0], [0, 0], [0, 0], [1, 1, 0], [0, ALL]])

    def test_others_stay(self):
        loop = image((8, [code(OUT, 1), code(GO, n=8)]))
        answered = ask(new(0, loop), new(1, loop), come(2), put(2, 0, [6] * 256), drop(1), run(0, 2), settle(2, ZEROS),
                       word(2, 0))
        self.assertEqual(answered[4:], [[0, 0], [2, 1, 0, 0, 2], [0, 0], [1, 1, 6]])


if __name__ == "__main__":
    unittest.main()
