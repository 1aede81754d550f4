"""What holds of the whole: a guest that is moved goes on, and any calls are answered as the document says."""

import random
import unittest

from tests.helper import (BACK, GO, HALT, IN, LOAD, OUT, PLUS, SET, SPECIAL, STORE, TIMER, TOP, PlainKeeper, State,
                          Talk, arrive, ask, changed, code, come, drop, image, into_user, leave, new, number, put, run,
                          settle, start, state, state_words, take, wild_image, word)

ECHO = image((8, [code(IN, 1), code(PLUS, 2, 1), code(STORE, 2, n=700), code(OUT, 2), code(GO, n=8)]))
LOOKS = range(0, 4096, 61)


def seen(k):
    return [state(k)] + [word(k, a) for a in LOOKS]


def moved(memory, first, told=()):
    """The pages and the state of a guest that ran so many steps and then left."""
    talk = Talk(new(0, memory), run(0, first, told))
    return talk.give_up(0)


class MovedTest(unittest.TestCase):
    def goes_on(self, memory, first, then, told=(), to=1):
        """Moved between the two runs or not, it does the same behind them, and is the same; answers its state."""
        pages, words = moved(memory, first, told)
        unmoved = ask(new(to, memory), run(to, first, told), run(to, then, told), *seen(to))
        elsewhere = ask(*arrive(to, pages, words), run(to, then, told), *seen(to))
        self.assertEqual(elsewhere[:18], [[0, 0]] * 18)
        self.assertEqual(elsewhere[18:], unmoved[2:])
        return State(elsewhere[19][2:])

    def test_the_same_told_and_asked(self):
        after = self.goes_on(ECHO, 12, 33, [5, TOP, 8])
        self.assertEqual(after.place, 8)

    def test_to_each_number(self):
        for to in range(3):
            self.goes_on(ECHO, 7, 20, [3], to)

    def test_within_one_keeper_and_back(self):
        talk = Talk(new(0, ECHO), run(0, 7, [4, 6]))
        for here, there in ((0, 2), (2, 1), (1, 0)):
            pages, words = talk.give_up(here)
            talk.calls += arrive(there, pages, words)
            answered = talk.say(run(there, 6, [9]), state(there), state(here))
            self.assertEqual(answered[2], [0, -2])
        alone = ask(new(0, ECHO), run(0, 7, [4, 6]), *[run(0, 6, [9])] * 3, state(0), word(0, 700))
        self.assertEqual(answered[:2], alone[4:6])
        self.assertEqual(talk.say(word(0, 700))[0], alone[6])

    def test_beside_other_guests(self):
        pages, words = moved(ECHO, 12, [5])
        others = [new(0, ECHO), new(1, [1, 2])]
        answered = ask(*others, *arrive(2, pages, words), run(0, 9, [7]), run(2, 20, [5, 6]), run(0, 9, [7]), run(2, 3))
        unmoved = ask(new(2, ECHO), run(2, 12, [5]), run(2, 20, [5, 6]), run(2, 3))
        self.assertEqual([answered[21], answered[23]], unmoved[2:])
        self.assertEqual([answered[20], answered[22]], ask(new(0, ECHO), run(0, 9, [7]), run(0, 9, [7]))[1:])

    def test_the_one_that_left_is_not_the_one_that_was_settled(self):
        pages, words = moved(ECHO, 12, [5])
        calls = arrive(0, pages, words) + arrive(1, pages, words) + [run(0, 15, [9])] + seen(1)
        unmoved = ask(new(1, ECHO), run(1, 12, [5]), *seen(1))
        self.assertEqual(ask(*calls)[37:], unmoved[2:])

    def test_place_of_4095(self):
        memory = image((0, [code(OUT, 1)]), (8, [code(GO, n=4095)]), (4095, [code(SET, 1, n=5)]))
        self.assertEqual(moved(memory, 1)[1][8], 4095)
        self.assertEqual(self.goes_on(memory, 1, 2).place, 1)

    def test_halted(self):
        memory = image((8, [code(SET, 1, n=5), code(HALT), code(OUT, 1)]))
        self.assertEqual(self.goes_on(memory, 2, 50).halted, 1)

    def test_steps_of_0(self):
        self.goes_on(ECHO, 0, 20, [3])
        self.goes_on(ECHO, 11, 0, [3])

    def test_timer_comes_to_0_without_ints(self):
        memory = image((8, [code(SET, 1, n=4), code(TIMER, 1)]))
        for first in range(2, 9):
            after = self.goes_on(memory, first, 9 - first)
            self.assertEqual((after.timer, after.pending, after.place), (0, 1, 17))

    def test_timer_comes_to_0_with_ints(self):
        prelude = [code(SET, 1, n=2), code(SPECIAL, 1, n=1), code(SET, 1, n=100), code(SPECIAL, 1), code(SET, 1, n=6),
                   code(TIMER, 1), code(BACK)]
        for first in range(6, 16):
            after = self.goes_on(image((8, prelude)), first, 16 - first)
            self.assertEqual((after.ints, after.pending, after.specials), (0, 0, [104, 2, 4, 0]))

    def test_in_user_with_two_pages_that_are_one(self):
        prelude = into_user({0: 0x0001, 2: 0x0903, 5: 0x0903}, 100)
        codes = [code(SET, 1, n=7), code(STORE, 1, n=521), code(LOAD, 2, n=1289), code(PLUS, 2, 1),
                 code(STORE, 2, n=1289), code(LOAD, 3, n=521), code(STORE, 3, n=3000)]
        memory = image((8, prelude), (100, codes))
        for first in range(len(prelude), len(prelude) + 7):
            after = self.goes_on(memory, first, len(prelude) + 7 - first)
            self.assertEqual((after.registers[2:4], after.specials), ([14, 14], [106, 1, 2, 3000]))

    def test_writes_the_instruction_that_is_next(self):
        memory = image((8, number(1, code(SET, 5, n=44)) + [code(STORE, 1, n=11), code(HALT)]))
        for first in range(5):
            after = self.goes_on(memory, first, 5 - first)
            self.assertEqual((after.registers[5], after.halted), (44, 0))

    def test_traps_in_user_and_in_system(self):
        prelude = into_user({0: 0x0001}, 100, ints=1)
        memory = image((4, [code(255)]), (8, prelude), (100, [code(TIMER, 1)]))
        before = len(prelude)
        self.assertEqual(self.goes_on(memory, before, 1).specials, [100, 3, 1, 0])
        self.assertEqual(self.goes_on(memory, before + 1, 0).specials, [100, 3, 1, 0])
        self.assertEqual(self.goes_on(memory, before, 2).specials, [4, 0, 1, 0])
        self.assertEqual(self.goes_on(memory, before + 1, 1).specials, [4, 0, 1, 0])

    def test_wild_guests_that_are_moved_while_they_run(self):
        for seed in range(25):
            source = random.Random(4000 + seed)
            memory = wild_image(source)
            here, there = source.sample(range(3), 2)
            turns = [(source.choice([0, 1, 2, 7, 60]), [source.getrandbits(8)]) for turn in range(6)]
            talk, kept, ran = Talk(new(here, memory)), {}, []
            for steps, told in turns:
                ran += talk.say(run(here, steps, told))
                if source.random() < 0.5:
                    talk.take_changed(here, kept)
                    self.assertEqual(talk.say(changed(here))[0], [0, 0])
            talk.take_changed(here, kept)
            words = talk.say(leave(here))[0][2:]
            pages = {p: kept[p] for p in source.sample(range(16), 16)}
            tail = [run(there, 40, [seed]), run(there, 1), run(there, 200, [1, 2]), *seen(there)]
            unmoved = ask(new(there, memory), *[run(there, steps, told) for steps, told in turns], *tail)
            self.assertEqual(ran, unmoved[1:7], seed)
            self.assertEqual(ask(*arrive(there, pages, words), *tail)[18:], unmoved[7:], seed)

    def test_pages_taken_in_between_are_those_of_the_last_taking(self):
        talk, kept = Talk(new(0, ECHO)), {}
        for turn in range(4):
            talk.say(run(0, 5, [turn + 1]))
            talk.take_changed(0, kept)
        self.assertEqual(kept[2][700 - 512], 1 + 2 + 3 + 4)
        self.assertEqual([len(kept[p]) for p in range(16)], [256] * 16)
        self.assertEqual(sum(1 for call in talk.calls if call[0] == 6), 16 + 3)


def wild_call(source, moments):
    """A call that may be refused; moments are pages and states that were of some use."""
    k = source.choice([0, 0, 0, 0, 1, 1, 2, 3, TOP])
    p = source.choice([source.randrange(16), source.randrange(18), TOP])
    kind = source.choice([0] + [1, 3, 4, 5, 7, 8, 8, 9, 9, 10, 10, 11] * 2 + [2, 6] * 12)
    if kind == 1:
        return new(k, wild_image(source) if source.random() < 0.8 else [1] * source.choice([0, 4097]))
    if kind == 2:
        return run(k, source.choice([0, 1, 3, 60]), [source.getrandbits(32) for told in range(source.randrange(3))])
    if kind == 9:
        return put(k, p, source.choice(moments["pages"]))
    if kind == 10:
        return settle(k, source.choice(moments["states"]))
    return {0: start(), 3: word(k, source.choice([source.randrange(4096), 4096])), 4: state(k), 5: changed(k),
            6: take(k, p), 7: leave(k), 8: come(k), 11: drop(k)}[kind]


def wild_state(source):
    tops = {8: 4096, 9: 2, 10: 2, 11: 2, 12: 2, 15: 4, 16: 5}
    words = [source.choice([source.getrandbits(32), source.randrange(4096), 3]) for at in range(34)]
    for at, top in tops.items():
        words[at] = source.randrange(top) if source.random() < 0.97 else top
    return words


def wild_calls(source):
    moments = {"pages": [(wild_image(source) + [0] * 256)[:256] for page in range(2)],
               "states": [wild_state(source) for words in range(6)]}
    calls = [wild_call(source, moments) for call in range(80)]
    # Hardly ever are all pages of a guest taken by chance.
    if source.random() < 0.5:
        calls[20:20] = [drop(0), new(0, wild_image(source)), run(0, 70), *[take(0, p) for p in range(16)], leave(0)]
    return calls


class AnyCallsTest(unittest.TestCase):
    def test_as_the_plain_keeper(self):
        for seed in range(150):
            calls = wild_calls(random.Random(5000 + seed))
            keeper = PlainKeeper()
            for call, answer in zip(calls, ask(*calls)):
                self.assertEqual(answer, keeper.answer(call), (seed, call[:4]))

    def test_every_answer_and_refusal_came(self):
        # The test above says nothing of an answer that never comes.
        came = set()
        for seed in range(150):
            calls = wild_calls(random.Random(5000 + seed))
            came |= {(call[0], answer[1] if answer[0] == 0 else "words") for call, answer in zip(calls, ask(*calls))}
        named = {0: [0], 1: [-22, -17, -28, 0], 2: [-2, "words"], 3: [-2, -22, "words"], 4: [-2, "words"],
                 5: [-2, 65535], 6: [-2, -22, "words"], 7: [-2, -16, "words"], 8: [-22, -17, 0], 9: [-2, -22, 0],
                 10: [-2, -22, 0], 11: [-2, 0]}
        expected = {(which, answer) for which, several in named.items() for answer in several}
        self.assertEqual(expected - came, set())
        self.assertEqual({which for which, answer in came - expected}, {5})


class NothingChangedTest(unittest.TestCase):
    def test_where_an_answer_is_below_0(self):
        page = [3] * 256
        before = [new(0, ECHO), run(0, 12, [5]), take(0, 2), take(0, 15), come(1), put(1, 4, page)]
        refused = [new(0, []), new(1, []), new(2, [0] * 4097), new(3, []), run(1, 5), run(2, 5), run(3, 5),
                   word(0, 4096), word(1, 0), state(1), changed(1), take(0, 16), take(1, 0), take(2, 0), leave(0),
                   leave(1), leave(2), come(0), come(1), come(3), put(0, 0, page), put(1, 16, page), put(2, 0, page),
                   settle(0, [0] * 34), settle(1, [TOP] * 34), settle(2, [0] * 34), drop(2), drop(3), drop(TOP)]
        after = [changed(0), *seen(0), run(0, 9, [6]), state(2), settle(1, state_words(place=4)), changed(1), state(1),
                 *[take(1, p) for p in range(16)], new(2, [7])]
        plain = ask(*before, *after)
        answered = ask(*before, *refused, *after)
        self.assertEqual([answer[0] for answer in answered[6:35]], [0] * 29)
        self.assertTrue(all(answer[1] < 0 and len(answer) == 2 for answer in answered[6:35]))
        self.assertEqual(answered[35:], plain[6:])
        for call in refused:
            self.assertEqual(ask(*before, call, *after)[7:], plain[6:], call[:3])


if __name__ == "__main__":
    unittest.main()
