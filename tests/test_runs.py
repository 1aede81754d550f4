"""Point 3: runs, their steps, what is told and asked, and several guests one beside another."""

import random
import unittest

from tests.helper import (GO, HALT, IN, OUT, PLUS, SET, STORE, TOP, PlainMachine, Seen, ask, changed, code, come,
                          image, new, run, start, state, wild_image, word)

ASK_FOR_EVER = image((8, [code(IN, 1), code(GO, n=8)]))
ECHO = image((8, [code(IN, 1), code(OUT, 1), code(PLUS, 2, 1), code(GO, n=8)]))


class StepsTest(unittest.TestCase):
    def test_no_guest(self):
        for k in (0, 1, 2, 3, TOP):
            self.assertEqual(ask(run(k, 5, [1, 2])), [[0, -2]])
        self.assertEqual(ask(new(0, []), run(1, 0), start(), run(0, 0)), [[0, 0], [0, -2], [0, 0], [0, -2]])

    def test_a_coming_one_is_none(self):
        for steps in (0, 5):
            self.assertEqual(ask(come(1), run(1, steps, [3])), [[0, 0], [0, -2]])

    def test_steps_of_0(self):
        answered = ask(new(0, ECHO), state(0), run(0, 0, [5]), state(0))
        self.assertEqual(answered[2], [2, 0, 0])
        self.assertEqual(answered[1], answered[3])

    def test_as_many_as_are_asked(self):
        for steps in (1, 2, 19999, 20000):
            self.assertEqual(ask(new(0, image((8, [code(GO, n=8)]))), run(0, steps))[1], [2, 0, steps])

    def test_none_once_halted(self):
        memory = image((8, [code(SET, 1, n=3), code(HALT), code(OUT, 1)]))
        answered = ask(new(0, memory), run(0, 9), state(0), run(0, 9), run(0, 0), state(0))
        self.assertEqual([answered[1], answered[3], answered[4]], [[2, 0, 2], [2, 0, 0], [2, 0, 0]])
        self.assertEqual(answered[2], answered[5])

    def test_an_image_of_nothing_runs(self):
        self.assertEqual(ask(new(0, []), run(0, 4089), state(0))[1], [2, 0, 4089])
        self.assertEqual(Seen([0], 4089).state.place, 1)


class ToldTest(unittest.TestCase):
    def asked(self, told, steps):
        return Seen(ASK_FOR_EVER, steps, told).passed

    def test_of_no_number(self):
        self.assertEqual(self.asked([], 5), [(1, 0)] * 3)

    def test_of_one_number(self):
        self.assertEqual(self.asked([TOP], 5), [(1, TOP)] * 3)

    def test_of_several_over_and_over(self):
        self.assertEqual(self.asked([4, 5, 6], 13), [(1, number) for number in (4, 5, 6, 4, 5, 6, 4)])

    def test_of_more_than_are_asked(self):
        self.assertEqual(self.asked(list(range(4000)), 3), [(1, 0), (1, 1)])

    def test_from_the_first_on_in_each_run(self):
        answered = ask(new(0, ASK_FOR_EVER), run(0, 4, [4, 5, 6]), run(0, 2, [4, 5, 6]), run(0, 4, [9, 8]), run(0, 2))
        self.assertEqual(answered[1:], [[2, 2, 1, 4, 1, 5, 4], [2, 1, 1, 4, 2], [2, 2, 1, 9, 1, 8, 4], [2, 1, 1, 0, 2]])

    def test_told_and_asked_in_order(self):
        answered = ask(new(0, ECHO), run(0, 10, [7, 8]))
        self.assertEqual(answered[1], [2, 6, 1, 7, 0, 7, 1, 8, 0, 8, 1, 7, 0, 7, 10])

    def test_guests_have_consoles_of_their_own(self):
        answered = ask(new(0, ECHO), new(1, ECHO), run(0, 1, [7, 8]), run(1, 1, [3]), run(0, 1), run(1, 1))
        self.assertEqual(answered[2:], [[2, 1, 1, 7, 1], [2, 1, 1, 3, 1], [2, 1, 0, 7, 1], [2, 1, 0, 3, 1]])


def opened(machine):
    return [machine.m.get(a, 0) for a in range(0, 4096, 61)]


class AsIfAloneTest(unittest.TestCase):
    def alone(self, words, parts, told):
        machine = PlainMachine(words)
        return [machine.run(steps, told) for steps in parts] + [[1, 34] + machine.words()], machine

    def test_as_the_plain_machine(self):
        for seed in range(400):
            source = random.Random(seed)
            words = wild_image(source)
            parts = [source.choice([0, 1, 5, 60, 300]) for part in range(4)]
            told = [source.getrandbits(source.choice([3, 32])) for number in range(source.randrange(4))]
            expected, machine = self.alone(words, parts, told)
            looks = [word(0, a) for a in range(0, 4096, 61)]
            answered = ask(new(0, words), *[run(0, steps, told) for steps in parts], state(0), *looks)
            self.assertEqual(answered[1:6], expected, seed)
            self.assertEqual([answer[2] for answer in answered[6:]], opened(machine), seed)

    def test_each_step_as_the_plain_machine(self):
        for seed in range(30):
            words = wild_image(random.Random(1000 + seed))
            machine = PlainMachine(words)
            expected = []
            for step in range(90):
                expected += [machine.run(1, [step]), [1, 34] + machine.words()]
            calls = [call for step in range(90) for call in (run(0, 1, [step]), state(0))]
            self.assertEqual(ask(new(0, words), *calls)[1:], expected, seed)

    def test_runs_of_m_and_of_n_are_one_of_m_plus_n(self):
        for seed in range(60):
            source = random.Random(2000 + seed)
            words = wild_image(source)
            m, n = source.randrange(200), source.randrange(200)
            looks = [state(0)] + [word(0, a) for a in range(0, 4096, 61)]
            parted = ask(new(0, words), run(0, m, [5]), run(0, n, [5]), *looks)
            whole = ask(new(0, words), run(0, m + n, [5]), *looks)
            self.assertEqual(parted[3:], whole[2:], seed)
            self.assertEqual(parted[1][2:-1] + parted[2][2:-1], whole[1][2:-1], seed)
            self.assertEqual(parted[1][-1] + parted[2][-1], whole[1][-1], seed)

    def test_several_guests_one_beside_another(self):
        for seed in range(60):
            source = random.Random(3000 + seed)
            images = [wild_image(source) for k in range(3)]
            turns = [(source.randrange(3), source.randrange(40)) for turn in range(40)]
            calls = [new(k, images[k]) for k in range(3)] + [run(k, steps, [k, 9]) for k, steps in turns]
            answered = ask(*calls, *[state(k) for k in range(3)])
            self.assertEqual(answered[:3], [[0, 0]] * 3)
            for k in range(3):
                mine = [answer for answer, turn in zip(answered[3:43], turns) if turn[0] == k] + [answered[43 + k]]
                expected, machine = self.alone(images[k], [steps for who, steps in turns if who == k], [k, 9])
                self.assertEqual(mine, expected, (seed, k))

    def test_one_guest_writes_where_another_looks(self):
        writer = image((8, [code(SET, 1, n=5), code(STORE, 1, n=100), code(HALT)]))
        answered = ask(new(0, writer), new(1, writer), new(2, writer), run(1, 3), *[word(k, 100) for k in range(3)],
                       *[state(k) for k in (0, 2)], *[changed(k) for k in range(3)])
        self.assertEqual(answered[4:7], [[1, 1, 0], [1, 1, 5], [1, 1, 0]])
        self.assertEqual(answered[7:9], [[1, 34] + [0] * 8 + [8] + [0] * 25] * 2)


if __name__ == "__main__":
    unittest.main()
