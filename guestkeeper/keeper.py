"""The keeper of up to three guests: its calls in numbers, and what it answers."""

from guestkeeper.console import Console
from guestkeeper.machine import MEMORY_WORDS, PAGES, Machine
from guestkeeper.reader import Reader
from guestkeeper.running import run

GUESTS = 3

NUMBER_FORM = 0
WORDS_FORM = 1
RUN_FORM = 2

NO_GUEST = -2
HAS_GUEST = -17
WRONG_NUMBER = -22
TOO_LONG = -28


class Keeper:
    def __init__(self):
        self.guests = [None] * GUESTS

    def guest(self, k):
        if k >= GUESTS:
            return None
        return self.guests[k]


def say_number(number):
    return [NUMBER_FORM, number]


def say_words(words):
    return [WORDS_FORM, len(words)] + words


def hv_start(keeper, reader):
    keeper.guests = [None] * GUESTS
    return say_number(0)


def hv_new(keeper, reader):
    k = reader.number()
    image = reader.row()
    if k >= GUESTS:
        return say_number(WRONG_NUMBER)
    if keeper.guest(k) is not None:
        return say_number(HAS_GUEST)
    if len(image) > MEMORY_WORDS:
        return say_number(TOO_LONG)
    keeper.guests[k] = Machine(image)
    return say_number(0)


def hv_run(keeper, reader):
    k = reader.number()
    steps = reader.number()
    told = reader.row()
    guest = keeper.guest(k)
    if guest is None:
        return say_number(NO_GUEST)
    guest.console = Console(told)
    done = run(guest, steps)
    passed = guest.console.passed
    return [RUN_FORM, len(passed) // 2] + passed + [done]


def hv_word(keeper, reader):
    k = reader.number()
    a = reader.number()
    guest = keeper.guest(k)
    if guest is None:
        return say_number(NO_GUEST)
    if a >= MEMORY_WORDS:
        return say_number(WRONG_NUMBER)
    return say_words([guest.memory[a]])


def hv_state(keeper, reader):
    guest = keeper.guest(reader.number())
    if guest is None:
        return say_number(NO_GUEST)
    return say_words(guest.state())


def hv_changed(keeper, reader):
    guest = keeper.guest(reader.number())
    if guest is None:
        return say_number(NO_GUEST)
    return say_number(sum([guest.changed[p] << p for p in range(PAGES)]))


# A call's number is its place in this row.
CALLS = (hv_start, hv_new, hv_run, hv_word, hv_state, hv_changed)


def answers(calls):
    keeper = Keeper()
    reader = Reader(calls)
    answered = []
    while reader.more():
        call = CALLS[reader.number()]
        answer = call(keeper, reader)
        answered.append(len(answer))
        answered.extend(answer)
    return answered
