"""The keeper of up to three guests: its calls in numbers, and what it answers."""

from guestkeeper.console import Console
from guestkeeper.machine import MEMORY_WORDS, PAGES, PAGE_WORDS, Machine, is_state
from guestkeeper.reader import Reader
from guestkeeper.running import run

GUESTS = 3

NUMBER_FORM = 0
WORDS_FORM = 1
RUN_FORM = 2

NO_GUEST = -2
NOT_ALL_TAKEN = -16
HAS_GUEST = -17
WRONG_NUMBER = -22
TOO_LONG = -28


class Keeper:
    def __init__(self):
        self.guests = [None] * GUESTS
        # The 16 pages of each guest that's coming.
        self.pages = [None] * GUESTS

    def guest(self, k):
        if k >= GUESTS:
            return None
        return self.guests[k]

    def coming(self, k):
        if k >= GUESTS:
            return None
        return self.pages[k]

    def has_any(self, k):
        return self.guest(k) is not None or self.coming(k) is not None

    def forget(self, k):
        self.guests[k] = None
        self.pages[k] = None


def say_number(number):
    return [NUMBER_FORM, number]


def say_words(words):
    return [WORDS_FORM, len(words)] + words


def hv_start(keeper, reader):
    for k in range(GUESTS):
        keeper.forget(k)
    return say_number(0)


def hv_new(keeper, reader):
    k = reader.number()
    image = reader.row()
    if k >= GUESTS:
        return say_number(WRONG_NUMBER)
    if keeper.has_any(k):
        return say_number(HAS_GUEST)
    if len(image) > MEMORY_WORDS:
        return say_number(TOO_LONG)
    keeper.guests[k] = Machine(image)
    return say_number(0)


def hv_run(keeper, reader):
    k = reader.number()
    steps = reader.number()
    told = reader.row()
    guest = keeper.guest(k)
    if guest is None:
        return say_number(NO_GUEST)
    guest.console = Console(told)
    done = run(guest, steps)
    passed = guest.console.passed
    return [RUN_FORM, len(passed) // 2] + passed + [done]


def hv_word(keeper, reader):
    k = reader.number()
    a = reader.number()
    guest = keeper.guest(k)
    if guest is None:
        return say_number(NO_GUEST)
    if a >= MEMORY_WORDS:
        return say_number(WRONG_NUMBER)
    return say_words([guest.memory[a]])


def hv_state(keeper, reader):
    guest = keeper.guest(reader.number())
    if guest is None:
        return say_number(NO_GUEST)
    return say_words(guest.state())


def hv_changed(keeper, reader):
    guest = keeper.guest(reader.number())
    if guest is None:
        return say_number(NO_GUEST)
    return say_number(sum([guest.changed[p] << p for p in range(PAGES)]))


def hv_take(keeper, reader):
    k = reader.number()
    p = reader.number()
    guest = keeper.guest(k)
    if guest is None:
        return say_number(NO_GUEST)
    if p >= PAGES:
        return say_number(WRONG_NUMBER)
    guest.changed[p] = 0
    return say_words(guest.page(p))


def hv_leave(keeper, reader):
    k = reader.number()
    guest = keeper.guest(k)
    if guest is None:
        return say_number(NO_GUEST)
    if sum(guest.changed) > 0:
        return say_number(NOT_ALL_TAKEN)
    keeper.forget(k)
    return say_words(guest.state())


def hv_come(keeper, reader):
    k = reader.number()
    if k >= GUESTS:
        return say_number(WRONG_NUMBER)
    if keeper.has_any(k):
        return say_number(HAS_GUEST)
    keeper.pages[k] = [[0] * PAGE_WORDS for p in range(PAGES)]
    return say_number(0)


def hv_put(keeper, reader):
    k = reader.number()
    p = reader.number()
    words = reader.row()
    pages = keeper.coming(k)
    if pages is None:
        return say_number(NO_GUEST)
    if p >= PAGES:
        return say_number(WRONG_NUMBER)
    pages[p] = words
    return say_number(0)


def hv_settle(keeper, reader):
    k = reader.number()
    state = reader.row()
    pages = keeper.coming(k)
    if pages is None:
        return say_number(NO_GUEST)
    if not is_state(state):
        return say_number(WRONG_NUMBER)
    memory = []
    for page in pages:
        memory.extend(page)
    guest = Machine(memory)
    guest.go_on_from(state)
    keeper.forget(k)
    keeper.guests[k] = guest
    return say_number(0)


def hv_drop(keeper, reader):
    k = reader.number()
    if not keeper.has_any(k):
        return say_number(NO_GUEST)
    keeper.forget(k)
    return say_number(0)


# A call's number is its place in this row.
CALLS = (
    hv_start, hv_new, hv_run, hv_word, hv_state, hv_changed,
    hv_take, hv_leave, hv_come, hv_put, hv_settle, hv_drop,
)


def answers(calls):
    keeper = Keeper()
    reader = Reader(calls)
    answered = []
    while reader.more():
        call = CALLS[reader.number()]
        answer = call(keeper, reader)
        answered.append(len(answer))
        answered.extend(answer)
    return answered
