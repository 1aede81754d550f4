"""A small machine: what it holds, where its addresses lead, and how it traps."""

from guestkeeper.console import Console

WORD_VALUES = 4294967296
MEMORY_WORDS = 4096
PAGES = 16
PAGE_WORDS = 256
REGISTERS = 8
TABLE_WORDS = 16

FIRST_PLACE = 8
TRAP_PLACE = 4

# Bits of a word of the table that must all be 1.
TO_READ = 1
TO_WRITE = 3

NOWHERE = -1

UNKNOWN = 1
ADDRESS = 2
CALLED = 3
TIMER = 4

LAST_WAY = 3
LAST_CAUSE = 4


class Machine:
    def __init__(self, image):
        self.memory = list(image) + [0] * (MEMORY_WORDS - len(image))
        self.registers = [0] * REGISTERS
        self.place = FIRST_PLACE
        self.user = 0
        self.ints = 0
        self.pending = 0
        self.halted = 0
        self.timer = 0
        self.specials = [0, 0, 0, 0]
        self.table = [0] * TABLE_WORDS
        # 1 for each page that isn't taken; kept here since only a write knows its page.
        self.changed = [1] * PAGES
        # No part of the state: each run brings its own.
        self.console = Console([])

    def state(self):
        modes = [self.place, self.user, self.ints, self.pending, self.halted, self.timer]
        return self.registers + modes + self.specials + self.table

    # Slices are copies: what the machine does later leaves the words it was given.
    def go_on_from(self, state):
        self.registers = state[0:8]
        self.place = state[8]
        self.user = state[9]
        self.ints = state[10]
        self.pending = state[11]
        self.halted = state[12]
        self.timer = state[13]
        self.specials = state[14:18]
        self.table = state[18:34]

    def page(self, p):
        return self.memory[p * PAGE_WORDS:(p + 1) * PAGE_WORDS]

    def spot(self, address, need):
        if address >= MEMORY_WORDS:
            return NOWHERE
        if self.user == 0:
            return address
        entry = self.table[address // PAGE_WORDS]
        if entry & need != need:
            return NOWHERE
        return (entry >> 8) % PAGES * PAGE_WORDS + address % PAGE_WORDS

    def put(self, spot, word):
        self.memory[spot] = word
        self.changed[spot // PAGE_WORDS] = 1

    # Answers the place to go on from, so that a step sets the place once, at its end.
    def trap(self, cause, place, address):
        self.specials[0] = place
        self.specials[1] = self.user + 2 * self.ints
        self.specials[2] = cause
        self.specials[3] = address
        self.user = 0
        self.ints = 0
        return TRAP_PLACE


# Only what no machine can come to is refused: the place, the four that are 0 or 1, the way from before, the cause.
def is_state(state):
    return state[8] < MEMORY_WORDS and max(state[9:13]) <= 1 and state[15] <= LAST_WAY and state[16] <= LAST_CAUSE


def behind(place):
    return (place + 1) % MEMORY_WORDS
