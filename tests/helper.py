"""What the tests share: calls in numbers, instructions as words, and a second machine to compare with."""

from guestkeeper.keeper import answers

TOP = 2 ** 32 - 1

(SET, HIGH, PLUS, MINUS, AND, XOR, LOAD, STORE, ZERO, GO, WHERE, TRAP, TABLE, BACK, TIMER, OUT, IN, HALT, GET,
 SPECIAL) = range(20)

PARTS = ("registers", "place", "user", "ints", "pending", "halted", "timer", "specials", "table")
LENGTHS = {"registers": 8, "specials": 4, "table": 16}


def start():
    return [0]


def new(k, image):
    return [1, k, len(image)] + list(image)


def run(k, steps, told=()):
    return [2, k, steps, len(told)] + list(told)


def word(k, a):
    return [3, k, a]


def state(k):
    return [4, k]


def changed(k):
    return [5, k]


def ask(*calls):
    """What is answered to each call, as one list a call, the form first."""
    flat = answers([number for call in calls for number in call])
    parts = []
    while flat:
        parts.append(flat[1:1 + flat[0]])
        flat = flat[1 + flat[0]:]
    return parts


def code(which, a=0, b=0, n=0):
    return which << 24 | a << 20 | b << 16 | n


def image(*rows):
    """Memory from rows of (place, words)."""
    words = [0] * max(place + len(row) for place, row in rows)
    for place, row in rows:
        words[place:place + len(row)] = row
    return words


def number(a, value):
    """Two instructions by which register a gets a whole word."""
    return [code(SET, a, n=value % 65536), code(HIGH, a, n=value // 65536)]


def into_user(entries, place, ints=0):
    """Instructions that set the table and go on at a place in user; they use registers 6 and 7."""
    codes = []
    for entry_number, entry in entries.items():
        codes += [code(SET, 6, n=entry_number), code(SET, 7, n=entry), code(TABLE, 6, 7)]
    codes += [code(SET, 6, n=place), code(SPECIAL, 6, n=0)]
    codes += [code(SET, 6, n=1 + 2 * ints), code(SPECIAL, 6, n=1), code(BACK)]
    return codes


class State:
    def __init__(self, words):
        for part in PARTS:
            length = LENGTHS.get(part)
            setattr(self, part, words[0] if length is None else words[:length])
            words = words[1 if length is None else length:]


class Seen:
    """What came of one guest's run: passed, steps, state, and the words that were asked for."""

    def __init__(self, memory, steps, told=(), words=()):
        answered = ask(new(0, memory), run(0, steps, told), state(0), *[word(0, a) for a in words])
        ran = answered[1]
        self.passed = list(zip(ran[2:-1:2], ran[3:-1:2]))
        self.steps = ran[-1]
        self.state = State(answered[2][2:])
        self.words = [answer[2] for answer in answered[3:]]


class PlainMachine:
    """The document's machine once more, written apart from the package's."""

    def __init__(self, words):
        self.m = dict(enumerate(words))
        self.r = [0] * 8
        self.pc, self.user, self.ints, self.pending, self.halted, self.timer = 8, 0, 0, 0, 0, 0
        self.s = [0] * 4
        self.t = [0] * 16

    def words(self):
        return self.r + [self.pc, self.user, self.ints, self.pending, self.halted, self.timer] + self.s + self.t

    def real(self, address, write):
        if address > 4095:
            return None
        if not self.user:
            return address
        bits = format(self.t[address >> 8], "032b")[::-1]
        if bits[0] == "0" or (write and bits[1] == "0"):
            return None
        return int(bits[8:12][::-1], 2) * 256 + (address & 255)

    def trap(self, cause, place, address):
        self.s = [place, self.user + 2 * self.ints, cause, address]
        self.user, self.ints, self.pc = 0, 0, 4

    def run(self, steps, told):
        passed, asked, done = [], 0, 0
        for _ in range(steps):
            if self.halted:
                break
            done += 1
            if self.timer:
                self.timer -= 1
                self.pending = self.pending if self.timer else 1
            if self.pending and self.ints:
                self.pending = 0
                self.trap(4, self.pc, 0)
                continue
            here = self.real(self.pc, False)
            if here is None:
                self.trap(2, self.pc, self.pc)
                continue
            w = self.m.get(here, 0)
            which, a, b, n = w >> 24, w >> 20 & 7, w >> 16 & 7, w & 0xFFFF
            if which > 19 or (self.user and which > 11):
                self.trap(1, self.pc, 0)
                continue
            A, B = self.r[a], self.r[b]
            far = (B + n) & TOP
            onward = self.pc + 1 & 4095
            if which in (6, 7):
                spot = self.real(far, which == 7)
                if spot is None:
                    self.trap(2, self.pc, far)
                    continue
                if which == 7:
                    self.m[spot] = A
                else:
                    self.r[a] = self.m.get(spot, 0)
            elif which == 9 and far > 4095:
                self.trap(2, self.pc, far)
                continue
            elif which == 11:
                self.trap(3, onward, 0)
                continue
            elif which in (0, 1, 2, 3, 4, 5, 10):
                self.r[a] = {0: n, 1: A | n << 16, 2: A + B, 3: A - B, 4: A & B, 5: A ^ B, 10: onward}[which] & TOP
            elif which == 12:
                self.t[A & 15] = B
            elif which == 14:
                self.timer = A
            elif which == 15:
                passed += [0, A]
            elif which == 16:
                self.r[a] = told[asked % len(told)] if told else 0
                asked += 1
                passed += [1, self.r[a]]
            elif which == 17:
                self.halted = 1
            elif which == 18:
                self.r[a] = (self.s + [self.timer])[n] if n < 5 else 0
            elif which == 19 and n < 2:
                self.s[n] = A & 3 if n else A
            if which == 8 and A == 0:
                onward = n & 4095
            elif which == 9:
                onward = far
            elif which == 13:
                self.user, self.ints, onward = self.s[1] & 1, self.s[1] >> 1 & 1, self.s[0] & 4095
            self.pc = onward
        return [2, len(passed) // 2] + passed + [done]
