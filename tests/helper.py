"""What the tests share: calls in numbers, instructions as words, a second machine and keeper to compare with."""

from guestkeeper.keeper import answers

TOP = 2 ** 32 - 1

(SET, HIGH, PLUS, MINUS, AND, XOR, LOAD, STORE, ZERO, GO, WHERE, TRAP, TABLE, BACK, TIMER, OUT, IN, HALT, GET,
 SPECIAL) = range(20)

PARTS = ("registers", "place", "user", "ints", "pending", "halted", "timer", "specials", "table")
LENGTHS = {"registers": 8, "specials": 4, "table": 16}

NO_GUESTS = (0, 1, 2, 3, 2 ** 31, TOP)


def start():
    return [0]


def new(k, image):
    return [1, k, len(image)] + list(image)


def run(k, steps, told=()):
    return [2, k, steps, len(told)] + list(told)


def word(k, a):
    return [3, k, a]


def state(k):
    return [4, k]


def changed(k):
    return [5, k]


def take(k, p):
    return [6, k, p]


def leave(k):
    return [7, k]


def come(k):
    return [8, k]


def put(k, p, words):
    return [9, k, p, len(words)] + list(words)


def settle(k, words):
    return [10, k, len(words)] + list(words)


def drop(k):
    return [11, k]


def ask(*calls):
    """What is answered to each call, as one list a call, the form first."""
    asked = [number for call in calls for number in call]
    assert len(calls) <= 200 and len(asked) <= 30000, "no such list is handed in"
    flat = answers(asked)
    parts = []
    while flat:
        parts.append(flat[1:1 + flat[0]])
        flat = flat[1 + flat[0]:]
    return parts


class Talk:
    """One keeper that is asked in turns: each turn the calls so far are handed in again, with the new ones behind."""

    def __init__(self, *calls):
        self.calls = list(calls)

    def say(self, *calls):
        self.calls += calls
        return ask(*self.calls)[-len(calls):]

    def take_changed(self, k, kept):
        """Takes each page that isn't taken, and keeps its words."""
        bits = self.say(changed(k))[0][1]
        pages = [p for p in range(16) if bits >> p & 1]
        if pages:
            for p, answer in zip(pages, self.say(*[take(k, p) for p in pages])):
                kept[p] = answer[2:]

    def give_up(self, k):
        """Takes every page, then leaves: the 16 pages and the state."""
        kept = {p: answer[2:] for p, answer in enumerate(self.say(*[take(k, p) for p in range(16)]))}
        return kept, self.say(leave(k))[0][2:]


def arrive(k, pages, words):
    """The calls by which a guest comes and is settled."""
    return [come(k)] + [put(k, p, page) for p, page in pages.items()] + [settle(k, words)]


def code(which, a=0, b=0, n=0):
    return which << 24 | a << 20 | b << 16 | n


def image(*rows):
    """Memory from rows of (place, words)."""
    words = [0] * max(place + len(row) for place, row in rows)
    for place, row in rows:
        words[place:place + len(row)] = row
    return words


def number(a, value):
    """Two instructions by which register a gets a whole word."""
    return [code(SET, a, n=value % 65536), code(HIGH, a, n=value // 65536)]


def into_user(entries, place, ints=0):
    """Instructions that set the table and go on at a place in user; they use registers 6 and 7."""
    codes = []
    for entry_number, entry in entries.items():
        codes += [code(SET, 6, n=entry_number), code(SET, 7, n=entry), code(TABLE, 6, 7)]
    codes += [code(SET, 6, n=place), code(SPECIAL, 6, n=0)]
    codes += [code(SET, 6, n=1 + 2 * ints), code(SPECIAL, 6, n=1), code(BACK)]
    return codes


def wild_word(source, last):
    """A word that is most often an instruction up to the last, with small numbers that reach something."""
    if source.random() < 0.05:
        return source.getrandbits(32)
    which = source.randrange(last + 1)
    n = source.choice([source.randrange(6), source.randrange(64), source.randrange(4096), source.getrandbits(16)])
    return which << 24 | source.getrandbits(3) << 20 | source.getrandbits(3) << 16 | n


def opening(source):
    """Sets the table and the timer, then goes on somewhere among the wild words, in one way or another."""
    codes = []
    for number in range(1, 16):
        entry = source.randrange(16) << 8 | source.choice([0, 1, 2, 3, 3, 3])
        codes += [code(SET, 6, n=number), code(SET, 7, n=entry), code(TABLE, 6, 7)]
    codes += [code(SET, 6, n=0), code(SET, 7, n=3), code(TABLE, 6, 7)]
    codes += [code(SET, 6, n=source.randrange(80, 256)), code(SPECIAL, 6)]
    codes += [code(SET, 6, n=source.randrange(4)), code(SPECIAL, 6, n=1)]
    return codes + [code(SET, 6, n=source.randrange(1, 40)), code(TIMER, 6), code(BACK)]


def wild_image(source):
    """Wild words in page 0, behind an opening; what lies at the trap's place most often goes back behind the trap."""
    last = source.choice([11, 11, 14, 16, 19, 20])
    words = [wild_word(source, last) for place in range(256)]
    codes = opening(source)
    words[8:8 + len(codes)] = codes
    words[4] = source.choice([code(GO, n=66)] * 5 + [code(BACK), wild_word(source, 20)])
    handler = [code(SET, 4, n=source.randrange(1, 30)), code(TIMER, 4), code(SET, 4, n=1), code(GET, 5)]
    handler += [code(PLUS, 5, 4), code(SPECIAL, 5), code(BACK)]
    words[66:66 + len(handler)] = handler
    return words


class State:
    def __init__(self, words):
        for part in PARTS:
            length = LENGTHS.get(part)
            setattr(self, part, words[0] if length is None else words[:length])
            words = words[1 if length is None else length:]


def state_words(**parts):
    """34 words: zeros but for the parts that are told."""
    words = []
    for part in PARTS:
        length = LENGTHS.get(part)
        words += [parts.pop(part, 0)] if length is None else parts.pop(part, [0] * length)
    assert not parts and len(words) == 34
    return words


class Seen:
    """What came of one guest's run: passed, steps, state, and the words that were asked for."""

    def __init__(self, memory, steps, told=(), words=()):
        answered = ask(new(0, memory), run(0, steps, told), state(0), *[word(0, a) for a in words])
        ran = answered[1]
        self.passed = list(zip(ran[2:-1:2], ran[3:-1:2]))
        self.steps = ran[-1]
        self.state = State(answered[2][2:])
        self.words = [answer[2] for answer in answered[3:]]


class PlainMachine:
    """The document's machine once more, written apart from the package's."""

    def __init__(self, words):
        self.m = dict(enumerate(words))
        self.r = [0] * 8
        self.pc, self.user, self.ints, self.pending, self.halted, self.timer = 8, 0, 0, 0, 0, 0
        self.s = [0] * 4
        self.t = [0] * 16
        self.taken = set()

    def be(self, words):
        self.r, self.s, self.t = words[:8], words[14:18], words[18:]
        self.pc, self.user, self.ints, self.pending, self.halted, self.timer = words[8:14]

    def words(self):
        return self.r + [self.pc, self.user, self.ints, self.pending, self.halted, self.timer] + self.s + self.t

    def real(self, address, write):
        if address > 4095:
            return None
        if not self.user:
            return address
        bits = format(self.t[address >> 8], "032b")[::-1]
        if bits[0] == "0" or (write and bits[1] == "0"):
            return None
        return int(bits[8:12][::-1], 2) * 256 + (address & 255)

    def trap(self, cause, place, address):
        self.s = [place, self.user + 2 * self.ints, cause, address]
        self.user, self.ints, self.pc = 0, 0, 4

    def run(self, steps, told):
        passed, asked, done = [], 0, 0
        for _ in range(steps):
            if self.halted:
                break
            done += 1
            if self.timer:
                self.timer -= 1
                self.pending = self.pending if self.timer else 1
            if self.pending and self.ints:
                self.pending = 0
                self.trap(4, self.pc, 0)
                continue
            here = self.real(self.pc, False)
            if here is None:
                self.trap(2, self.pc, self.pc)
                continue
            w = self.m.get(here, 0)
            which, a, b, n = w >> 24, w >> 20 & 7, w >> 16 & 7, w & 0xFFFF
            if which > 19 or (self.user and which > 11):
                self.trap(1, self.pc, 0)
                continue
            A, B = self.r[a], self.r[b]
            far = (B + n) & TOP
            onward = self.pc + 1 & 4095
            if which in (6, 7):
                spot = self.real(far, which == 7)
                if spot is None:
                    self.trap(2, self.pc, far)
                    continue
                if which == 7:
                    self.m[spot] = A
                    self.taken.discard(spot >> 8)
                else:
                    self.r[a] = self.m.get(spot, 0)
            elif which == 9 and far > 4095:
                self.trap(2, self.pc, far)
                continue
            elif which == 11:
                self.trap(3, onward, 0)
                continue
            elif which in (0, 1, 2, 3, 4, 5, 10):
                self.r[a] = {0: n, 1: A | n << 16, 2: A + B, 3: A - B, 4: A & B, 5: A ^ B, 10: onward}[which] & TOP
            elif which == 12:
                self.t[A & 15] = B
            elif which == 14:
                self.timer = A
            elif which == 15:
                passed += [0, A]
            elif which == 16:
                self.r[a] = told[asked % len(told)] if told else 0
                asked += 1
                passed += [1, self.r[a]]
            elif which == 17:
                self.halted = 1
            elif which == 18:
                self.r[a] = (self.s + [self.timer])[n] if n < 5 else 0
            elif which == 19 and n < 2:
                self.s[n] = A & 3 if n else A
            if which == 8 and A == 0:
                onward = n & 4095
            elif which == 9:
                onward = far
            elif which == 13:
                self.user, self.ints, onward = self.s[1] & 1, self.s[1] >> 1 & 1, self.s[0] & 4095
            self.pc = onward
        return [2, len(passed) // 2] + passed + [done]


class PlainKeeper:
    """The document's keeper once more, written apart from the package's."""

    def __init__(self):
        self.machines = {}
        self.coming = {}

    def answer(self, call):
        which, *numbers = call
        if which == 0:
            self.__init__()
            return [0, 0]
        k, *rest = numbers
        if which in (1, 8):
            return [0, self.begin(which, k, rest[1:])]
        if which in (9, 10):
            return [0, self.fill(which, k, rest)]
        if which == 11:
            found = [kept.pop(k, None) for kept in (self.machines, self.coming)]
            return [0, -2 if found == [None, None] else 0]
        if k not in self.machines:
            return [0, -2]
        return self.look(which, k, rest)

    def begin(self, which, k, image):
        if k > 2:
            return -22
        if k in self.machines or k in self.coming:
            return -17
        if which == 8:
            self.coming[k] = {}
        elif len(image) > 4096:
            return -28
        else:
            self.machines[k] = PlainMachine(image)
        return 0

    def fill(self, which, k, rest):
        if k not in self.coming:
            return -2
        if which == 9:
            if rest[0] > 15:
                return -22
            self.coming[k].update({rest[0] * 256 + low: word for low, word in enumerate(rest[2:])})
            return 0
        words = rest[1:]
        tops = {8: 4095, 9: 1, 10: 1, 11: 1, 12: 1, 15: 3, 16: 4}
        if any(words[at] > top for at, top in tops.items()):
            return -22
        self.machines[k] = PlainMachine([])
        self.machines[k].m = self.coming.pop(k)
        self.machines[k].be(words)
        return 0

    def look(self, which, k, rest):
        machine = self.machines[k]
        if which == 2:
            return machine.run(rest[0], rest[2:])
        if which == 3:
            return [1, 1, machine.m.get(rest[0], 0)] if rest[0] < 4096 else [0, -22]
        if which == 5:
            return [0, sum(1 << p for p in range(16) if p not in machine.taken)]
        if which == 6:
            if rest[0] > 15:
                return [0, -22]
            machine.taken.add(rest[0])
            return [1, 256] + [machine.m.get(rest[0] * 256 + low, 0) for low in range(256)]
        if which == 7:
            if len(machine.taken) < 16:
                return [0, -16]
            self.machines.pop(k)
        return [1, 34] + machine.words()
