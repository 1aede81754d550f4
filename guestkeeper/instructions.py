"""The instructions of a small machine; each does its work and answers the next place."""

from guestkeeper.machine import ADDRESS, CALLED, MEMORY_WORDS, NOWHERE, TABLE_WORDS, TO_READ, TO_WRITE
from guestkeeper.machine import UNKNOWN, WORD_VALUES, behind

FIRST_OF_SYSTEM = 12


def set_low(machine, a, b, n):
    machine.registers[a] = n
    return behind(machine.place)


def set_high(machine, a, b, n):
    machine.registers[a] = machine.registers[a] | (n << 16)
    return behind(machine.place)


def plus(machine, a, b, n):
    machine.registers[a] = (machine.registers[a] + machine.registers[b]) % WORD_VALUES
    return behind(machine.place)


def minus(machine, a, b, n):
    machine.registers[a] = (machine.registers[a] - machine.registers[b]) % WORD_VALUES
    return behind(machine.place)


def bits_and(machine, a, b, n):
    machine.registers[a] = machine.registers[a] & machine.registers[b]
    return behind(machine.place)


def bits_xor(machine, a, b, n):
    machine.registers[a] = machine.registers[a] ^ machine.registers[b]
    return behind(machine.place)


def load(machine, a, b, n):
    address = (machine.registers[b] + n) % WORD_VALUES
    spot = machine.spot(address, TO_READ)
    if spot == NOWHERE:
        return machine.trap(ADDRESS, machine.place, address)
    machine.registers[a] = machine.memory[spot]
    return behind(machine.place)


def store(machine, a, b, n):
    address = (machine.registers[b] + n) % WORD_VALUES
    spot = machine.spot(address, TO_WRITE)
    if spot == NOWHERE:
        return machine.trap(ADDRESS, machine.place, address)
    machine.put(spot, machine.registers[a])
    return behind(machine.place)


def go_if_zero(machine, a, b, n):
    if machine.registers[a] == 0:
        return n % MEMORY_WORDS
    return behind(machine.place)


def go(machine, a, b, n):
    target = (machine.registers[b] + n) % WORD_VALUES
    if target >= MEMORY_WORDS:
        return machine.trap(ADDRESS, machine.place, target)
    return target


def where(machine, a, b, n):
    machine.registers[a] = behind(machine.place)
    return behind(machine.place)


def call_system(machine, a, b, n):
    return machine.trap(CALLED, behind(machine.place), 0)


def set_table(machine, a, b, n):
    machine.table[machine.registers[a] % TABLE_WORDS] = machine.registers[b]
    return behind(machine.place)


def go_back(machine, a, b, n):
    way = machine.specials[1]
    machine.user = way & 1
    machine.ints = (way >> 1) & 1
    return machine.specials[0] % MEMORY_WORDS


def set_timer(machine, a, b, n):
    machine.timer = machine.registers[a]
    return behind(machine.place)


def tell(machine, a, b, n):
    machine.console.cn_out(machine.registers[a])
    return behind(machine.place)


def ask(machine, a, b, n):
    machine.registers[a] = machine.console.cn_in()
    return behind(machine.place)


def halt(machine, a, b, n):
    machine.halted = 1
    return behind(machine.place)


def get_special(machine, a, b, n):
    value = 0
    if n < 4:
        value = machine.specials[n]
    elif n == 4:
        value = machine.timer
    machine.registers[a] = value
    return behind(machine.place)


def set_special(machine, a, b, n):
    if n == 0:
        machine.specials[0] = machine.registers[a]
    elif n == 1:
        machine.specials[1] = machine.registers[a] % 4
    return behind(machine.place)


INSTRUCTIONS = (
    set_low, set_high, plus, minus, bits_and, bits_xor, load, store, go_if_zero, go,
    where, call_system, set_table, go_back, set_timer, tell, ask, halt, get_special, set_special,
)


def obey(machine, word):
    which = word >> 24
    if which >= len(INSTRUCTIONS) or (machine.user == 1 and which >= FIRST_OF_SYSTEM):
        return machine.trap(UNKNOWN, machine.place, 0)
    instruction = INSTRUCTIONS[which]
    return instruction(machine, (word >> 20) & 7, (word >> 16) & 7, word & 65535)
