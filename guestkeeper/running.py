"""How a small machine runs, step by step."""

from guestkeeper.instructions import obey
from guestkeeper.machine import ADDRESS, NOWHERE, TIMER, TO_READ


def tick(machine):
    if machine.timer != 0:
        machine.timer = machine.timer - 1
        if machine.timer == 0:
            machine.pending = 1


def act(machine):
    if machine.pending == 1 and machine.ints == 1:
        machine.pending = 0
        return machine.trap(TIMER, machine.place, 0)
    spot = machine.spot(machine.place, TO_READ)
    if spot == NOWHERE:
        return machine.trap(ADDRESS, machine.place, machine.place)
    return obey(machine, machine.memory[spot])


def step(machine):
    tick(machine)
    machine.place = act(machine)


def run(machine, steps):
    done = 0
    while done < steps and machine.halted == 0:
        step(machine)
        done = done + 1
    return done
