"""Memory: operations 4, 38, 39, 84 to 89 and 111."""

from wordmill.flags import Flags
from wordmill.stops import NoBytes
from wordmill.words import bit, cut, turned_bytes


def place_at(step):
    return cut(step.regs[step.b] + step.z, 64)


def load_at(machine, step):
    return machine.memory.load(place_at(step), step.k // 8)


def save_at(machine, step, value):
    machine.memory.save(place_at(step), step.k // 8, value)


def load(machine, step):
    step.put(step.a, load_at(machine, step))


def store(machine, step):
    save_at(machine, step, step.low(step.a))


def load_turned(machine, step):
    step.put(step.a, turned_bytes(load_at(machine, step), step.k))


def store_turned(machine, step):
    save_at(machine, step, turned_bytes(step.low(step.a), step.k))


def look_up(machine, step):
    place = cut(step.regs[step.b] + (step.regs[step.a] & 255), 64)
    step.put_low(step.a, machine.memory.load(place, 1), 8)


def push(machine, step):
    machine.push(cut(step.z, 64) if step.with_z else step.regs[step.b])


def pull(machine, step):
    value = machine.pull()
    step.regs[step.a] = value


def push_flags(machine, step):
    machine.push(step.flags.word() + 2)


def pull_flags(machine, step):
    machine.flags = Flags(machine.pull())


def exchange_pair(machine, step):
    place = place_at(step)
    if place % 16 != 0:
        raise NoBytes()
    there = machine.memory.load_row(place, 2)
    regs = step.regs
    above_c = (step.c + 1) % 16
    alike = there == [regs[step.c], regs[above_c]]
    step.flags.zero = bit(alike)
    if alike:
        machine.memory.save_row(place, [regs[step.d], regs[(step.d + 1) % 16]])
    else:
        regs[step.c] = there[0]
        regs[above_c] = there[1]


PLACES = {
    4: look_up,
    38: push_flags,
    39: pull_flags,
    84: load,
    85: store,
    86: load_turned,
    87: store_turned,
    88: push,
    89: pull,
    111: exchange_pair,
}


def did_place(machine, step):
    """Does the operation if it is told here; answers whether it is."""
    if step.op not in PLACES:
        return False
    PLACES[step.op](machine, step)
    return True
