"""Strings: operations 97 to 101."""

from wordmill.stops import NoInstruction
from wordmill.sums import minus
from wordmill.words import bit, cut


def led_by(machine, step, number):
    return machine.memory.load(step.regs[number], step.k // 8)


def store_led(machine, step, value):
    machine.memory.save(step.regs[13], step.k // 8, value)


def lead_on(step, number):
    by = step.k // 8
    if step.flags.direction == 1:
        by = -by
    step.regs[number] = cut(step.regs[number] + by, 64)


def load_turn(machine, step):
    step.put(0, led_by(machine, step, 12))
    lead_on(step, 12)


def store_turn(machine, step):
    store_led(machine, step, step.low(0))
    lead_on(step, 13)


def copy_turn(machine, step):
    store_led(machine, step, led_by(machine, step, 12))
    lead_on(step, 12)
    lead_on(step, 13)


def find_turn(machine, step):
    minus(step, step.low(0), led_by(machine, step, 13), 0)
    lead_on(step, 13)


def compare_turn(machine, step):
    minus(step, led_by(machine, step, 12), led_by(machine, step, 13), 0)
    lead_on(step, 12)
    lead_on(step, 13)


STRINGS = {
    97: load_turn,
    98: store_turn,
    99: copy_turn,
    100: find_turn,
    101: compare_turn,
}


def compares(step):
    return step.op in (100, 101)


def turn_on(machine, step):
    """One turn after another; the turns that are done stay so where a later one stops the machine."""
    goes_on_at = bit(step.d == 1)
    while step.regs[11] != 0:
        STRINGS[step.op](machine, step)
        step.regs[11] = step.regs[11] - 1
        if compares(step) and step.flags.zero != goes_on_at:
            return


def did_string(machine, step):
    """Does the operation if it is told here; answers whether it is."""
    if step.op not in STRINGS:
        return False
    if step.d > 2 or (step.d == 2 and not compares(step)):
        raise NoInstruction()
    if step.d == 0:
        STRINGS[step.op](machine, step)
    else:
        turn_on(machine, step)
    return True
