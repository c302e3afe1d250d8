"""Instructions done, one by itself and one after another."""

from wordmill.bits import did_bits
from wordmill.decimals import did_decimal
from wordmill.longs import did_long
from wordmill.places import did_place
from wordmill.products import did_product
from wordmill.shifts import did_shift
from wordmill.step import Step
from wordmill.stops import Ended, NoBytes, NoDigits, NoInstruction, NoQuotient
from wordmill.strings import did_string
from wordmill.sums import did_sum
from wordmill.ways import did_way


def did_on_registers(step):
    return did_sum(step) or did_shift(step) or did_product(step) or did_decimal(step) or did_bits(step)


def did_on_memory(machine, step):
    return did_place(machine, step) or did_way(machine, step) or did_string(machine, step) or did_long(machine, step)


def perform(step):
    """What can be done on registers and flags alone."""
    if not did_on_registers(step):
        raise NoInstruction()


def advance(machine):
    step = Step(machine.memory.load(machine.place, 8), machine.regs, machine.flags)
    machine.onward = machine.place + 8
    if not (did_on_registers(step) or did_on_memory(machine, step)):
        raise NoInstruction()
    machine.place = machine.onward
    machine.done = machine.done + 1


def reason_to_end(machine):
    """Does one instruction; answers 0, or what stopped it."""
    try:
        advance(machine)
    except Ended:
        return 1
    except NoInstruction:
        return 3
    except NoBytes:
        return 4
    except NoQuotient:
        return 5
    except NoDigits:
        return 6
    return 0


def keep_going(machine, steps):
    """Does so many instructions, or fewer if one stops it; answers why it ended."""
    while machine.done < steps:
        reason = reason_to_end(machine)
        if reason != 0:
            return reason
    return 0
