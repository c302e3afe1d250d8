"""Ways: operations 0, 42 to 46 and 90 to 96."""

from wordmill.stops import Ended
from wordmill.sums import holds
from wordmill.words import cut


def end(machine, step):
    raise Ended()


def jump(machine, step):
    machine.onward = cut(machine.onward + step.z, 64)


def jump_if_it_holds(machine, step):
    if holds(step.flags, step.d):
        jump(machine, step)


def jump_if_zero(machine, step):
    if step.low(step.a) == 0:
        jump(machine, step)


def counts_on(step):
    """Takes 1 off register a; whether there is something left of it."""
    step.regs[step.a] = cut(step.regs[step.a] - 1, 64)
    return step.regs[step.a] != 0


def jump_if_left(machine, step):
    if counts_on(step):
        jump(machine, step)


def jump_if_left_and_zero(machine, step):
    if counts_on(step) and step.flags.zero == 1:
        jump(machine, step)


def jump_if_left_not_zero(machine, step):
    if counts_on(step) and step.flags.zero == 0:
        jump(machine, step)


def call(machine, step):
    machine.push(machine.onward)
    jump(machine, step)


def call_place(machine, step):
    # read before the push, which changes register 15
    place = step.regs[step.a]
    machine.push(machine.onward)
    machine.onward = place


def jump_to_place(machine, step):
    machine.onward = step.regs[step.a]


def come_back(machine, step):
    machine.onward = machine.pull()
    step.regs[15] = step.regs[15] + cut(step.z, 16)


def need_frame(machine, step):
    """All the bytes of a frame at once, for nothing may be done if one of them isn't there."""
    pushed = 8 * (step.d + 1)
    machine.memory.need(cut(step.regs[15] - pushed, 64), pushed)
    if step.d > 1:
        copied = 8 * (step.d - 1)
        machine.memory.need(cut(step.regs[14] - copied, 64), copied)


def begin_frame(machine, step):
    need_frame(machine, step)
    led = step.regs[14]
    machine.push(led)
    frame = step.regs[15]
    for turn in range(1, step.d):
        machine.push(machine.memory.load(led - 8 * turn, 8))
    if step.d > 0:
        machine.push(frame)
    step.regs[14] = frame
    step.regs[15] = cut(step.regs[15] - cut(step.z, 16), 64)


def end_frame(machine, step):
    frame = step.regs[14]
    step.regs[14] = machine.memory.load(frame, 8)
    step.regs[15] = frame + 8


WAYS = {
    0: end,
    42: jump_if_it_holds,
    43: jump_if_zero,
    44: jump_if_left,
    45: jump_if_left_and_zero,
    46: jump_if_left_not_zero,
    90: call,
    91: call_place,
    92: jump,
    93: jump_to_place,
    94: come_back,
    95: begin_frame,
    96: end_frame,
}


def did_way(machine, step):
    """Does the operation if it is told here; answers whether it is."""
    if step.op not in WAYS:
        return False
    WAYS[step.op](machine, step)
    return True
