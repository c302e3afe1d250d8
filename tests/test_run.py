"""run as a whole: steps, ends, what is handed in and told, and the instructions of do."""

import unittest

from helpers import (
    ALL, C, D, DONE, PLACE, S, WORD, Z, Fixed, RowCase, RunCase, any_word, code_bytes, filled, insn, registers, steady,
)
from wordmill import desk

MORE = insn(18, a=0)
HALT = insn(0)
ZEROS = [0] * 16


def run(steps, regs, begin, memory, told):
    return desk.run([steps], regs, begin, memory, told)


class Answer(RowCase):
    def test_order_of_the_numbers(self):
        regs = list(range(100, 116))
        memory = [16] + code_bytes([insn(1, 3, 1, a=2, z=5), insn(32), insn(85, 1, a=2, b=0), HALT])
        wanted = regs[:2] + [5] + regs[3:]
        answer = run(9, regs, [16, Z], memory, [99, 4])
        self.assertEqual(answer, [3, 1, 1, 16] + wanted + [2, 40, C + Z, 4, 0, 5, 0, 0])

    def test_call(self):
        given = dict(
            steps=[5], regs=registers(r15=72, r0=WORD, r1=0x30), begin=[8, 0xFFFFFFFF],
            memory=[8] + code_bytes([MORE, insn(88, b=1), insn(8), HALT]), told=[63, 10],
        )
        regs = registers(r15=64, r0=0x31, r1=0x30)
        answer = [3, 1, 1, 16] + regs + [2, 32, D, 10, 0, 0x30, 0, 0, 0, 0, 0, 0, 0, 0]
        self.check_call(desk.run, given, answer)

    def test_nothing_is_kept(self):
        memory = [0] + code_bytes([insn(85, a=1, b=2), insn(84, a=3, b=2), insn(35), insn(38), HALT])
        regs = registers(r2=0x200, r15=0x300)
        first = run(9, regs, [0, ALL - D], memory, [0, 65536])
        run(9, registers(r0=3, r2=0x208, r15=0x400), [0, 0], memory, [0, 65536])
        run(1, regs, [0, 0], [0, 7], [0, 0])
        self.assertEqual(run(9, regs, [0, ALL - D], memory, [0, 65536]), first)
        self.assertEqual(run(0, ZEROS, [0, 0], [0], [0, 65536])[24:], [0] * 65536)

    def test_every_operation_answers_whole_numbers_and_changes_nothing_handed_in(self):
        for op in range(113):
            for form in (2, 3, 7):
                regs = Fixed([0x1000 + 64 * k for k in range(16)])
                begin, told, steps = Fixed([PLACE, 0xFFFFFFFF]), Fixed([0, 0x5000]), Fixed([3])
                memory = Fixed([PLACE] + code_bytes([insn(op, form % 4, form // 4, c=4, d=1, z=3)]) + [1, 2, 3])
                before = [list(one) for one in (regs, begin, told, memory, steps)]
                answer = desk.run(steps, regs, begin, memory, told)
                self.assertEqual([list(one) for one in (regs, begin, told, memory, steps)], before)
                self.assertEqual({type(value) for value in answer}, {int}, op)
                self.assertTrue(all(0 <= value <= WORD for value in answer), op)
                self.assertTrue(all(value <= 255 for value in answer[24:]), op)
                self.assertEqual(answer[22] & ~ALL, 0)


class Memory(unittest.TestCase):
    def test_bytes_stand_where_they_are_handed_in(self):
        for place, given in ((0, [7]), (5, [1, 2, 3]), (65533, [9, 8, 255]), (0, [4] * 57999), (7537, [6] * 57999)):
            answer = run(0, ZEROS, [0, 0], [place] + given, [0, 65536])
            self.assertEqual(answer[24:], filled({place: given}))

    def test_a_place_alone(self):
        for place in (0, 1, 777, 65535, 65536):
            answer = run(0, ZEROS, [0, 0], [place], [0, 65536])
            self.assertEqual(answer, [0, 1, 0, 16] + ZEROS + [2, 0, 0, 65536] + [0] * 65536)

    def test_what_is_told(self):
        memory = [100] + list(range(1, 51))
        cells = filled({100: list(range(1, 51))})
        for place, count in ((0, 0), (65536, 0), (120, 0), (0, 65536), (100, 50), (99, 52), (149, 1), (150, 1),
                             (65535, 1), (0, 1), (1, 65535), (130, 65406)):
            answer = run(0, ZEROS, [3, 0], memory, [place, count])
            self.assertEqual(answer[:24], [0, 1, 0, 16] + ZEROS + [2, 3, 0, count])
            self.assertEqual(answer[24:], cells[place:place + count])

    def test_bytes_not_handed_in_are_0_for_the_machine_too(self):
        regs = registers(r1=0x6000)
        answer = run(1, regs, [0, 0], [0] + code_bytes([insn(84)]), [0, 0])
        self.assertEqual(answer[4:20], registers(r0=0, r1=0x6000))
        self.assertEqual(run(5, ZEROS, [0x100, 0], [0], [0, 0])[:3], [0, 1, 1])

    def test_both_ends_of_the_memory(self):
        code = code_bytes([insn(84, b=1), insn(85, a=0, b=2)])
        regs = registers(r1=65528, r2=0)
        answer = run(2, regs, [65512, 0], [65512] + code + [1, 2, 3, 4, 5, 6, 7, 8], [0, 9])
        wanted = [0x0807060504030201] + regs[1:]
        self.assertEqual(answer, [2, 1, 0, 16] + wanted + [2, 65528, 0, 9, 1, 2, 3, 4, 5, 6, 7, 8, 0])


class Steps(RunCase):
    def test_no_steps(self):
        for place in (0, PLACE, 65529, 65536, WORD):
            regs = registers()
            answer = run(0, regs, [place, 0xFFFFFFFF], [PLACE] + code_bytes([MORE]), [0, 0])
            self.assertEqual(answer, [0, 1, 0, 16] + regs + [2, place, ALL, 0])

    def test_so_many_and_no_more(self):
        code = [MORE] * 5 + [HALT]
        for steps in range(9):
            then = self.ran(code, registers(r0=10), 0, None, steps)
            done = min(steps, 5)
            self.assertEqual([then.done, then.why], [done, 1 if steps > 5 else 0])
            self.assertEqual([then.regs[0], then.place], [10 + done, PLACE + 8 * done])

    def test_steps_at_their_most(self):
        then = self.ran([MORE, HALT], ZEROS, 0, None, 2**40)
        self.assertEqual([then.done, then.why, then.place], [1, 1, PLACE + 8])

    def test_a_way_back_is_gone_again_and_again(self):
        code = [MORE, insn(92, z=-16)]
        for steps in (1, 2, 3, 10, 20001):
            then = self.ran(code, ZEROS, 0, None, steps)
            self.assertEqual([then.done, then.why, then.regs[0]], [steps, 0, (steps + 1) // 2])
            self.assertEqual(then.place, PLACE + 8 * (steps % 2))

    def test_a_count_down(self):
        code = [insn(7, 3, 1, a=0, z=3), insn(44, a=1, z=-16), HALT]
        then = self.ran(code, registers(r0=0, r1=1000), 0, None, 2**40)
        self.assertEqual([then.done, then.why, then.regs[0], then.regs[1]], [2000, 1, 3000, 0])

    def test_an_instruction_may_be_written_first(self):
        code = [insn(85, a=1, b=2), HALT, HALT]
        then = self.ran(code, registers(r0=6, r1=MORE, r2=PLACE + 8), 0, None, 9)
        self.assertEqual([then.done, then.why, then.regs[0], then.place], [2, 1, 7, PLACE + 16])


class Ends(RunCase):
    def test_0_stops_with_1(self):
        for form in range(8):
            self.halts(insn(0, form % 4, form // 4, z=-1), registers(), 1)

    def test_second_byte_above_7(self):
        for op in list(range(113)) + [200, 255]:
            for form in (8, 15, 128, 255):
                self.halts(insn(op, 0, 0, z=5) | form << 8, [0x1000 + 64 * k for k in range(16)], 3)

    def test_what_is_none(self):
        for op in range(113, 256):
            for form in (0, 7):
                self.halts(insn(op, form % 4, form // 4, z=1), [0x1000 + 64 * k for k in range(16)], 3)

    def test_what_the_instructions_of_do_stop_with(self):
        regs = registers(r0=15, r1=0, r2=3)
        self.halts(insn(3, 3, 1), regs, 3)
        self.halts(insn(20, 2, 1), regs, 3)
        self.halts(insn(29, 0), regs, 3)
        self.halts(insn(30, 0), regs, 3)
        self.halts(insn(51, 0, z=256), regs, 5)
        self.halts(insn(53, 2), regs, 3)
        for op in (53, 54):
            self.halts(insn(op), regs, 6)
        self.halts(insn(55, 3, 1, z=-1), regs, 6)
        self.halts(insn(56, b=0), regs, 6)
        for op in range(57, 62):
            self.halts(insn(op, a=2, c=2), regs, 3)
        for op in (60, 61):
            self.halts(insn(op), regs, 5)
            self.halts(insn(op, 3, 1, z=2), regs, 5)

    def test_the_instructions_own_bytes(self):
        for place in (65529, 65530, 65535, 65536, 65537, 2**32, 2**63, WORD - 7, WORD):
            regs = registers()
            answer = run(3, regs, [place, ALL], [65528] + code_bytes([MORE]), [0, 0])
            self.assertEqual(answer, [0, 1, 4, 16] + regs + [2, place, ALL, 0])
        answer = run(3, ZEROS, [65528, 0], [65528] + code_bytes([MORE]), [0, 0])
        self.assertEqual(answer, [1, 1, 4, 16, 1] + [0] * 15 + [2, 65536, 0, 0])
        answer = run(1, ZEROS, [65528, 0], [65528] + code_bytes([MORE]), [0, 0])
        self.assertEqual(answer, [1, 1, 0, 16, 1] + [0] * 15 + [2, 65536, 0, 0])

    def test_each_end_after_some_steps(self):
        ends = (
            (HALT, 1), (insn(255), 3), (insn(84, b=1, z=0), 4), (insn(60, b=2), 5), (insn(55, b=1), 6),
        )
        for code, why in ends:
            then = self.ran([MORE, MORE, code, MORE], registers(r0=0, r1=WORD, r2=0), 0, None, 9)
            self.assertEqual([then.done, then.why, then.place, then.regs[0]], [2, why, PLACE + 16, 2])
            then = self.ran([MORE, MORE, code, MORE], registers(r0=0, r1=WORD, r2=0), 0, None, 2)
            self.assertEqual([then.done, then.why, then.place, then.regs[0]], [2, 0, PLACE + 16, 2])

    def test_bits_that_are_no_flag_are_nothing(self):
        for flags in (0, S, ALL):
            then = self.ran([insn(31)], ZEROS, flags | (0xFFFFFFFF & ~ALL))
            self.assertEqual(then.flags, flags & ~C)


class AsDo(RunCase):
    def test_each_operation_of_do(self):
        source = steady(20)
        for op in DONE:
            for _ in range(60):
                few = source.choice((2, 4, 16))
                fields = [source.randrange(few) for _ in range(4)]
                code = insn(op, source.randrange(4), source.randrange(2), *fields, source.randrange(-70, 70))
                regs = [any_word(source) for _ in range(16)]
                flags = source.getrandbits(32)
                told = desk.do([code], regs, [flags])
                answer = run(1, regs, [0, flags], [0] + code_bytes([code]), [0, 8])
                if told[0] == 0:
                    wanted = [1, 1, 0, 16] + told[2:18] + [2, 8, told[19], 8] + code_bytes([code])
                else:
                    wanted = [0, 1, told[0], 16] + regs + [2, 0, flags & ALL, 8] + code_bytes([code])
                self.assertEqual(answer, wanted, hex(code))


if __name__ == "__main__":
    unittest.main()
