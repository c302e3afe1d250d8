"""run, ways: operations 42 to 46 and 90 to 96."""

import unittest

from helpers import ALL, C, O, P, PLACE, S, WORD, Z, RunCase, code_bytes, eight, insn, registers, row_bytes
from wordmill import desk

NEXT = PLACE + 8
FORMS = [(w, i) for w in range(4) for i in (0, 1)]

# for each condition flags with which it holds and flags with which it doesn't
CONDITIONS = (
    ((O, ALL), (0, ALL - O)), ((0, ALL - O), (O, ALL)),
    ((C, ALL), (0, ALL - C)), ((0, ALL - C), (C, ALL)),
    ((Z, ALL), (0, ALL - Z)), ((0, ALL - Z), (Z, ALL)),
    ((C, Z, C + Z, ALL), (0, ALL - C - Z)), ((0, ALL - C - Z), (C, Z, ALL)),
    ((S, ALL), (0, ALL - S)), ((0, ALL - S), (S, ALL)),
    ((P, ALL), (0, ALL - P)), ((0, ALL - P), (P, ALL)),
    ((S, O, ALL - S, ALL - O), (0, S + O, ALL)), ((0, S + O, ALL), (S, O, ALL - S)),
    ((S, O, Z, S + O + Z, ALL), (0, S + O, ALL - Z)), ((0, S + O, ALL - Z), (S, O, Z, ALL)),
)


class Jumps(RunCase):
    def test_by_condition(self):
        for d, (holding, others) in enumerate(CONDITIONS):
            for z in (0, 40, -40):
                for flags in holding:
                    self.does(insn(42, d % 4, d % 2, d=d, z=z), registers(), flags, onward=NEXT + z)
                for flags in others:
                    self.does(insn(42, d % 4, d % 2, d=d, z=z), registers(), flags, onward=NEXT)

    def test_if_a_is_0_at_its_width(self):
        for w, i in FORMS:
            k = 8 << w
            for flags in (0, ALL):
                for z in (24, -24):
                    code = insn(43, w, i, z=z)
                    above = WORD >> k << k
                    self.does(code, registers(r0=0), flags, onward=NEXT + z)
                    self.does(code, registers(r0=above), flags, onward=NEXT + z)
                    self.does(code, registers(r0=above | 1 << (k - 1)), flags, onward=NEXT)
                    self.does(code, registers(r0=1), flags, onward=NEXT)

    def test_counting_down(self):
        for w, i in FORMS:
            for flags in (0, ALL, Z, ALL - Z):
                taken = {44: True, 45: flags & Z != 0, 46: flags & Z == 0}
                for op, goes in taken.items():
                    for z in (16, -16):
                        code = insn(op, w, i, z=z)
                        for before in (2, 0x101, 0x100000001, 0):
                            then = (before - 1) % 2**64
                            self.does(code, registers(r0=before), flags, None, {0: then}, onward=NEXT + goes * z)
                        self.does(code, registers(r0=1), flags, None, {0: 0}, onward=NEXT)

    def test_without_a_condition(self):
        for w, i in FORMS:
            for flags in (0, ALL):
                for z in (0, 8, -8, 12345, -PLACE - 8):
                    self.does(insn(92, w, i, z=z), registers(), flags, onward=NEXT + z)
                for place in (0, 8, PLACE, 65535, 2**40, WORD):
                    self.does(insn(93, w, i, z=9), registers(r0=place), flags, onward=place)

    def test_the_place_wraps(self):
        for op in (42, 43, 44, 92):
            code = insn(op, d=1, z=-NEXT - 16)
            regs = registers(r0=5 if op == 44 else 0)
            self.does(code, regs, 0, None, {0: 4} if op == 44 else {}, onward=WORD - 15)
            self.does(insn(op, d=1, z=-(2**31)), regs, 0, None, {0: 4} if op == 44 else {},
                      onward=(NEXT - 2**31) % 2**64)
            self.does(insn(op, d=1, z=2**31 - 1), regs, 0, None, {0: 4} if op == 44 else {}, onward=NEXT + 2**31 - 1)
        pushed = {0x5000: eight(NEXT)}
        self.does(insn(90, z=-NEXT - 1), registers(r15=0x5008), 0, None, {15: 0x5000}, None, pushed, WORD)

    def test_what_is_led_to_is_done_or_not_there(self):
        code = code_bytes([insn(92, z=-16), insn(18)])
        then = desk.run([2], [0] * 16, [8, 0], [0] + code_bytes([insn(18)]) + code, [0, 0])
        self.assertEqual(then[:5] + then[21:22], [2, 1, 0, 16, 1, 8])
        then = desk.run([5], [0] * 16, [0, 0], [0] + code_bytes([insn(92, z=-16)]), [0, 0])
        self.assertEqual(then[:3] + then[21:22], [1, 1, 4, WORD - 7])
        then = desk.run([5], [65536] + [0] * 15, [0, 0], [0] + code_bytes([insn(93)]), [0, 0])
        self.assertEqual(then[:3] + then[21:22], [1, 1, 4, 65536])


class Calls(RunCase):
    def test_call_by_z(self):
        for w, i in FORMS:
            for flags in (0, ALL):
                for z in (0, 24, -24):
                    self.does(insn(90, w, i, z=z), registers(r15=0x5008), flags, {0x5000: [9] * 9}, {15: 0x5000},
                              stored={0x5000: eight(NEXT)}, onward=NEXT + z)

    def test_call_by_a_register(self):
        for w, i in FORMS:
            for place in (0, 0x123, 2**63 + 5):
                self.does(insn(91, w, i, z=7), registers(r0=place, r15=0x5008), ALL, None, {15: 0x5000},
                          stored={0x5000: eight(NEXT)}, onward=place)

    def test_call_by_register_15_as_it_was_before(self):
        self.does(insn(91, a=15), registers(r15=0x5008), 0, None, {15: 0x5000}, None, {0x5000: eight(NEXT)}, 0x5008)

    def test_back(self):
        for w, i in FORMS:
            for flags in (0, ALL):
                for z, more in ((0, 0), (24, 24), (0xFFFF, 0xFFFF), (-1, 0xFFFF), (0x10008, 8), (-65536, 0)):
                    self.does(insn(94, w, i, z=z), registers(r15=0x5000), flags, {0x5000: eight(0x8000000000000123)},
                              {15: 0x5008 + more}, onward=0x8000000000000123)

    def test_there_and_back(self):
        code = [insn(90, z=8), insn(0), insn(18, a=0), insn(94, z=16)]
        then = self.ran(code, registers(r0=0, r15=0x5000), 0, None, 9)
        self.assertEqual([then.done, then.why, then.place], [3, 1, NEXT])
        self.assertEqual(then.regs, registers(r0=1, r15=0x5010))

    def test_ends_of_the_memory(self):
        for op in (90, 91):
            code = insn(op, z=16)
            onward = NEXT + 16 if op == 90 else 0x77
            self.does(code, registers(r0=0x77, r15=65536), 0, None, {15: 65528}, None, {65528: eight(NEXT)}, onward)
            self.does(code, registers(r0=0x77, r15=8), 0, None, {15: 0}, None, {0: eight(NEXT)}, onward)
            for place in (0, 7, 65537, 65544, 2**63, WORD):
                self.halts(code, registers(r15=place), 4)
                self.halts(insn(op, a=15), registers(r15=place), 4)
        self.does(insn(94), registers(r15=65528), 0, {65528: eight(5)}, {15: 65536}, onward=5)
        self.does(insn(94), registers(r15=0), 0, {0: eight(5)}, {15: 8}, onward=5)
        for place in (65529, 65536, 2**63, WORD - 7, WORD):
            for z in (0, 8):
                self.halts(insn(94, z=z), registers(r15=place), 4)


class Frames(RunCase):
    def frame(self, d, z, less, data, pushed, led=0x6000, stack=0x5100, flags=0):
        """pushed: the words from the stack's place down."""
        regs = registers(r14=led, r15=stack)
        low = stack - 8 * len(pushed)
        for w, i in FORMS:
            changed = {14: stack - 8, 15: (low - less) % 2**64}
            stored = {low: row_bytes(reversed(pushed))}
            self.does(insn(95, w, i, d=d, z=z), regs, flags, data, changed, stored=stored)

    def test_level_0(self):
        for flags in (0, ALL):
            self.frame(0, 0, 0, {}, [0x6000], flags=flags)
            self.frame(0, 32, 32, {}, [0x6000], flags=flags)
            self.frame(0, 0xFFFF, 0xFFFF, {}, [0x6000])
            self.frame(0, -1, 0xFFFF, {}, [0x6000])
            self.frame(0, 0x10010, 16, {}, [0x6000])

    def test_level_1(self):
        self.frame(1, 0, 0, {0x5FF0: [7] * 32}, [0x6000, 0x50F8])
        self.frame(1, 24, 24, {0x5FF0: [7] * 32}, [0x6000, 0x50F8], flags=ALL)

    def test_level_2(self):
        data = {0x5FE8: row_bytes([33, 22, 11, 99])}
        self.frame(2, 0, 0, data, [0x6000, 11, 0x50F8])
        self.frame(2, 40, 40, data, [0x6000, 11, 0x50F8])

    def test_level_3(self):
        self.frame(3, 8, 8, {0x5FE8: row_bytes([33, 22, 11, 99])}, [0x6000, 11, 22, 0x50F8])

    def test_level_15(self):
        words = [1000 + k for k in range(20)]
        data = {0x6000 - 160: row_bytes(reversed(words))}
        self.frame(15, 0, 0, data, [0x6000] + words[:14] + [0x50F8])
        self.frame(15, 100, 100, data, [0x6000] + words[:14] + [0x50F8], flags=ALL)

    def test_words_below_may_be_those_just_pushed(self):
        self.frame(2, 0, 0, {0x50F0: [7] * 16}, [0x5100, 0x5100, 0x50F8], led=0x5100)
        self.frame(4, 0, 0, {0x50C0: [7] * 64}, [0x5100] * 4 + [0x50F8], led=0x5100)

    def test_back_from_a_frame(self):
        for w, i in FORMS:
            for flags in (0, ALL):
                self.does(insn(96, w, i, d=3, z=9), registers(r14=0x5000, r15=WORD), flags, {0x5000: eight(0x1234)},
                          {14: 0x1234, 15: 0x5008})

    def test_there_and_back(self):
        words = {0x6000 - 160: row_bytes(range(20))}
        for d in (0, 1, 2, 15):
            for z in (0, 64):
                code = [insn(95, d=d, z=z), insn(88, b=3), insn(96)]
                regs = registers(r14=0x6000, r15=0x5100)
                then = self.ran(code, regs, ALL, words)
                self.assertEqual([then.done, then.why, then.regs, then.flags], [3, 0, regs, ALL])

    def test_nested_procedures_reach_the_frames_around_them(self):
        code = [insn(95, d=1, z=16), insn(95, d=2, z=16), insn(95, d=3), insn(0)]
        then = self.ran(code, registers(r14=0x1111, r15=0x5100), 0, None, 9)
        first, second, third = 0x50F8, 0x50F0 - 24, 0x50F0 - 24 - 16 - 24
        self.assertEqual(then.regs[14], third)
        cells = then.cells
        self.assertEqual(cells[third:third + 8], eight(second))
        self.assertEqual(cells[third - 24:third], row_bytes([third, second, first]))
        self.assertEqual(cells[second - 16:second], row_bytes([second, first]))
        self.assertEqual(cells[first - 8:first], eight(first))

    def test_what_is_pushed_must_be_there(self):
        for d in (0, 1, 2, 15):
            words = 8 * (d + 1)
            data = {0x6000 - 160: [5] * 160}
            for stack in (0, words - 8, words - 1, 65537, 65544, 2**63, 2**63 + 0x5100, WORD):
                self.halts(insn(95, d=d, z=8), registers(r14=0x6000, r15=stack), 4, data=data)
            for stack in (words, 65536):
                pushed = [0x6000] + [0x0505050505050505] * (d - 1) + [stack - 8] * (d > 0)
                self.frame(d, 0, 0, data, pushed, stack=stack)
                self.frame(d, 8, 8, data, pushed, stack=stack)

    def test_what_is_copied_must_be_there(self):
        for d in (2, 3, 15):
            words = 8 * (d - 1)
            for led in (0, words - 8, words - 1, 65537, 65544, 2**63, 2**63 + 0x6000, WORD):
                self.halts(insn(95, d=d, z=8), registers(r14=led, r15=0x5100), 4)
            for led in (words, 65536):
                self.frame(d, 0, 0, {}, [led] + [0] * (d - 1) + [0x50F8], led=led)

    def test_levels_0_and_1_copy_nothing(self):
        for led in (0, 65537, 2**63, WORD):
            self.frame(0, 0, 0, {}, [led], led=led)
            self.frame(1, 0, 0, {}, [led, 0x50F8], led=led)

    def test_back_from_a_frame_that_is_not_there(self):
        for led in (65529, 65536, 2**63, WORD - 7, WORD):
            self.halts(insn(96), registers(r14=led, r15=0x5000), 4)
        self.does(insn(96), registers(r14=65528), 0, {65528: eight(3)}, {14: 3, 15: 65536})
        self.does(insn(96), registers(r14=0), 0, {0: eight(3)}, {14: 3, 15: 8})


if __name__ == "__main__":
    unittest.main()
