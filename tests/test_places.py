"""run, memory: operations 4, 38, 39, 84 to 89 and 111."""

import unittest

from helpers import ALL, C, D, HIGH, O, P, S, WORD, Z, RunCase, eight, insn, registers

BYTES = [0x11, 0x22, 0x33, 0x44, 0x85, 0x96, 0xA7, 0xB8]
SIZES = (1, 2, 4, 8)
LOADED = (0xAAAAAAAAAAAAAA11, 0xAAAAAAAAAAAA2211, 0x44332211, 0xB8A7968544332211)
TURNED = (0xAAAAAAAAAAAAAA11, 0xAAAAAAAAAAAA1122, 0x11223344, 0x112233448596A7B8)


class LoadsAndStores(RunCase):
    def each_form(self):
        for w in range(4):
            for i in (0, 1):
                for flags in (0, ALL):
                    yield w, i, flags

    def test_loads(self):
        data = {0x5000: BYTES}
        for w, i, flags in self.each_form():
            for base, z in ((0x5000, 0), (0x4FF0, 0x10), (0x5010, -0x10), (0x80004FFF, -0x7FFFFFFF), (WORD, 0x5001)):
                regs = registers(r0=HIGH, r1=base)
                self.does(insn(84, w, i, z=z), regs, flags, data, {0: LOADED[w]})
                self.does(insn(86, w, i, z=z), regs, flags, data, {0: TURNED[w]})

    def test_stores(self):
        data = {0x5000: [0xEE] * 9}
        number = 0xB8A7968544332211
        for w, i, flags in self.each_form():
            size = SIZES[w]
            for base, z in ((0x5000, 0), (0x4FF0, 0x10), (0x5010, -0x10), (WORD - 0xFFF, 0x6000)):
                regs = registers(r0=number, r1=base)
                self.does(insn(85, w, i, z=z), regs, flags, data, stored={0x5000: BYTES[:size]})
                self.does(insn(87, w, i, z=z), regs, flags, data, stored={0x5000: BYTES[:size][::-1]})

    def test_place_and_number_in_one_register(self):
        self.does(insn(84, 3, a=1, b=1), registers(r1=0x5000), data={0x5000: BYTES}, changed={1: LOADED[3]})
        self.does(insn(85, 1, a=1, b=1), registers(r1=0x5002), stored={0x5002: [0x02, 0x50]})

    def test_ends_of_the_memory(self):
        for w, size in enumerate(SIZES):
            for place in (0, 65536 - size):
                for base, z in ((place, 0), ((place + 9) % 2**64, -9), ((place - 7) % 2**64, 7)):
                    regs = registers(r0=0, r1=base)
                    value = LOADED[w] % 256**size
                    for op in (84, 86):
                        changed = {0: value if op == 84 else TURNED[w] % 256**size}
                        self.does(insn(op, w, z=z), regs, data={place: BYTES[:size]}, changed=changed, place=0x2000)
                    regs[0] = 0xB8A7968544332211
                    for op, step in ((85, 1), (87, -1)):
                        stored = {place: BYTES[:size][::step]}
                        self.does(insn(op, w, z=z), regs, stored=stored, place=0x2000)

    def test_bytes_that_are_not_all_there(self):
        for w, size in enumerate(SIZES):
            for place in (65537 - size, 65535 + (size == 1), 65536, 2**32, 2**63, WORD - size + 1, WORD):
                for z in (0, 1, -1, 2**31 - 1, -(2**31)):
                    for op in (84, 85, 86, 87):
                        regs = registers(r1=(place - z) % 2**64)
                        self.halts(insn(op, w, z=z), regs, 4, data={65528: BYTES})

    def test_a_place_that_wraps_at_its_end_is_not_there(self):
        for w in (1, 2, 3):
            for op in (84, 85, 86, 87):
                self.halts(insn(op, w, z=-1), registers(r1=0), 4)


class LookUp(RunCase):
    def test_the_byte_that_a_tells(self):
        data = {0x5000: [k ^ 0x5A for k in range(256)]}
        for low in (0, 1, 0x7F, 0x80, 0xFF):
            for w in range(4):
                regs = registers(r0=0xAAAAAAAAAAAAAA00 + low, r1=0x5000)
                changed = {0: 0xAAAAAAAAAAAAAA00 + (low ^ 0x5A)}
                for flags in (0, ALL):
                    self.does(insn(4, w, w % 2, z=9), regs, flags, data, changed)

    def test_all_of_the_byte_and_no_more(self):
        for byte in (0, 0x7F, 0x80, 0xFF):
            for high in (0xAAAAAAAAAAAAAA00, 0x5555555555555500):
                for low in (0, 0xFF):
                    regs = registers(r0=high + low, r1=0x5000)
                    self.does(insn(4), regs, 0, {0x5000 + low: [byte]}, {0: high + byte})

    def test_one_register_for_both(self):
        self.does(insn(4, a=1, b=1), registers(r1=0x5021), data={0x5042: [0x77]}, changed={1: 0x5077})

    def test_ends_of_the_memory(self):
        self.does(insn(4), registers(r0=5, r1=65530), data={65535: [0x12]}, changed={0: 0x12})
        self.does(insn(4), registers(r0=5, r1=WORD - 4), data={0: [0x12]}, changed={0: 0x12})
        self.halts(insn(4), registers(r0=6, r1=65530), 4)
        self.halts(insn(4), registers(r0=5, r1=WORD - 5), 4)
        self.halts(insn(4), registers(r0=0, r1=WORD), 4)
        self.halts(insn(4), registers(r0=0, r1=2**63 + 0x5000), 4)


class Stack(RunCase):
    def test_push(self):
        regs = registers(r1=0x8877665544332211, r15=0x5008)
        for w in range(4):
            for flags in (0, ALL):
                self.does(insn(88, w, z=7), regs, flags, {0x4FFF: [0xEE] * 10}, {15: 0x5000},
                          stored={0x5000: eight(0x8877665544332211)})
                for z in (0, 5, -2, 2**31 - 1, -(2**31)):
                    self.does(insn(88, w, 1, z=z), regs, flags, {0x4FFF: [0xEE] * 10}, {15: 0x5000},
                              stored={0x5000: eight(z)})

    def test_push_of_the_stacks_own_place(self):
        self.does(insn(88, b=15), registers(r15=0x5008), changed={15: 0x5000}, stored={0x5000: eight(0x5008)})

    def test_pop(self):
        for w in range(4):
            for i in (0, 1):
                for flags in (0, ALL):
                    regs = registers(r0=HIGH, r15=0x5000)
                    self.does(insn(89, w, i, z=3), regs, flags, {0x5000: BYTES}, {0: LOADED[3], 15: 0x5008})

    def test_pop_of_the_stacks_own_place(self):
        self.does(insn(89, a=15), registers(r15=0x5000), data={0x5000: BYTES}, changed={15: LOADED[3]})

    def test_flags(self):
        for w in range(4):
            for flags in (0, ALL, C, D, O, P + Z, S):
                regs = registers(r15=0x5008)
                self.does(insn(38, w, w % 2), regs, flags, changed={15: 0x5000}, stored={0x5000: eight(flags + 2)})
                for before in (0, ALL):
                    regs = registers(r15=0x5000)
                    for pushed in (flags, flags + 2, flags | (WORD - ALL)):
                        self.does(insn(39, w, w % 2), regs, before, {0x5000: eight(pushed)}, {15: 0x5008}, flags)

    def test_flags_of_a_given_word_that_are_none_are_not_pushed(self):
        regs = registers(r15=0x5008)
        self.does(insn(38), regs, 0xFFFFFFFF, changed={15: 0x5000}, stored={0x5000: eight(ALL + 2)})

    def test_there_and_back(self):
        code = [insn(38), insn(88, b=1), insn(88, 3, 1, z=-9), insn(89, a=2), insn(89, a=3), insn(31), insn(39)]
        then = self.ran(code, registers(r15=0x5000), C + D + Z)
        regs = registers(r2=WORD - 8, r15=0x5000)
        regs[3] = regs[1]
        self.assertEqual([then.done, then.why, then.regs, then.flags], [7, 0, regs, C + D + Z])

    def test_ends_of_the_memory(self):
        for op, i in ((88, 0), (88, 1), (38, 0)):
            number = {(88, 0): 0x123, (88, 1): 44, (38, 0): 2}[op, i]
            code = insn(op, 3, i, z=44)
            self.does(code, registers(r1=0x123, r15=65536), changed={15: 65528}, stored={65528: eight(number)})
            self.does(code, registers(r1=0x123, r15=8), changed={15: 0}, stored={0: eight(number)})
            for place in (0, 1, 7, 65537, 65544, 2**32 + 0x5008, 2**63, 2**63 + 0x5008, WORD):
                self.halts(code, registers(r15=place), 4, data={65528: BYTES})
        for op, changed in ((89, {0: LOADED[3]}), (39, {})):
            self.does(insn(op), registers(r15=65528), 0, {65528: BYTES}, {**changed, 15: 65536}, 17 if op == 39 else 0)
            self.does(insn(op), registers(r15=0), 0, {0: BYTES}, {**changed, 15: 8}, 17 if op == 39 else 0)
            for place in (65529, 65535, 65536, 2**63, 2**63 + 0x5008, WORD - 7, WORD):
                self.halts(insn(op), registers(r15=place), 4, data={65528: BYTES})
                self.halts(insn(op, a=15), registers(r15=place), 4, data={65528: BYTES})


class Pairs(RunCase):
    def test_alike(self):
        for w in range(4):
            for flags in (0, ALL, Z, ALL - Z):
                regs = registers(r1=0x4FF0, r2=7, r3=8, r4=0x1111, r5=0x2222)
                self.does(insn(111, w, w % 2, c=2, d=4, z=16), regs, flags, {0x5000: eight(7) + eight(8)}, {},
                          flags | Z, {0x5000: eight(0x1111) + eight(0x2222)})

    def test_not_alike(self):
        for there in ((7, 9), (6, 8), (8, 7), (7 + 2**63, 8), (7, 8 + 2**63)):
            for flags in (0, ALL):
                regs = registers(r1=0x5010, r2=7, r3=8, r4=0x1111, r5=0x2222)
                data = {0x5000: eight(there[0]) + eight(there[1])}
                self.does(insn(111, c=2, d=4, z=-16), regs, flags, data, {2: there[0], 3: there[1]}, flags & ~Z)

    def test_behind_15_comes_0(self):
        data = {0x5000: eight(7) + eight(8)}
        regs = registers(r0=8, r1=0x5000, r15=7, r4=5, r5=6)
        self.does(insn(111, c=15, d=4), regs, 0, data, {}, Z, {0x5000: eight(5) + eight(6)})
        regs = registers(r0=7, r1=0x5000, r15=8)
        self.does(insn(111, c=15, d=4), regs, Z, data, {15: 7, 0: 8}, 0)
        regs = registers(r0=0x99, r1=0x5000, r15=0x88, r2=7, r3=8)
        self.does(insn(111, c=2, d=15), regs, 0, data, {}, Z, {0x5000: eight(0x88) + eight(0x99)})
        regs = registers(r1=0x5000, r0=8, r15=7)
        self.does(insn(111, c=15, d=15), regs, 0, data, {}, Z)

    def test_the_place_itself_is_changed_last(self):
        data = {0x5000: eight(7) + eight(8)}
        self.does(insn(111, b=2, c=2), registers(r2=0x5000), Z, data, {2: 7, 3: 8}, 0)

    def test_only_at_a_multiple_of_16(self):
        for place in range(0x5001, 0x5010):
            self.halts(insn(111, c=2, d=4), registers(r1=place), 4, data={0x5000: [3] * 32})
        for z in (1, 8, -8, 17):
            self.halts(insn(111, c=2, d=4, z=z), registers(r1=0x5000), 4, data={0x5000: [3] * 32})

    def test_ends_of_the_memory(self):
        there = eight(7) + eight(8)
        for place in (0, 65520):
            self.does(insn(111), registers(r1=place), 0, {place: there}, {2: 7, 3: 8}, 0)
            self.does(insn(111, z=-16), registers(r1=place + 16), 0, {place: there}, {2: 7, 3: 8}, 0)
        self.does(insn(111, z=16), registers(r1=WORD - 15), 0, {0: there}, {2: 7, 3: 8}, 0)
        for place in (65528, 65536, 2**32, WORD - 15):
            self.halts(insn(111), registers(r1=place), 4)
        self.halts(insn(111, z=-16), registers(r1=0), 4)


if __name__ == "__main__":
    unittest.main()
