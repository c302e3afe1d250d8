"""run, strings: operations 97 to 101."""

import unittest

from helpers import A, ALL, C, D, HIGH, O, P, PLACE, S, WORD, Z, RunCase, insn, registers

SIZES = (1, 2, 4, 8)
FROM, TO = 0x5000, 0x6000
NUMBER = 0xB8A7968544332211
BYTES = [0x11, 0x22, 0x33, 0x44, 0x85, 0x96, 0xA7, 0xB8]
LOADED = (0xAAAAAAAAAAAAAA11, 0xAAAAAAAAAAAA2211, 0x44332211, NUMBER)


def regs_for(**given):
    return registers(**{"r0": HIGH, "r11": 7, "r12": FROM, "r13": TO, **given})


def ways():
    """Width, flags before, and by how much registers are led on."""
    for w, size in enumerate(SIZES):
        for flags in (0, D, ALL, ALL - D):
            yield w, flags, -size if flags & D else size


def compared(k):
    """Two numbers of k bits and the flags of one less the other."""
    top = 1 << (k - 1)
    return (
        (5, 5, P + Z), (5, 3, 0), (3, 5, C + A + S), (0, 1, C + P + A + S), (0x10, 1, P + A),
        (top, 1, O + A + (0 if k == 8 else P)), (top - 1, top, C + S + O + P),
    )


class Once(RunCase):
    def test_load(self):
        for w, flags, by in ways():
            for i in (0, 1):
                changed = {0: LOADED[w], 12: FROM + by}
                self.does(insn(97, w, i, d=0, z=5), regs_for(), flags, {FROM: BYTES}, changed)

    def test_store(self):
        for w, flags, by in ways():
            for i in (0, 1):
                self.does(insn(98, w, i, d=0, z=5), regs_for(r0=NUMBER), flags, {TO - 1: [0xEE] * 10}, {13: TO + by},
                          stored={TO: BYTES[:SIZES[w]]})

    def test_copy(self):
        for w, flags, by in ways():
            for i in (0, 1):
                self.does(insn(99, w, i, d=0), regs_for(), flags, {FROM: BYTES, TO - 1: [0xEE] * 10},
                          {12: FROM + by, 13: TO + by}, stored={TO: BYTES[:SIZES[w]]})

    def test_register_0_less_what_is_there(self):
        for w, flags, by in ways():
            k = 8 << w
            for x, y, told in compared(k):
                regs = regs_for(r0=(HIGH >> k << k) | x)
                data = {TO: list(y.to_bytes(SIZES[w], "little")) + [0xEE] * 8}
                self.does(insn(100, w, w % 2, d=0), regs, flags, data, {13: TO + by}, told + (flags & D))

    def test_what_is_at_12_less_what_is_at_13(self):
        for w, flags, by in ways():
            for x, y, told in compared(8 << w):
                first, other = (list(v.to_bytes(SIZES[w], "little")) for v in (x, y))
                data = {FROM: first + [1] * 8, TO: other + [0xEE] * 8}
                changed = {12: FROM + by, 13: TO + by}
                self.does(insn(101, w, w % 2, d=0), regs_for(), flags, data, changed, told + (flags & D))

    def test_register_11_is_nothing(self):
        for count in (0, 1, WORD):
            self.does(insn(97, 3, d=0), regs_for(r11=count), 0, {FROM: BYTES}, {0: NUMBER, 12: FROM + 8})

    def test_one_place_for_both(self):
        self.does(insn(99, 3, d=0), regs_for(r13=FROM), 0, {FROM: BYTES}, {12: FROM + 8, 13: FROM + 8})
        self.does(insn(101, 3, d=0), regs_for(r13=FROM), 0, {FROM: BYTES}, {12: FROM + 8, 13: FROM + 8}, P + Z)

    def test_places_wrap(self):
        self.does(insn(97, 3, d=0), regs_for(r12=0), D, {0: BYTES}, {0: NUMBER, 12: WORD - 7})
        self.does(insn(98, 1, d=0), regs_for(r0=NUMBER, r13=0), D, {}, {13: WORD - 1}, stored={0: BYTES[:2]})
        self.does(insn(97, 0, d=0), regs_for(r12=65535), 0, {65535: [9]}, {0: HIGH & ~0xFF | 9, 12: 65536})

    def test_bytes_that_are_not_there(self):
        for w, size in enumerate(SIZES):
            for place in (65537 - size, 65536, 2**32, 2**63, WORD - size + 1, WORD):
                for op in (97, 99, 101):
                    self.halts(insn(op, w, d=0), regs_for(r12=place), 4, data={TO: BYTES})
                for op in (98, 99, 100, 101):
                    self.halts(insn(op, w, d=0), regs_for(r13=place), 4, data={FROM: BYTES})
            last = 65536 - size
            self.does(insn(99, w, d=0), regs_for(r12=last, r13=FROM), 0, {last: BYTES[:size]},
                      {12: 65536, 13: FROM + size}, stored={FROM: BYTES[:size]})


def spread(values, size, back, place):
    """Numbers one behind another from a place on, forward or back."""
    step = -size if back else size
    return {place + k * step: list(value.to_bytes(size, "little")) for k, value in enumerate(values)}


class AgainAndAgain(RunCase):
    def test_load(self):
        for w, flags, by in ways():
            data = spread([1, 2, 3, 0x7F], SIZES[w], by < 0, FROM)
            k = 8 << w
            low = 3 if k >= 32 else (HIGH >> k << k) | 3
            self.does(insn(97, w, d=1), regs_for(r11=3), flags, data, {0: low, 11: 0, 12: FROM + 3 * by})

    def test_store(self):
        for w, flags, by in ways():
            stored = spread([NUMBER % 256 ** SIZES[w]] * 3, SIZES[w], by < 0, TO)
            self.does(insn(98, w, d=1), regs_for(r0=NUMBER, r11=3), flags, {TO - 40: [0xEE] * 80},
                      {11: 0, 13: TO + 3 * by}, stored=stored)

    def test_copy(self):
        for w, flags, by in ways():
            values = [0x71, 0x72, 0x73]
            data = {TO - 40: [0xEE] * 80, **spread(values + [0x74], SIZES[w], by < 0, FROM)}
            self.does(insn(99, w, d=1), regs_for(r11=3), flags, data, {11: 0, 12: FROM + 3 * by, 13: TO + 3 * by},
                      stored=spread(values, SIZES[w], by < 0, TO))

    def test_copies_one_turn_after_another(self):
        regs = regs_for(r11=6, r12=FROM, r13=FROM + 1)
        changed = {11: 0, 12: FROM + 6, 13: FROM + 7}
        self.does(insn(99, 0, d=1), regs, 0, {FROM: [1, 2, 3, 4, 5, 6, 7, 8]}, changed, stored={FROM: [1] * 7})

    def test_no_turn(self):
        for op in (97, 98, 99, 100, 101):
            for d in (1, 2) if op >= 100 else (1,):
                for w, flags, by in ways():
                    self.does(insn(op, w, d=d), regs_for(r11=0), flags)
                    self.does(insn(op, w, d=d), regs_for(r11=0, r12=WORD, r13=65536), flags)

    def test_register_11_is_counted_whole(self):
        self.does(insn(98, 0, d=1), regs_for(r0=7, r11=0x101), 0, {}, {11: 0, 13: TO + 0x101},
                  stored={TO: [7] * 0x101})

    def find(self, op, w, flags, by, d, values, count, turns, told):
        """values are what is at 13; what they are held against is 5."""
        size = SIZES[w]
        data = spread(values, size, by < 0, TO)
        changed = {11: count - turns, 13: TO + turns * by}
        if op == 101:
            data.update(spread([5] * len(values), size, by < 0, FROM))
            changed[12] = FROM + turns * by
        k = 8 << w
        regs = regs_for(r0=(HIGH >> k << k) | 5, r11=count)
        self.does(insn(op, w, d=d), regs, flags, data, changed, told + (flags & D))

    def test_while_alike(self):
        for op in (100, 101):
            for w, flags, by in ways():
                self.find(op, w, flags, by, 1, [5, 5, 5, 6], 3, 3, P + Z)
                self.find(op, w, flags, by, 1, [5, 5, 6, 5], 9, 3, C + P + A + S)
                self.find(op, w, flags, by, 1, [3, 5, 5, 5], 9, 1, 0)
                self.find(op, w, flags, by, 1, [5, 3, 5, 5], 2, 2, 0)
                self.find(op, w, flags, by, 1, [5, 5, 5, 5], 1, 1, P + Z)
                self.find(op, w, flags, by, 1, [6, 5, 5, 5], 1, 1, C + P + A + S)
                self.find(op, w, flags, by, 1, [3, 5], WORD, 1, 0)

    def test_while_not_alike(self):
        for op in (100, 101):
            for w, flags, by in ways():
                self.find(op, w, flags, by, 2, [6, 6, 6, 5], 3, 3, C + P + A + S)
                self.find(op, w, flags, by, 2, [6, 6, 5, 6], 9, 3, P + Z)
                self.find(op, w, flags, by, 2, [5, 6, 6, 6], 9, 1, P + Z)
                self.find(op, w, flags, by, 2, [3, 5, 6, 6], 2, 2, P + Z)
                self.find(op, w, flags, by, 2, [3, 6, 6, 6], 1, 1, 0)
                self.find(op, w, flags, by, 2, [5, 6, 6, 6], 1, 1, P + Z)
                self.find(op, w, flags, by, 2, [5, 6], WORD, 1, P + Z)

    def test_one_string_is_one_step(self):
        then = self.ran([insn(98, 0, d=1), insn(0)], regs_for(r11=50), 0, None, 9)
        self.assertEqual([then.done, then.why, then.place], [1, 1, PLACE + 8])


class Stops(RunCase):
    def stops_after(self, code, regs, flags, data, changed, after, stored):
        """Stop 4; what the turns before did is done."""
        then = self.ran([code], regs, flags, data, 3)
        wanted = list(regs)
        for number, value in changed.items():
            wanted[number] = value
        self.assertEqual([then.done, then.why, then.place], [0, 4, PLACE])
        self.assertEqual([hex(value) for value in then.regs], [hex(value) for value in wanted])
        self.assertEqual(then.flags, after)
        cells = self.ran([code], regs, flags, data, 0).cells
        for place, values in stored.items():
            cells[place:place + len(values)] = values
        self.same_cells(then.cells, cells, hex(code))

    def test_the_turns_before_are_done_at_the_end(self):
        for w, size in enumerate(SIZES):
            last = 65536 - 2 * size
            two = {last: [5] + [0] * (size - 1) + [6] + [0] * (size - 1)}
            for count in (3, 9, WORD):
                low = 6 if w > 1 else (HIGH >> (8 << w) << (8 << w)) | 6
                led = {0: low, 11: count - 2, 12: 65536}
                self.stops_after(insn(97, w, d=1), regs_for(r11=count, r12=last), ALL - D, two, led, ALL - D, {})
                led = {11: count - 2, 13: 65536}
                nines = int.from_bytes([9] * 8, "little")
                self.stops_after(insn(98, w, d=1), regs_for(r0=nines, r11=count, r13=last), 0, two, led, 0,
                                 {last: [9] * (2 * size)})
                led = {11: count - 2, 12: FROM + 2 * size, 13: 65536}
                sevens = {FROM: [7] * 32}
                self.stops_after(insn(99, w, d=1), regs_for(r11=count, r13=last), ALL - D, sevens, led, ALL - D,
                                 {last: [7] * (2 * size)})
                led = {11: count - 2, 12: 65536, 13: TO + 2 * size}
                self.stops_after(insn(99, w, d=1), regs_for(r11=count, r12=last), 0, two, led, 0, {TO: two[last]})
                led = {11: count - 2, 12: 65536, 13: TO + 2 * size}
                self.stops_after(insn(101, w, d=2), regs_for(r11=count, r12=last), 0, two, led, P, {})

    def test_the_turns_before_are_done_going_back(self):
        for w, size in enumerate(SIZES):
            k = 8 << w
            regs = regs_for(r0=(HIGH >> k << k) | 5, r11=8, r13=2 * size)
            data = {0: ([5] + [0] * (size - 1)) * 3}
            led = {11: 5, 13: (-size) % 2**64}
            self.stops_after(insn(100, w, d=1), regs, D, data, led, D + P + Z, {})
            regs = regs_for(r11=8, r12=2 * size, r13=TO)
            led = {11: 5, 12: (-size) % 2**64, 13: TO - 3 * size}
            self.stops_after(insn(99, w, d=1), regs, D, data, led, D, {TO - 2 * size: data[0]})

    def test_flags_are_those_of_the_last_turn_done(self):
        regs = regs_for(r0=5, r11=9, r13=65534)
        self.stops_after(insn(100, 0, d=2), regs, 0, {65534: [6, 3]}, {11: 7, 13: 65536}, 0, {})
        self.stops_after(insn(100, 0, d=2), regs, ALL - D, {65534: [3, 6]}, {11: 7, 13: 65536}, C + P + A + S, {})

    def test_the_first_turn_already(self):
        for w in range(4):
            for op in (97, 98, 99, 100, 101):
                for d in (0, 1, 2) if op >= 100 else (0, 1):
                    for place in (65536, WORD):
                        self.halts(insn(op, w, d=d), regs_for(r12=place, r13=place), 4)

    def test_d_that_is_none(self):
        for op in (97, 98, 99, 100, 101):
            for d in range(2 if op < 100 else 3, 16):
                for count in (0, 1, 5):
                    self.halts(insn(op, d % 4, d % 2, d=d), regs_for(r11=count), 3)
                self.halts(insn(op, 0, d=d), regs_for(r12=65536, r13=65536), 3)


if __name__ == "__main__":
    unittest.main()
