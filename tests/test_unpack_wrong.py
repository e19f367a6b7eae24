import unittest

from document import MOST, bytes_of, few_letters, written, xxhash
from handmade import (ALONE, BLOCK_SUMS, END, FIRST_FOUR, LENGTH, LINKED, LONGEST_TEXT, SIZES, TEXT_SUM, framed, head,
                      own, packed, run, spoiled, sum_bytes)
from shorttexts.blocks import pack, unpack

LOWEST = -2147483648
EVERYTHING = ALONE | BLOCK_SUMS | LENGTH | TEXT_SUM
TEXT = [1, 2, 3]


def with_everything(text):
    """A frame with a block that stands for itself, all sums and the length."""
    return head(EVERYTHING, length=len(text)) + own(text) + sum_bytes(text) + END + sum_bytes(text)


class Unpacked(unittest.TestCase):
    def wrong(self, number, frame, told=None):
        self.assertEqual(unpack(MOST, frame), [number], told)


class WrongArguments(Unpacked):
    def test_most_below_zero_comes_before_all_else(self):
        faults = ([], [1, 2, 3], framed(own(TEXT)), FIRST_FOUR + [0, 0, 0], FIRST_FOUR + [0x60, 0x40, 0],
                  framed(own(TEXT))[:-1], framed(packed([0x10])), framed(packed(run(1, 2 * LONGEST_TEXT)), size=0x70),
                  head(ALONE | LENGTH, length=9) + END)
        for frame in faults:
            for most in (-1, -2, -7, LOWEST):
                self.assertEqual(unpack(most, frame), [-8])
            self.assertNotEqual(unpack(0, frame), [-8])


class TooLong(Unpacked):
    def test_one_byte_more_than_most(self):
        for text in ([7], [5] * 13, list(range(200)), few_letters(700, 3), [0] * 70000):
            for flags in (0, 7, 8, 15):
                frame = pack(flags, MOST, text)[1:]
                self.assertEqual(unpack(len(text) - 1, frame), [-7])
                self.assertEqual(unpack(0, frame), [-7])
                self.assertEqual(unpack(len(text), frame), [len(text)] + text)
                self.assertEqual(unpack(len(text) + 1, frame), [len(text)] + text)

    def test_the_empty_text_fits_into_nothing(self):
        self.assertEqual(unpack(0, framed()), [0])

    def test_all_else_that_is_wrong_comes_first(self):
        good = with_everything(TEXT)
        for number, frame in ((-1, good[:6]), (-2, spoiled(good, 4)), (-3, spoiled(good, 14)), (-4, good[:-1]),
                              (-3, spoiled(good, -1)), (-5, framed(own(TEXT), packed([0x10]))),
                              (-6, framed(packed(run(1, LONGEST_TEXT + 1)), size=0x70)),
                              (-9, head(ALONE | LENGTH, length=4) + own(TEXT) + END)):
            self.assertEqual(unpack(0, frame), [number])
        self.assertEqual(unpack(2, good), [-7])


class NoWholeHead(Unpacked):
    def test_fewer_than_seven_bytes(self):
        for frame in (framed(), with_everything(TEXT), [0] * 7, FIRST_FOUR + [0xFF] * 3):
            for length in range(7):
                self.wrong(-1, frame[:length])

    def test_each_of_the_first_four_bytes(self):
        for place in range(4):
            for byte in set(range(256)) - {FIRST_FOUR[place]}:
                frame = framed(own(TEXT))
                frame[place] = byte
                self.wrong(-1, frame)
        self.wrong(-1, FIRST_FOUR[::-1] + framed()[4:])

    def test_the_first_four_come_before_the_flags(self):
        self.wrong(-1, [0x05, 0x22, 0x4D, 0x18, 0, 0, 0])

    def test_a_told_length_cut_short_and_no_sum_byte(self):
        whole = head(ALONE | LENGTH, length=5)
        self.assertEqual(len(whole), 15)
        for length in range(7, 15):
            self.wrong(-1, whole[:length], length)
        self.wrong(-4, whole)

    def test_without_a_length_seven_bytes_are_a_whole_head(self):
        self.wrong(-4, head())


class WrongHead(Unpacked):
    def test_every_byte_of_flags(self):
        for flags in range(256):
            frame = head(flags, length=0 if flags & LENGTH else None) + END
            frame += sum_bytes([]) if flags & TEXT_SUM else []
            right = flags >> 6 == 1 and flags & 3 == 0
            self.assertEqual(unpack(MOST, frame), [0] if right else [-2], flags)

    def test_every_other_byte(self):
        for size in range(256):
            self.assertEqual(unpack(MOST, framed(size=size)), [0] if size in SIZES else [-2], size)

    def test_each_fault_by_itself(self):
        for flags in (0x20, 0xA0, 0xE0, 0x61, 0x62, 0x63):
            self.wrong(-2, framed(flags=flags))
        for size in (0x00, 0x10, 0x20, 0x30, 0xC0, 0x41, 0x42, 0x44, 0x48):
            self.wrong(-2, framed(size=size))

    def test_before_a_head_that_is_not_whole(self):
        for flags, size in ((0x69, 0x40), (0x6A, 0x40), (0x28, 0x40), (0xE8, 0x40), (0x68, 0x30), (0x68, 0xC0),
                            (0x68, 0x41)):
            for length in range(7, 15):
                self.wrong(-2, head(flags, size, 5)[:length])

    def test_before_the_head_s_sum(self):
        self.wrong(-2, FIRST_FOUR + [0x61, 0x40, head(0x61)[-1] ^ 1] + END)
        self.wrong(-2, FIRST_FOUR + [0x60, 0x30, head(0x60, 0x30)[-1] ^ 1] + END)


class WrongSums(Unpacked):
    def test_the_head_s_sum_byte(self):
        for flags, length in ((ALONE, None), (LINKED, None), (ALONE | LENGTH, 3)):
            whole = head(flags, length=length)
            for byte in set(range(256)) - {whole[-1]}:
                self.wrong(-3, whole[:-1] + [byte] + own(TEXT) + END)

    def test_the_head_s_sum_is_of_the_length_too(self):
        whole = head(ALONE | LENGTH, length=3)
        for place in range(6, 14):
            self.wrong(-3, spoiled(whole, place) + own(TEXT) + END)

    def test_another_byte_of_the_head_s_sum(self):
        total = xxhash([ALONE, 0x40])
        for shift in (0, 16, 24):
            self.wrong(-3, FIRST_FOUR + [ALONE, 0x40, total >> shift & 255] + END)
        self.assertEqual(unpack(MOST, FIRST_FOUR + [ALONE, 0x40, total >> 8 & 255] + END), [0])

    def test_a_block_s_sum(self):
        block = run(4, 30)
        for place in range(4):
            for one in (own(TEXT) + spoiled(sum_bytes(TEXT), place), packed(block) + spoiled(sum_bytes(block), place)):
                self.wrong(-3, head(ALONE | BLOCK_SUMS) + one + END)
                before = own([9]) + sum_bytes([9])
                self.wrong(-3, head(LINKED | BLOCK_SUMS) + before + one + END)

    def test_a_block_s_sum_is_of_the_block_as_it_stands(self):
        self.wrong(-3, head(ALONE | BLOCK_SUMS) + packed(run(4, 30)) + sum_bytes([4] * 30) + END)

    def test_a_block_s_bytes(self):
        self.wrong(-3, head(ALONE | BLOCK_SUMS) + own(spoiled(TEXT)) + sum_bytes(TEXT) + END)

    def test_the_text_s_sum(self):
        for place in range(4):
            self.wrong(-3, head(ALONE | TEXT_SUM) + own(TEXT) + END + spoiled(sum_bytes(TEXT), place))
            self.wrong(-3, head(ALONE | TEXT_SUM) + END + spoiled(sum_bytes([]), place))
        self.wrong(-3, head(ALONE | TEXT_SUM) + own(spoiled(TEXT)) + END + sum_bytes(TEXT))

    def test_the_text_s_sum_is_of_all_blocks(self):
        good = head(ALONE | TEXT_SUM) + own(TEXT) + packed(run(4, 30)) + END
        self.assertEqual(unpack(MOST, good + sum_bytes(TEXT + [4] * 30)), [33] + TEXT + [4] * 30)
        self.wrong(-3, good + sum_bytes([4] * 30))
        self.wrong(-3, good + sum_bytes(TEXT))


class WrongBlocks(Unpacked):
    def test_every_frame_that_is_cut_short(self):
        for flags in range(16):
            for text in ([], [1, 2, 3], [5] * 30):
                frame = pack(flags, MOST, text)[1:]
                begin = 15 if flags & 4 else 7
                for length in range(begin, len(frame)):
                    self.wrong(-4, frame[:length], (flags, length))

    def test_how_long_cut_short(self):
        for length in range(4):
            self.wrong(-4, head() + END[:length])
            self.wrong(-4, head() + own(TEXT)[:length])
            self.wrong(-4, head() + own(TEXT) + own(TEXT)[:length])

    def test_a_block_cut_short(self):
        self.wrong(-4, head() + own(TEXT)[:-1])
        self.wrong(-4, head() + packed(run(4, 30))[:-1])
        self.wrong(-4, head() + own([1] * 1000)[:-1])

    def test_a_block_s_sum_cut_short(self):
        for block in (own(TEXT) + sum_bytes(TEXT), packed(run(4, 30)) + sum_bytes(run(4, 30))):
            for length in range(1, 5):
                self.wrong(-4, head(ALONE | BLOCK_SUMS) + block[:-length])

    def test_no_end(self):
        self.wrong(-4, head() + own(TEXT))
        self.wrong(-4, head() + packed(run(4, 30)))
        self.wrong(-4, head(ALONE | TEXT_SUM) + own(TEXT) + sum_bytes(TEXT))

    def test_the_text_s_sum_cut_short(self):
        for length in range(4):
            self.wrong(-4, head(ALONE | TEXT_SUM) + own(TEXT) + END + sum_bytes(TEXT)[:length])

    def test_bytes_behind(self):
        for behind in ([0], [1], END, sum_bytes(TEXT), framed()):
            self.wrong(-4, framed() + behind)
            self.wrong(-4, framed(own(TEXT)) + behind)
            self.wrong(-4, head(ALONE | TEXT_SUM) + own(TEXT) + END + sum_bytes(TEXT) + behind)

    def test_a_block_longer_than_it_may_be(self):
        for size, most in SIZES.items():
            if most > LONGEST_TEXT:
                continue
            for flags in (ALONE, LINKED):
                self.wrong(-4, framed(own([1] * (most + 1)), flags=flags, size=size))
                self.wrong(-4, framed(packed([0] * (most + 1)), flags=flags, size=size))

    def test_a_block_that_only_says_so(self):
        for size, most in SIZES.items():
            for more in (1, 2, 1000, 2 ** 31 - 1 - most):
                for alone in (0, 2 ** 31):
                    frame = head(size=size) + bytes_of(alone + most + more, 4) + [0] * 20
                    self.wrong(-4, frame, (size, more))

    def test_a_packed_block_longer_than_it_may_be_whose_text_is_not(self):
        text = few_letters(65280, 256)
        block = written([(text, None, None)])
        self.assertEqual(len(block), 65537)
        self.wrong(-4, framed(packed(block)))
        self.assertEqual(unpack(MOST, framed(packed(block), size=0x50)), [65280] + text)

    def test_longer_than_it_may_be_comes_before_its_sum_and_its_parts(self):
        self.wrong(-4, head(ALONE | BLOCK_SUMS) + own([1] * 65537) + [0, 0, 0, 0] + END)
        self.wrong(-4, framed(packed([0x10] + [0] * 65536)))


class WrongParts(Unpacked):
    def block(self, block, told=None):
        """Wrong as a first block and as a second one, linked and not."""
        for flags in (ALONE, LINKED):
            self.wrong(-5, framed(packed(block), flags=flags), told)
        self.wrong(-5, framed(own(TEXT), packed(block)), told)

    def test_a_part_that_is_not_whole(self):
        for block in ([0x10], [0x20, 1], [0xE0] + [1] * 13, [0xF0], [0xF0, 0], [0xF0, 255], [0xF0, 255, 255],
                      [0xF0, 0] + [1] * 14, [0xF0, 255, 0] + [1] * 269, [0x10, 1, 1], [0x1F, 1, 1, 0],
                      [0x1F, 1, 1, 0, 255], [0x1F, 1, 1, 0, 255, 255]):
            self.block(block, block)

    def test_every_block_that_is_cut_short(self):
        block = [0x1F, 5, 1, 0, 255, 3, 0xFF, 4] + [6] * 19 + [2, 0, 9, 0x30, 7, 8, 9]
        self.assertEqual(unpack(MOST, framed(packed(block)))[0], 1 + 277 + 19 + 28 + 3)
        whole_ends = {2, 27}
        for length in range(1, len(block)):
            frame = framed(packed(block[:length]))
            if length in whole_ends:
                self.assertGreater(unpack(MOST, frame)[0], 0, length)
            else:
                self.wrong(-5, frame, length)

    def test_the_end_behind_a_match(self):
        for block in ([0x10, 1, 1, 0], [0x1F, 1, 1, 0, 3], [0x10, 1, 1, 0, 0x00, 1, 0]):
            self.block(block)
            self.assertGreater(unpack(MOST, framed(packed(block + [0])))[0], 0)

    def test_back_by_nothing(self):
        self.block([0x10, 1, 0, 0, 0x10, 2])
        self.block([0x00, 0, 0, 0])

    def test_before_the_beginning(self):
        for count in range(6):
            for back in range(1, 8):
                block = [16 * count] + list(range(count)) + [back, 0, 0x10, 9]
                if back > count:
                    self.wrong(-5, framed(packed(block)))
                    self.wrong(-5, framed(packed(block), flags=LINKED))
                else:
                    self.assertEqual(unpack(MOST, framed(packed(block)))[0], count + 5)
        self.block([0x10, 1, 0, 1, 0x10, 2])
        self.block([0x10, 1, 255, 255, 0x10, 2])

    def test_before_the_block_s_beginning_where_blocks_stand_alone(self):
        before = own([1, 2, 3, 4])
        for back, linked in ((1, [9, 9, 9, 9]), (2, [4, 9, 4, 9]), (5, [1, 2, 3, 4])):
            block = packed([0x10, 9, back, 0, 0x10, 7])
            text = [1, 2, 3, 4, 9] + linked + [7]
            self.assertEqual(unpack(MOST, framed(before, block, flags=LINKED)), [10] + text)
            if back == 1:
                self.assertEqual(unpack(MOST, framed(before, block)), [10] + text)
            else:
                self.wrong(-5, framed(before, block))
        self.wrong(-5, framed(before, packed([0x10, 9, 6, 0, 0x10, 7]), flags=LINKED))
        self.wrong(-5, framed(before, packed([0x00, 1, 0, 0x10, 7])))
        self.assertEqual(unpack(MOST, framed(before, packed([0, 1, 0, 0x10, 7]), flags=LINKED))[0], 9)

    def test_more_text_than_the_head_lets_a_block_have(self):
        for size, most in SIZES.items():
            for flags in (ALONE, LINKED):
                self.wrong(-5, framed(packed(run(1, most + 1)), flags=flags, size=size))
                self.wrong(-5, framed(own(TEXT), packed(run(1, most + 1)), flags=flags, size=size))

    def test_more_text_by_bytes_that_stand_for_themselves(self):
        for size, most in SIZES.items():
            block = written([([1], 1, most - 1), ([2], None, None)])
            self.wrong(-5, framed(packed(block), size=size))

    def test_a_block_s_text_counts_by_itself(self):
        frame = framed(packed(run(1, 65536)), packed(run(2, 65536)), flags=LINKED)
        self.assertEqual(unpack(MOST, frame), [131072] + [1] * 65536 + [2] * 65536)

    def test_very_long_matches(self):
        for size in SIZES:
            self.wrong(-5, framed(packed([0x1F, 1, 1, 0] + [255] * 60000 + [0, 0x10, 1]), size=size))
            self.wrong(-5, framed(packed([0xF0] + [255] * 60000 + [0]), size=size))


class TextTooLong(Unpacked):
    def sixteen(self):
        """Sixteen blocks with just 1048576 bytes of text."""
        return [packed(run(k, 65536)) for k in range(16)]

    def test_just_as_long_as_it_may_be(self):
        for flags in (ALONE, LINKED):
            self.assertEqual(unpack(LONGEST_TEXT - 1, framed(*self.sixteen(), flags=flags)), [-7])
            self.assertEqual(unpack(0, framed(*self.sixteen(), own([]), packed([0]), flags=flags)), [-7])
            self.assertEqual(unpack(0, framed(packed(run(3, LONGEST_TEXT)), flags=flags, size=0x60)), [-7])
            self.assertEqual(unpack(0, framed(packed(run(3, LONGEST_TEXT)), flags=flags, size=0x70)), [-7])

    def test_one_byte_more(self):
        for flags in (ALONE, LINKED):
            self.wrong(-6, framed(*self.sixteen(), own([1]), flags=flags))
            self.wrong(-6, framed(*self.sixteen(), packed([0x10, 1]), flags=flags))
            self.wrong(-6, framed(own([1]), *self.sixteen(), flags=flags))
            self.wrong(-6, framed(*self.sixteen(), packed(run(9, 65536)), flags=flags))

    def test_by_larger_blocks(self):
        self.wrong(-6, framed(*[packed(run(3, 2 ** 18))] * 4, own([1]), size=0x50))
        self.wrong(-6, framed(*[packed(run(3, 2 ** 18))] * 5, size=0x50))
        self.wrong(-6, framed(own([1]), packed(run(3, LONGEST_TEXT)), size=0x60))
        self.wrong(-6, framed(packed(run(3, LONGEST_TEXT + 1)), size=0x70))
        self.wrong(-6, framed(packed(run(3, 2 ** 22)), size=0x70))

    def test_by_blocks_that_stand_for_themselves_alone(self):
        self.wrong(-6, framed(*[own([3] * 65536)] * 16, own([1])))
        self.assertEqual(unpack(0, framed(*[own([3] * 65536)] * 16)), [-7])

    def test_what_comes_behind_is_not_read(self):
        self.wrong(-6, head() + sum(self.sixteen(), []) + own([1]))
        self.wrong(-6, head() + sum(self.sixteen(), []) + own([1]) + own([1] * 65537))
        self.wrong(-6, framed(*self.sixteen(), own([1]), packed([0x10])))

    def test_in_a_block_wrong_parts_come_first(self):
        long = [0x1F, 1, 1, 0] + [255] * 5000 + [0]
        self.wrong(-6, framed(packed(long + [0]), size=0x70))
        for fault in ([], [0x10], [0xF0], [0x00, 0, 0, 0], [0x00, 1], [0x0F, 1, 0], [0x0F, 1, 0, 255]):
            self.wrong(-5, framed(packed(long + fault), size=0x70))
        self.wrong(-5, framed(*self.sixteen(), packed(run(1, 65537))))
        self.wrong(-5, framed(*self.sixteen(), packed([0x50, 1, 2])))
        self.wrong(-5, framed(*self.sixteen(), packed([0x10, 1, 0, 0, 0])))


class WrongLength(Unpacked):
    def test_less_and_more(self):
        for told in (0, 1, 2, 4, 5, 255, 256, 65539, 2 ** 24 + 3, 2 ** 32 - 1, 2 ** 32, 2 ** 32 + 3, 2 ** 40 + 3,
                     2 ** 48 + 3, 2 ** 56 + 3, 2 ** 63 + 3, 2 ** 64 - 1):
            for flags in (ALONE, LINKED):
                self.wrong(-9, head(flags | LENGTH, length=told) + own(TEXT) + END, told)

    def test_the_very_length(self):
        for count in (0, 3, 255, 256, 70000):
            blocks = [own([])] if count == 0 else [packed(run(5, count))] if count > 5 else [own([5] * count)]
            frame = head(ALONE | LENGTH, 0x50, count) + sum(blocks, []) + END
            self.assertEqual(unpack(MOST, frame), [count] + [5] * count)

    def test_of_the_empty_text(self):
        self.wrong(-9, head(ALONE | LENGTH, length=1) + END)
        self.wrong(-9, head(ALONE | LENGTH, length=2 ** 32) + END)


if __name__ == "__main__":
    unittest.main()
