import unittest

from document import MOST, SIXTEEN, few_letters, no_match, written
from handmade import (ALONE, BLOCK_SUMS, END, FIRST_FOUR, LENGTH, LINKED, SIZES, TEXT_SUM, framed, head, own, packed,
                      run, sum_bytes)
from shorttexts.blocks import pack, unpack

# Frames that the tool lz4 made of this text.
SENTENCE = b"The quick brown fox jumps over the quick brown dog, and the quick brown cat. " * 3 + b"!" * 40
PARTS_OF_LZ4 = ("43000000fb1154686520717569636b2062726f776e20666f78206a756d7073206f76657220741f008d646f672c20616e6419005f"
                "6361742e204d00871f2101000f502121212121")
FRAMES_OF_LZ4 = (
    "04224d187c400f0100000000000099" + PARTS_OF_LZ4 + "62bd740b" + "00000000" + "f979c7fd",
    "04224d18604082" + PARTS_OF_LZ4 + "00000000",
    "04224d187440bd" + PARTS_OF_LZ4 + "62bd740b" + "00000000" + "f979c7fd",
    "04224d186440a7" + PARTS_OF_LZ4 + "00000000" + "f979c7fd",
    "04224d186c400f0100000000000062" + PARTS_OF_LZ4 + "00000000" + "f979c7fd",
)


def good(text):
    return [len(text)] + list(text)


class WhatPackGives(unittest.TestCase):
    def comes_back(self, text, flags_tried=SIXTEEN):
        for flags in flags_tried:
            frame = pack(flags, MOST, text)[1:]
            self.assertEqual(unpack(MOST, frame), good(text), flags)

    def test_the_empty_text(self):
        self.comes_back([])
        self.assertEqual(unpack(0, pack(0, MOST, [])[1:]), [0])

    def test_short_texts(self):
        for length in range(1, 40):
            self.comes_back([7] * length)
            self.comes_back(list(range(length)))

    def test_many_matches(self):
        for letters in (1, 2, 3, 5, 16):
            self.comes_back(few_letters(3000, letters, letters))

    def test_no_match(self):
        self.comes_back(no_match(5000))

    def test_more_than_one_block(self):
        for length in (65535, 65536, 65537, 70000):
            self.comes_back([9] * length)
        self.comes_back(few_letters(66000, 256) + few_letters(2000, 2))
        self.comes_back(no_match(30000) * 3)
        self.comes_back(few_letters(80000, 4), (0, 7, 8, 15))

    def test_the_longest(self):
        for text in ([0] * 116000, [1, 2, 3] * 38000, few_letters(30000, 256) + no_match(20000) * 2):
            self.comes_back(text, (3, 15))


class GoodFrames(unittest.TestCase):
    def test_frames_of_another_tool(self):
        for told in FRAMES_OF_LZ4:
            self.assertEqual(unpack(MOST, list(bytes.fromhex(told))), good(SENTENCE))

    def test_byte_by_byte(self):
        frame = FIRST_FOUR + [0x60, 0x40, 0x82, 10, 0, 0, 0, 0x13, 97, 1, 0, 0x50, 97, 97, 97, 97, 97, 0, 0, 0, 0]
        self.assertEqual(unpack(MOST, frame), good([97] * 13))
        frame = FIRST_FOUR + [0x5C, 0x40, 13, 0, 0, 0, 0, 0, 0, 0, 0x71]
        frame += [10, 0, 0, 0, 0x13, 97, 1, 0, 0x50, 97, 97, 97, 97, 97, 0x63, 0x68, 0x80, 0xB5]
        frame += [0, 0, 0, 0, 0x1D, 0x27, 0xF3, 0xBE]
        self.assertEqual(unpack(MOST, frame), good([97] * 13))

    def test_all_block_sizes(self):
        for size, most in SIZES.items():
            for flags in (ALONE, LINKED):
                self.assertEqual(unpack(MOST, framed(flags=flags, size=size)), [0])
                self.assertEqual(unpack(MOST, framed(own([1, 2]), flags=flags, size=size)), good([1, 2]))
                count = min(most, 900000)
                frame = framed(packed(run(3, count)), flags=flags, size=size)
                self.assertEqual(unpack(MOST, frame), good([3] * count))

    def test_a_block_just_as_long_as_it_may_be(self):
        text = few_letters(65536, 256)
        self.assertEqual(unpack(MOST, framed(own(text))), good(text))
        block = written([(text[:65279], None, None)])
        self.assertEqual(len(block), 65536)
        self.assertEqual(unpack(MOST, framed(packed(block))), good(text[:65279]))

    def test_larger_blocks_than_the_interface_hands_in(self):
        for size, most in ((0x50, 2 ** 18), (0x60, 2 ** 20)):
            self.assertEqual(unpack(MOST, framed(own([7] * most), size=size)), good([7] * most))

    def test_a_block_with_no_bytes_that_stands_for_itself(self):
        for flags in (ALONE, LINKED):
            for size in SIZES:
                self.assertEqual(unpack(MOST, framed(own([]), flags=flags, size=size)), [0])
        self.assertEqual(unpack(MOST, framed(own([]), own([4]), own([]), own([5, 6]), own([]))), good([4, 5, 6]))
        frame = head(ALONE | BLOCK_SUMS) + own([]) + [0x05, 0x5D, 0xCC, 0x02] + END
        self.assertEqual(unpack(MOST, frame), [0])

    def test_a_block_of_parts_without_text(self):
        self.assertEqual(unpack(MOST, framed(packed([0]))), [0])
        self.assertEqual(unpack(MOST, framed(packed([0]), own([8]), packed([0]))), good([8]))

    def test_what_the_last_part_s_low_half_says_does_not_matter(self):
        for low in range(16):
            self.assertEqual(unpack(MOST, framed(packed([0x20 + low, 7, 8]))), good([7, 8]))

    def test_a_match_need_not_leave_five_bytes(self):
        self.assertEqual(unpack(MOST, framed(packed([0x10, 6, 1, 0, 0]))), good([6] * 5))
        self.assertEqual(unpack(MOST, framed(packed([0x20, 6, 7, 2, 0, 0x10, 8]))), good([6, 7] * 3 + [8]))

    def test_linked_blocks_reach_into_the_text_before(self):
        begin = [1, 2, 3, 4, 5, 6]
        match = packed([0x01, 6, 0, 0x10, 9])
        self.assertEqual(unpack(MOST, framed(own(begin), match, flags=LINKED)), good(begin + begin[:5] + [9]))
        first = packed(written([(begin, None, None)]))
        self.assertEqual(unpack(MOST, framed(first, match, flags=LINKED)), good(begin + begin[:5] + [9]))
        self.assertEqual(unpack(MOST, framed(own(begin[:3]), own(begin[3:]), match, flags=LINKED)),
                         good(begin + begin[:5] + [9]))

    def test_linked_blocks_reach_65535_back(self):
        text = few_letters(65536, 256)
        match = packed([0x00, 255, 255, 0])
        self.assertEqual(unpack(MOST, framed(own(text), match, flags=LINKED)), good(text + text[1:5]))
        half = text[:50000]
        self.assertEqual(unpack(MOST, framed(own(half), own(half), match, flags=LINKED)),
                         good(half * 2 + half[34465:34469]))

    def test_a_linked_match_goes_on_into_its_own_block(self):
        frame = framed(own([1, 2, 3]), packed([0x03, 3, 0, 0x10, 4]), flags=LINKED)
        self.assertEqual(unpack(MOST, frame), good([1, 2, 3] * 3 + [1] + [4]))

    def test_each_of_the_flags(self):
        text = [5] * 20 + [6]
        block = [0x1B, 5, 1, 0, 0x50, 5, 5, 5, 5, 6]
        for flags in range(LINKED, 0x80, 4):
            frame = head(flags, length=21 if flags & LENGTH else None)
            frame += packed(block) + (sum_bytes(block) if flags & BLOCK_SUMS else []) + END
            frame += sum_bytes(text) if flags & TEXT_SUM else []
            self.assertEqual(unpack(MOST, frame), good(text), flags)


class Matches(unittest.TestCase):
    def unpacked(self, block):
        alone = unpack(MOST, framed(packed(block)))
        self.assertEqual(alone, unpack(MOST, framed(packed(block), flags=LINKED)))
        return alone

    def test_into_themselves_and_not(self):
        begin = [1, 2, 3, 4, 5, 6, 7, 8]
        for back in range(1, 9):
            for length in range(4, 30):
                text = list(begin)
                for _ in range(length):
                    text.append(text[-back])
                block = written([(begin, back, length), ([9], None, None)])
                self.assertEqual(self.unpacked(block), good(text + [9]), (back, length))

    def test_halves_of_matches(self):
        for low, more, length in ((0, [], 4), (14, [], 18), (15, [0], 19), (15, [1], 20), (15, [254], 273),
                                  (15, [255, 0], 274), (15, [255, 1], 275), (15, [255, 255, 255, 7], 791)):
            block = [0x20 + low, 3, 4, 2, 0] + more + [0x10, 5]
            self.assertEqual(self.unpacked(block), good([3, 4] + ([3, 4] * 400)[:length] + [5]), length)

    def test_halves_of_bytes_that_stand_for_themselves(self):
        for high, more, count in ((0, [], 0), (1, [], 1), (14, [], 14), (15, [0], 15), (15, [1], 16), (15, [254], 269),
                                  (15, [255, 0], 270), (15, [255, 1], 271), (15, [255, 255, 255, 7], 787)):
            text = few_letters(count, 256)
            self.assertEqual(self.unpacked([high * 16] + more + text), good(text), count)
            if count > 0:
                block = [high * 16 + 15] + more + text + [1, 0, 2, 0x10, 77]
                self.assertEqual(self.unpacked(block), good(text + text[-1:] * 21 + [77]), count)

    def test_how_far_back_has_the_low_byte_first(self):
        text = few_letters(1000, 256)
        block = written([(text, 0x0203, 4), ([1], None, None)])
        self.assertEqual(block[-4:], [3, 2, 0x10, 1])
        self.assertEqual(self.unpacked(block), good(text + text[1000 - 0x203:][:4] + [1]))


if __name__ == "__main__":
    unittest.main()
