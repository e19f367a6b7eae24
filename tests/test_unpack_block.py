import random
import unittest

from document import MOST, few_letters, no_match, unpack_block_by_the_document, written
from handmade import LONGEST_TEXT, framed, packed, run
from shorttexts.blocks import pack_block, unpack, unpack_block

LOWEST = -2147483648

# A block with each thing that a part can have: 1 byte and a match of 277, carried on by two bytes;
# 19 bytes, carried on by one, and a match of 28; 3 bytes at the end.
ALL_SORTS = [0x1F, 5, 1, 0, 255, 3, 0xFF, 4] + [6] * 18 + [7] + [2, 0, 9, 0x30, 8, 9, 10]
ALL_SORTS_TEXT = [5] * 278 + [6] * 18 + [7] + [6, 7] * 14 + [8, 9, 10]


def good(text):
    return [len(text)] + list(text)


class Blocks(unittest.TestCase):
    def right(self, block, text, told=None):
        self.assertEqual(unpack_block(MOST, block), good(text), told)

    def wrong(self, block, told=None):
        self.assertEqual(unpack_block(MOST, block), [-5], told)


class Refusals(Blocks):
    def test_most_below_zero_comes_before_all_else(self):
        for block in ([], [0], [0x10], [0x20, 1, 2], ALL_SORTS, run(1, LONGEST_TEXT + 1), [0x10, 1, 0, 0, 0]):
            for most in (-1, -2, -5, -7, LOWEST):
                self.assertEqual(unpack_block(most, block), [-8])

    def test_wrong_parts_come_before_too_long(self):
        for block in ([], [0x10], [0x10, 1, 0, 0, 0x50, 1, 2, 3, 4, 5], ALL_SORTS[:-1], ALL_SORTS[:6],
                      run(1, LONGEST_TEXT + 1)):
            for most in (0, 1, 2, 100):
                self.assertEqual(unpack_block(most, block), [-5])

    def test_one_byte_more_than_most(self):
        for block, text in (([0x10, 4], [4]), (ALL_SORTS, ALL_SORTS_TEXT), (run(3, 70000), [3] * 70000)):
            self.assertEqual(unpack_block(len(text) - 1, block), [-7])
            self.assertEqual(unpack_block(0, block), [-7])
            self.assertEqual(unpack_block(len(text), block), good(text))
            self.assertEqual(unpack_block(len(text) + 1, block), good(text))

    def test_the_empty_text_fits_into_nothing(self):
        self.assertEqual(unpack_block(0, [0]), [0])


class WrongParts(Blocks):
    def test_no_part_at_all(self):
        self.wrong([])

    def test_every_place_at_which_a_part_is_cut_short(self):
        self.right(ALL_SORTS, ALL_SORTS_TEXT)
        # Where a block ends behind a part's bytes this is its last part.
        ends = {2: 1, 27: 297}
        for length in range(len(ALL_SORTS)):
            if length in ends:
                self.right(ALL_SORTS[:length], ALL_SORTS_TEXT[:ends[length]], length)
            else:
                self.wrong(ALL_SORTS[:length], length)

    def test_what_carries_the_first_half_on(self):
        for block in ([0xF0], [0xFF], [0xF0, 255], [0xF0, 255, 255], [0xF0] + [255] * 1000):
            self.wrong(block)

    def test_the_bytes(self):
        for count in range(1, 15):
            for there in range(count):
                self.wrong([16 * count] + [1] * there, (count, there))
        self.wrong([0xF0, 0] + [1] * 14)
        self.wrong([0xF0, 0])
        self.wrong([0xF0, 255, 0] + [1] * 269)

    def test_the_two_bytes(self):
        self.wrong([0x10, 1, 1])
        self.wrong([0x1F, 1, 1])
        self.wrong([0x00, 1])

    def test_what_carries_the_second_half_on(self):
        for more in ([], [255], [255, 255], [255] * 1000):
            self.wrong([0x1F, 1, 1, 0] + more)

    def test_the_end_behind_a_match(self):
        for block in ([0x10, 1, 1, 0], [0x1F, 1, 1, 0, 3], [0x1F, 1, 1, 0, 255, 0], [0x10, 1, 1, 0, 0x00, 1, 0]):
            self.wrong(block)
            self.assertGreater(unpack_block(MOST, block + [0])[0], 0)

    def test_back_by_nothing(self):
        self.wrong([0x10, 1, 0, 0, 0])
        self.wrong([0x00, 0, 0, 0])
        self.wrong([0x1F, 1, 0, 0, 7, 0])
        self.wrong([0x10, 1, 1, 0, 0x00, 0, 0, 0])

    def test_before_the_text_s_beginning(self):
        for count in range(6):
            for back in range(1, 9):
                block = [16 * count] + list(range(count)) + [back, 0, 0x10, 9]
                if back > count:
                    self.wrong(block, (count, back))
                else:
                    self.assertEqual(unpack_block(MOST, block)[0], count + 5)
        self.wrong([0x10, 1, 0, 1, 0])
        self.wrong([0x10, 1, 255, 255, 0])
        self.wrong([0x10, 1, 1, 0, 0x00, 6, 0, 0])
        self.right([0x10, 1, 1, 0, 0x00, 5, 0, 0], [1] * 9)

    def test_just_back_to_the_beginning_far_away(self):
        text = few_letters(65535, 256)
        for back, count in ((65535, 65535), (65535, 65534), (256, 256), (256, 255)):
            block = written([(text[:count], back, 4), ([], None, None)])
            if back == count:
                self.right(block, text[:count] + text[:4])
            else:
                self.wrong(block)


class TooMuchText(Blocks):
    def test_just_as_much_as_there_may_be(self):
        for block in (run(1, LONGEST_TEXT), written([([1], 1, LONGEST_TEXT - 1), ([], None, None)])):
            for most in (LONGEST_TEXT - 1, 900000, 0):
                self.assertEqual(unpack_block(most, block), [-7])

    def test_by_a_match(self):
        self.wrong(written([([1], 1, LONGEST_TEXT), ([], None, None)]))
        self.wrong(written([([1], 1, LONGEST_TEXT - 5), ([], 1, 5), ([], None, None)]))
        self.assertEqual(unpack_block(0, written([([1], 1, LONGEST_TEXT - 5), ([], 1, 4), ([], None, None)])), [-7])
        self.wrong(run(1, 2 * LONGEST_TEXT))
        self.wrong([0x1F, 1, 1, 0] + [255] * 110000 + [0, 0])

    def test_by_many_matches(self):
        self.wrong([0x1F, 1, 1, 0, 254] + [0x0F, 1, 0, 254] * 28000 + [0])

    def test_by_bytes_that_stand_for_themselves_behind_matches(self):
        self.wrong(run(1, LONGEST_TEXT + 1))
        self.wrong(written([([1], 1, LONGEST_TEXT - 1), ([2], None, None)]))
        self.wrong(written([([1], 1, LONGEST_TEXT - 2), ([2, 3], None, None)]))
        self.wrong(written([([1], 1, LONGEST_TEXT - 301), (no_match(301), None, None)]))
        self.assertEqual(unpack_block(0, written([([1], 1, LONGEST_TEXT - 301), (no_match(300), None, None)])), [-7])

    def test_by_bytes_ahead_of_a_match(self):
        self.wrong(written([([1], 1, LONGEST_TEXT - 1), ([2], 1, 4), ([], None, None)]))


class GoodBlocks(Blocks):
    def test_the_empty_text(self):
        self.right([0], [])

    def test_matches_into_themselves_and_not(self):
        begin = [1, 2, 3, 4, 5, 6, 7, 8]
        for back in range(1, 9):
            for length in list(range(4, 30)) + [300, 1000]:
                text = list(begin)
                for _ in range(length):
                    text.append(text[-back])
                self.right(written([(begin, back, length), ([9], None, None)]), text + [9], (back, length))

    def test_one_two_and_three_back_by_hand(self):
        self.right([0x33, 1, 2, 3, 1, 0, 0x10, 9], [1, 2, 3] + [3] * 7 + [9])
        self.right([0x33, 1, 2, 3, 2, 0, 0x10, 9], [1, 2, 3] + [2, 3, 2, 3, 2, 3, 2] + [9])
        self.right([0x33, 1, 2, 3, 3, 0, 0x10, 9], [1, 2, 3] + [1, 2, 3, 1, 2, 3, 1] + [9])
        self.right([0x50, 1, 2, 3, 4, 5, 5, 0, 0x10, 9], [1, 2, 3, 4, 5] + [1, 2, 3, 4] + [9])

    def test_halves_of_matches(self):
        for low, more, length in [(low, [], low + 4) for low in range(15)] + [
                (15, [0], 19), (15, [1], 20), (15, [254], 273), (15, [255, 0], 274), (15, [255, 1], 275),
                (15, [255, 255, 255, 7], 791), (15, [255] * 100 + [0], 25519)]:
            self.right([0x20 + low, 3, 4, 2, 0] + more + [0x10, 5], [3, 4] + ([3, 4] * length)[:length] + [5], length)

    def test_halves_of_bytes_that_stand_for_themselves(self):
        for high, more, count in [(high, [], high) for high in range(15)] + [
                (15, [0], 15), (15, [1], 16), (15, [254], 269), (15, [255, 0], 270), (15, [255, 1], 271),
                (15, [255, 255, 255, 7], 787), (15, [255] * 100 + [0], 25515)]:
            text = few_letters(count, 256)
            self.right([high * 16] + more + text, text, count)
            if count > 0:
                self.right([high * 16 + 15] + more + text + [1, 0, 2, 0x10, 77], text + text[-1:] * 21 + [77], count)

    def test_how_far_back_has_the_low_byte_first(self):
        text = few_letters(1000, 256)
        self.right([0xF0, 255, 255, 255, 220] + text + [3, 2, 0x10, 1], text + text[1000 - 0x203:][:4] + [1])

    def test_the_last_part_s_low_half_does_not_matter(self):
        for low in range(16):
            self.right([0x20 + low, 7, 8], [7, 8])
            self.right([low], [])

    def test_a_match_need_not_leave_five_bytes(self):
        self.right([0x10, 6, 1, 0, 0], [6] * 5)

    def test_more_text_than_a_frame_s_block_may_have(self):
        self.right(run(8, 900000), [8] * 900000)


class WhatPackBlockGives(Blocks):
    def comes_back(self, text):
        self.right(pack_block(MOST, text)[1:], text)

    def test_short_texts(self):
        for length in range(40):
            self.comes_back([7] * length)
            self.comes_back(list(range(length)))

    def test_few_letters(self):
        for seed in range(60):
            for letters in (1, 2, 3, 16, 256):
                self.comes_back(few_letters(seed * 11, letters, seed))

    def test_long_texts(self):
        for text in ([0] * 116000, few_letters(116000, 3), few_letters(115000, 256), no_match(30000) * 3,
                     few_letters(20000, 256) * 5):
            self.comes_back(text)


class AsByTheDocument(Blocks):
    def test_any_bytes(self):
        chance = random.Random(8)
        seen = {}
        for _ in range(30000):
            block = [chance.choice((0, 1, 2, 3, 16, 17, 31, 32, 47, 240, 255)) for _ in range(chance.randrange(14))]
            most = chance.choice((MOST, MOST, MOST, 20, 3, 0, -1))
            answer = unpack_block(most, block)
            self.assertEqual(answer, unpack_block_by_the_document(most, block), (most, block))
            seen[min(answer[0], 0)] = True
        self.assertEqual(sorted(seen), [-8, -7, -5, 0])

    def test_any_parts(self):
        chance = random.Random(9)
        for _ in range(2000):
            parts = [(few_letters(chance.choice((0, 1, 2, 14, 15, 16, 300)), 256, chance.randrange(999)),
                      chance.choice((1, 2, 3, 4, 17, 300)), chance.choice((4, 5, 18, 19, 20, 273, 274, 3000)))
                     for _ in range(chance.randrange(5))]
            block = written(parts + [([1, 2, 3][:chance.randrange(4)], None, None)])
            self.assertEqual(unpack_block(MOST, block), unpack_block_by_the_document(MOST, block), block)

    def test_as_in_a_frame(self):
        for block in (ALL_SORTS, ALL_SORTS[:-1], [0x10], run(1, 60000)):
            self.assertEqual(unpack_block(MOST, block), unpack(MOST, framed(packed(block))))


if __name__ == "__main__":
    unittest.main()
