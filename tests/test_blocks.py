import unittest

from document import (MARK, MOST, SIXTEEN, TAIL, blocks_of, few_letters, frame_by_the_document, marked_twice, no_match,
                      parts_of, put_mark, text_of)
from shorttexts.blocks import pack

BLOCK = 65536
LONGEST = 116000
ALONE = 0
LINKED = 8


def packed_blocks(flags, text):
    return blocks_of(flags, pack(flags, MOST, text)[1:])


class Sizes(unittest.TestCase):
    def test_a_block_for_each_65536_bytes(self):
        for length, lengths in ((1, [1]), (65535, [65535]), (65536, [65536]), (65537, [65536, 1]),
                                (LONGEST, [65536, 50464])):
            text = few_letters(length, 256)
            for flags in (0, 7, 8, 15):
                blocks = packed_blocks(flags, text)
                self.assertEqual([len(block) for alone, block in blocks], lengths)
                self.assertTrue(all(alone for alone, block in blocks))
                self.assertEqual(text_of(flags, pack(flags, MOST, text)[1:]), text)

    def test_lengths_around_a_block_as_by_the_document(self):
        whole = few_letters(3000, 4) + no_match(30000) + few_letters(32000, 256) + few_letters(2000, 3)
        for length in (65535, 65536, 65537, 65547, 65548, 65549, 66000):
            text = whole[:length]
            for flags in SIXTEEN if length == 65537 else (ALONE, LINKED):
                self.assertEqual(pack(flags, MOST, text)[1:], frame_by_the_document(flags, text), (length, flags))

    def test_the_longest_text_as_by_the_document(self):
        text = few_letters(3000, 256) + few_letters(LONGEST - 3000, 16, 5)
        for flags in (0, 15):
            self.assertEqual(pack(flags, MOST, text)[1:], frame_by_the_document(flags, text))

    def test_long_runs_as_by_the_document(self):
        text = [0] * 300 + [1] + [0] * 200 + [2] + [0] * 400 + [3] + [0] * 350 + [4] + [0] * 99 + [5] + [0] * 120
        text = text * 2 + no_match(100) * 5 + text[3:700] + no_match(90) + [0] * 333
        for length in range(len(text) - 40, len(text)):
            self.assertEqual(pack(0, MOST, text[:length])[1:], frame_by_the_document(0, text[:length]))

    def test_many_short_matches_as_by_the_document(self):
        text = few_letters(70000, 3, 9)
        for flags in (ALONE, LINKED):
            self.assertEqual(pack(flags, MOST, text)[1:], frame_by_the_document(flags, text))

    def test_long_texts_come_back(self):
        for text in ([1, 2, 3, 4, 5] * 23200, few_letters(LONGEST, 2), no_match(30000) * 3):
            for flags in (0, 15):
                self.assertEqual(text_of(flags, pack(flags, MOST, text)[1:]), text)

    def test_the_second_block_s_length_counts_for_twelve_bytes(self):
        for more, packed in ((11, False), (12, False), (13, True)):
            blocks = packed_blocks(ALONE, [3] * (BLOCK + more))
            self.assertEqual(blocks[1][0], not packed)
        for more, packed in ((11, False), (12, True)):
            blocks = packed_blocks(LINKED, [3] * (BLOCK + more))
            self.assertEqual(blocks[1][0], not packed)
        self.assertEqual(packed_blocks(LINKED, [3] * (BLOCK + 12))[1], (False, [3, 1, 0, 0x50, 3, 3, 3, 3, 3]))


class Reach(unittest.TestCase):
    def test_each_block_up_to_its_own_end(self):
        parts = [parts_of(block) for alone, block in packed_blocks(ALONE, [6] * LONGEST)]
        last = ([6] * 5, None, None)
        self.assertEqual(parts, [[([6], 1, 65530), last], [([6], 1, 50458), last]])
        parts = [parts_of(block) for alone, block in packed_blocks(LINKED, [6] * LONGEST)]
        self.assertEqual(parts, [[([6], 1, 65530), last], [([], 1, 50459), last]])

    def test_not_linked_matches_begin_in_the_block(self):
        text = no_match(30000)
        twice = [0] * (BLOCK - 30000) + text + text
        self.assertEqual(packed_blocks(ALONE, twice)[1], (True, text))
        self.assertEqual(parts_of(packed_blocks(LINKED, twice)[1][1]), [
            ([], 30000, 29995), (text[-5:], None, None)])

    def test_not_linked_the_block_s_first_place_serves(self):
        text = [0] * BLOCK + MARK + [9] * 50 + MARK + TAIL
        parts = parts_of(packed_blocks(ALONE, text)[1][1])
        self.assertEqual(parts, [(MARK + [9], 1, 49), ([], 58, 8), (TAIL, None, None)])

    def test_not_linked_a_match_does_not_begin_one_byte_ahead_of_the_block(self):
        text = [0] * (BLOCK - 1) + MARK + [9] * 50 + MARK + TAIL
        parts = parts_of(packed_blocks(ALONE, text)[1][1])
        self.assertEqual(parts, [(MARK[1:] + [9], 1, 49), ([MARK[0]], 58, 7), (TAIL, None, None)])
        parts = parts_of(packed_blocks(LINKED, text)[1][1])
        self.assertEqual(parts, [(MARK[1:] + [9], 1, 49), ([], 58, 8), (TAIL, None, None)])

    def test_not_linked_from_a_block_s_beginning_to_its_end(self):
        text = MARK + [0] * (BLOCK - 12 - 8) + MARK + TAIL[:4]
        parts = parts_of(packed_blocks(ALONE, text)[0][1])
        self.assertEqual(parts[-2:], [([], 65524, 7), ([104] + TAIL[:4], None, None)])

    def test_65535_back_is_used(self):
        for first in (1, 2, 100, 40000):
            parts = parts_of(packed_blocks(LINKED, marked_twice(first, first + 65535))[1][1])
            self.assertEqual(parts[-2:], [([203] * min(first - 1, 1), 65535, 8), ([204] + TAIL, None, None)], first)

    def test_65536_back_is_not(self):
        for first in (0, 1, 2, 100, 40000):
            text = marked_twice(first, first + 65536) + [0] * 100
            blocks = packed_blocks(LINKED, text)
            own = [bytes(part[0]) for part in parts_of(blocks[1][1])]
            self.assertTrue(any(bytes(MARK) in part for part in own), first)
            self.assertEqual(text_of(LINKED, pack(LINKED, MOST, text)[1:]), text)

    def test_a_longer_match_out_of_reach_gives_way_to_a_shorter_one(self):
        for back, awaited in ((65535, (65535, 8)), (65536, (16000, 6))):
            text = [0] * 90000
            put_mark(text, 70000 - back, MARK, 201, 202)
            put_mark(text, 70000 - 16000, MARK[:6], 203, 204)
            put_mark(text, 70000, MARK, 205, 206)
            parts = parts_of(packed_blocks(LINKED, text)[1][1])
            self.assertEqual(parts[1], ([205],) + awaited)

    def test_linked_from_a_whole_block_before(self):
        text = no_match(30000) + few_letters(35535, 256)
        twice = [250] + text + text[:50464]
        parts = parts_of(packed_blocks(LINKED, twice)[1][1])
        self.assertEqual(parts, [([], 65535, 50459), (twice[-5:], None, None)])
        self.assertTrue(packed_blocks(ALONE, twice)[1][0])
        farther = [250, 251] + text[1:] + text[1:20000]
        self.assertEqual(farther[65536:65540], text[1:5])
        self.assertEqual(parts_of(packed_blocks(LINKED, farther)[1][1])[0][1:], (65534, 19994))
        too_far = few_letters(BLOCK, 256)
        self.assertEqual(packed_blocks(LINKED, too_far + too_far[:20000])[1], (True, too_far[:20000]))

    def test_the_first_block_is_the_same_linked_or_not(self):
        text = few_letters(40000, 5)
        self.assertEqual(packed_blocks(LINKED, text), packed_blocks(ALONE, text))

    def test_linked_behind_a_block_that_stands_for_itself(self):
        text = few_letters(BLOCK, 256)
        blocks = packed_blocks(LINKED, text + text[-1000:])
        self.assertEqual(blocks[0], (True, text))
        self.assertEqual(parts_of(blocks[1][1]), [([], 1000, 995), (text[-5:], None, None)])


class NotShorter(unittest.TestCase):
    def test_a_block_just_as_long_stands_for_itself(self):
        text = list(b"ABCDEFGHABCDijklmnop")
        for flags in SIXTEEN:
            self.assertEqual(packed_blocks(flags, text), [(True, text)])

    def test_a_block_one_byte_shorter_is_packed(self):
        text = list(b"ABCDEFGHABCDEjklmnop")
        block = [0x81] + list(b"ABCDEFGH") + [8, 0, 0x70] + list(b"jklmnop")
        self.assertEqual(len(block), 19)
        for flags in SIXTEEN:
            self.assertEqual(packed_blocks(flags, text), [(False, block)])

    def test_a_block_longer_than_its_text_stands_for_itself(self):
        text = no_match(14) + list(b"ABCDxABCDy") + no_match(20, 100)
        for flags in SIXTEEN:
            self.assertEqual(packed_blocks(flags, text), [(True, text)])

    def test_each_block_is_judged_by_itself(self):
        mixed = few_letters(BLOCK, 256) + [1] * 20000
        self.assertEqual([alone for alone, block in packed_blocks(ALONE, mixed)], [True, False])
        mixed = [1] * BLOCK + few_letters(20000, 256)
        self.assertEqual([alone for alone, block in packed_blocks(LINKED, mixed)], [False, True])


if __name__ == "__main__":
    unittest.main()
