import itertools
import random
import unittest

from document import MOST, few_letters, no_match, unpack_by_the_document, written, xxhash
from handmade import (ALONE, BLOCK_SUMS, END, FIRST_FOUR, LENGTH, LINKED, LONGEST_TEXT, TEXT_SUM, framed, head, own,
                      packed, run, spoiled, sum_bytes)
from shorttexts.blocks import pack, unpack

TEXT = [1, 2, 3]


def with_faults_at_the_end(faults):
    """A frame with all that the end can be wrong in, and how much of its text is asked for."""
    length = 4 if -9 in faults else 3
    frame = head(ALONE | LENGTH | TEXT_SUM, length=length) + own(TEXT) + END
    frame += spoiled(sum_bytes(TEXT)) if -3 in faults else sum_bytes(TEXT)
    frame += [0] if -4 in faults else []
    return (2 if -7 in faults else 3), frame


class AtTheEnd(unittest.TestCase):
    def test_each_by_itself_and_none(self):
        self.assertEqual(unpack(*with_faults_at_the_end([])), [3] + TEXT)
        for fault in (-4, -3, -9, -7):
            self.assertEqual(unpack(*with_faults_at_the_end([fault])), [fault])

    def test_each_pair_and_more(self):
        order = (-4, -3, -9, -7)
        for count in (2, 3, 4):
            for faults in itertools.combinations(order, count):
                self.assertEqual(unpack(*with_faults_at_the_end(faults)), [faults[0]], faults)

    def test_a_sum_cut_short_comes_before_length_and_most(self):
        frame = head(ALONE | LENGTH | TEXT_SUM, length=4) + own(TEXT) + END + spoiled(sum_bytes(TEXT))[:3]
        self.assertEqual(unpack(2, frame), [-4])

    def test_no_end_comes_before_length_and_most(self):
        self.assertEqual(unpack(2, head(ALONE | LENGTH, length=4) + own(TEXT)), [-4])


class AsItIsRead(unittest.TestCase):
    def wrong(self, number, frame):
        self.assertEqual(unpack(MOST, frame), [number])

    def test_the_head_before_the_blocks(self):
        bad_block = packed([0x10])
        self.wrong(-1, [4, 34, 77, 25] + head()[4:] + bad_block + END)
        self.wrong(-2, head(0x61) + bad_block + END)
        self.wrong(-3, spoiled(head(), 6) + bad_block + END)

    def test_few_bytes_come_before_the_flags(self):
        self.wrong(-1, FIRST_FOUR + [0xFF, 0xFF])
        self.wrong(-2, FIRST_FOUR + [0xFF, 0xFF, 0xFF])

    def test_a_block_s_sum_before_its_parts(self):
        for block in ([0x10], [0x10, 1, 0, 0, 0], [0x10, 1, 2, 0, 0], run(1, 65537)):
            self.wrong(-3, head(ALONE | BLOCK_SUMS) + packed(block) + spoiled(sum_bytes(block)) + END)
            self.wrong(-5, head(ALONE | BLOCK_SUMS) + packed(block) + sum_bytes(block) + END)

    def test_a_block_s_sum_cut_short_before_its_parts(self):
        self.wrong(-4, head(ALONE | BLOCK_SUMS) + packed([0x10]) + sum_bytes([0x10])[:3])

    def test_a_block_s_sum_before_a_text_too_long(self):
        block = run(1, LONGEST_TEXT + 1)
        self.wrong(-3, head(ALONE | BLOCK_SUMS, 0x70) + packed(block) + spoiled(sum_bytes(block)) + END)
        self.wrong(-6, head(ALONE | BLOCK_SUMS, 0x70) + packed(block) + sum_bytes(block) + END)

    def test_the_first_wrong_block_is_told(self):
        parts, long, spoiled_sum = [0x10], own([1] * 65537) + sum_bytes([1] * 65537), own([7]) + [0, 0, 0, 0]
        parts = packed(parts) + sum_bytes(parts)
        too_much = sum([packed(run(k, 65536)) + sum_bytes(run(k, 65536)) for k in range(16)], []) \
            + own([1]) + sum_bytes([1])
        faults = {-5: parts, -4: long, -3: spoiled_sum, -6: too_much}
        for first, second in itertools.permutations(faults, 2):
            self.wrong(first, head(ALONE | BLOCK_SUMS) + faults[first] + faults[second] + END)

    def test_a_wrong_block_before_the_end(self):
        for number, block in ((-5, packed([0x10])), (-4, own([1] * 65537))):
            frame = head(ALONE | LENGTH | TEXT_SUM, length=99) + block
            for behind in ([], END, END + [1], END + sum_bytes([]), END + sum_bytes([]) + [1]):
                self.wrong(number, frame + behind)


def some_frames():
    short = [pack(flags, MOST, text)[1:] for flags in range(16)
             for text in ([], [7, 8], [5] * 20, few_letters(60, 2, flags), no_match(40))]
    linked = framed(own([1, 2, 3, 4, 5, 6]), packed([0x13, 9, 4, 0, 0x10, 7]), packed([0x0F, 8, 0, 7, 0x20, 7, 8]),
                    flags=LINKED)
    long = framed(*[packed(run(k, 65536)) for k in range(16)], packed([0x10, 1, 1, 0, 0]))
    return short + [linked] * 20 + [long, framed(packed(run(3, LONGEST_TEXT + 9)), size=0x70)]


def changed(chance, frame):
    frame = list(frame)
    for _ in range(chance.choice((1, 1, 1, 2, 3))):
        if not frame:
            break
        place = chance.randrange(len(frame))
        kind = chance.randrange(5)
        if kind == 0:
            frame[place] = chance.choice((0, 1, 2, 15, 16, 240, 255, chance.randrange(256)))
        elif kind == 1:
            frame[place] ^= 1 << chance.randrange(8)
        elif kind == 2:
            frame = frame[:place]
        elif kind == 3:
            frame.insert(place, chance.randrange(256))
        else:
            del frame[place]
    return frame


def with_right_head_sum(frame):
    """Changes behind the head are seen only where the head's sum is right."""
    end = 14 if len(frame) > 4 and frame[4] & LENGTH else 6
    if len(frame) > end:
        frame[end] = xxhash(frame[4:end]) >> 8 & 255
    return frame


class AsByTheDocument(unittest.TestCase):
    def test_frames_with_changes(self):
        chance = random.Random(5)
        seen = {}
        frames = some_frames()
        for count in range(15000):
            frame = changed(chance, frames[count % len(frames)])
            if chance.random() < 0.7:
                frame = with_right_head_sum(frame)
            most = chance.choice((MOST, MOST, MOST, 40, 3, 0, -1))
            answer = unpack(most, frame)
            self.assertEqual(answer, unpack_by_the_document(most, frame), (most, frame))
            seen[min(answer[0], 0)] = seen.get(min(answer[0], 0), 0) + 1
        self.assertEqual(sorted(seen), list(range(-9, 1)), seen)

    def test_any_bytes_as_a_block(self):
        chance = random.Random(6)
        for count in range(20000):
            block = [chance.choice((0, 1, 2, 3, 16, 17, 31, 32, 240, 255)) for _ in range(chance.randrange(1, 14))]
            frame = framed(own([1, 2, 3]), packed(block), flags=chance.choice((ALONE, LINKED)))
            self.assertEqual(unpack(MOST, frame), unpack_by_the_document(MOST, frame), frame)

    def test_any_parts_as_blocks(self):
        chance = random.Random(7)
        for count in range(500):
            blocks = []
            for _ in range(chance.randrange(1, 5)):
                parts = [(few_letters(chance.choice((0, 1, 2, 14, 15, 16, 300)), 256, chance.randrange(999)),
                          chance.choice((1, 2, 3, 4, 17, 300)), chance.choice((4, 5, 18, 19, 20, 273, 274, 3000)))
                         for _ in range(chance.randrange(4))]
                blocks.append(packed(written(parts + [([1, 2, 3], None, None)])))
            frame = framed(*blocks, flags=chance.choice((ALONE, LINKED)))
            self.assertEqual(unpack(MOST, frame), unpack_by_the_document(MOST, frame), frame)


if __name__ == "__main__":
    unittest.main()
