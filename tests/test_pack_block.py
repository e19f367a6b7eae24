import random
import unittest

from document import (MARK, MOST, TAIL, block_by_the_document, block_read, few_letters, marked_twice, no_match, parts_of,
                      put_mark)
from shorttexts.blocks import pack, pack_block

LOWEST = -2147483648
LONGEST = 116000

# How a half of 15 and what carries it on stand for a count.
CARRIED = {
    15: [0], 16: [1], 17: [2], 269: [254], 270: [255, 0], 271: [255, 1], 524: [255, 254], 525: [255, 255, 0],
    526: [255, 255, 1], 780: [255, 255, 255, 0], 2565: [255] * 10 + [0], 20000: [255] * 78 + [95],
}
COUNTS = list(range(1, 15)) + list(CARRIED)


def half(count):
    return (15, CARRIED[count]) if count in CARRIED else (count, [])


def block_of(text):
    answer = pack_block(MOST, list(text))
    assert answer[0] == len(answer) - 1
    return answer[1:]


def parts(text):
    return [(bytes(own), back, length) for own, back, length in parts_of(block_of(text))]


def last(own):
    return (bytes(own), None, None)


class Refusals(unittest.TestCase):
    def test_most_below_zero(self):
        for most in (-1, -2, -7, -8, LOWEST):
            for text in ([], [1, 2, 3], [0] * 500):
                self.assertEqual(pack_block(most, text), [-8])

    def test_one_byte_more_than_most(self):
        for text in ([], [7], [5] * 13, list(range(200)), [0] * 3000, few_letters(500, 3), no_match(300)):
            block = block_by_the_document(text)
            self.assertEqual(pack_block(len(block) - 1, text), [-7])
            self.assertEqual(pack_block(0, text), [-7])
            self.assertEqual(pack_block(len(block), text), [len(block)] + block)
            self.assertEqual(pack_block(len(block) + 1, text), [len(block)] + block)

    def test_the_block_is_measured_and_not_the_text(self):
        self.assertEqual(pack_block(999, [0] * 1000)[0], len(block_by_the_document([0] * 1000)))
        self.assertEqual(pack_block(200, no_match(200)), [-7])

    def test_of_long_texts(self):
        text = [0] * LONGEST
        count = pack_block(MOST, text)[0]
        self.assertEqual(pack_block(count - 1, text), [-7])
        self.assertEqual(pack_block(count, text)[0], count)


class ShortTexts(unittest.TestCase):
    def test_the_empty_text(self):
        self.assertEqual(pack_block(MOST, []), [1, 0])
        self.assertEqual(pack_block(1, []), [1, 0])

    def test_up_to_twelve_bytes_there_is_one_part(self):
        for length in range(1, 13):
            for text in ([9] * length, list(range(length))):
                self.assertEqual(pack_block(MOST, text), [length + 1, 16 * length] + text)

    def test_thirteen_bytes_have_room_for_a_match(self):
        self.assertEqual(pack_block(MOST, [9] * 13), [10, 0x13, 9, 1, 0, 0x50, 9, 9, 9, 9, 9])
        self.assertEqual(pack_block(MOST, list(range(13))), [14, 0xD0] + list(range(13)))

    def test_every_text_of_two_letters_and_a_few_bytes(self):
        for length in (11, 12, 13, 14, 15):
            for number in range(2 ** length):
                text = [number >> k & 1 for k in range(length)]
                self.assertEqual(block_of(text), block_by_the_document(text))

    def test_no_match(self):
        for length in (13, 14):
            self.assertEqual(block_of(no_match(length)), [16 * length] + no_match(length))
        for length in COUNTS:
            high, more = half(length)
            self.assertEqual(block_of(no_match(length)), [16 * high] + more + no_match(length))


class Matches(unittest.TestCase):
    def test_the_longest_is_taken_though_it_is_farther(self):
        self.assertEqual(parts(b"1abcdef2abcd3abcdefghijklmnop"), [
            (b"1abcdef2", 7, 4), (b"3", 12, 6), last(b"ghijklmnop")])

    def test_the_longest_is_taken_between_shorter_ones(self):
        self.assertEqual(parts(b"1abcdeX2abcdefgY3abcdZ4abcdefghijklmnop")[-2:], [
            (b"Z4", 15, 7), last(b"hijklmnop")])

    def test_of_the_same_length_the_nearest(self):
        self.assertEqual(parts(b"1abcdeX2abcdeY3abcdeZ4abcdefghijklmnop"), [
            (b"1abcdeX2", 7, 5), (b"Y3", 7, 5), (b"Z4", 7, 5), last(b"fghijklmnop")])
        self.assertEqual(parts(b"1abcdefX2abcdefY3abcdZ4abcdefghijklmnop")[-2:], [
            (b"Z4", 14, 6), last(b"ghijklmnop")])

    def test_of_the_same_length_by_the_end_the_nearest(self):
        self.assertEqual(parts(b"1abcdefghijklmnop2abcdefg3abcdefghijkl"), [
            (b"1abcdefghijklmnop2", 17, 7), (b"3", 8, 7), last(b"hijkl")])

    def test_a_match_may_reach_into_itself(self):
        for period in range(1, 9):
            text = (list(range(1, 1 + period)) * 100)[:100]
            self.assertEqual(parts(text), [(bytes(text[:period]), period, 95 - period), last(text[95:])])

    def test_up_to_five_bytes_before_the_end_and_no_further(self):
        for length in range(13, 60):
            self.assertEqual(parts([7] * length), [(b"\x07", 1, length - 6), last([7] * 5)])
        once = list(b"abcdefghijklmnop")
        for again in range(12, 17):
            self.assertEqual(parts(once + once[:again]), [
                (bytes(once), 16, again - 5), last(once[again - 5:again])])

    def test_twelve_bytes_left_may_begin_a_match_and_eleven_may_not(self):
        self.assertEqual(parts(b"1abcdefghijklmnop2abcdefghijkl"), [(b"1abcdefghijklmnop2", 17, 7), last(b"hijkl")])
        self.assertEqual(parts(b"1abcdefghijklmnop2abcdefghijk"), [last(b"1abcdefghijklmnop2abcdefghijk")])

    def test_three_bytes_are_no_match_and_four_are(self):
        self.assertEqual(parts(b"1abcX2abcYdefghijklmno"), [last(b"1abcX2abcYdefghijklmno")])
        self.assertEqual(parts(b"1abcdX2abcdYdefghijklmno"), [(b"1abcdX2", 6, 4), last(b"Ydefghijklmno")])

    def test_the_first_place_with_a_match_is_taken(self):
        self.assertEqual(parts(b"1abcdX2bcdefghijkY3abcdefghijklmnopq"), [
            (b"1abcdX2bcdefghijkY3", 18, 4), (b"", 13, 7), last(b"lmnopq")])

    def test_the_very_first_byte_serves(self):
        self.assertEqual(parts(b"abcdX2abcdYdefghijklmno"), [(b"abcdX2", 6, 4), last(b"Ydefghijklmno")])


class Halves(unittest.TestCase):
    def test_bytes_that_stand_for_themselves_before_a_match(self):
        for count in COUNTS:
            own = no_match(count - 1) + [0]
            high, more = half(count)
            self.assertEqual(block_of(own + [0] * 59), [high * 16 + 15] + more + own + [1, 0, 35, 0x50] + [0] * 5, count)

    def test_bytes_of_the_last_part(self):
        for count in [count for count in COUNTS if count >= 5]:
            own = no_match(count)
            high, more = half(count)
            self.assertEqual(block_of([0] * 60 + own), [0x1F, 0, 1, 0, 40, high * 16] + more + own, count)

    def test_matches(self):
        for count in [count for count in COUNTS if count >= 3]:
            low, more = half(count)
            self.assertEqual(block_of([6] * (count + 10)), [0x10 + low, 6, 1, 0] + more + [0x50] + [6] * 5, count)

    def test_matches_of_every_short_length(self):
        for more in range(16):
            twice = no_match(more + 4)
            text = twice + [254] + twice + list(b"\xFD0123456789ab")
            self.assertEqual(parts(text), [
                (bytes(twice + [254]), more + 5, more + 4), last(b"\xFD0123456789ab")])

    def test_how_far_back_has_the_low_byte_first(self):
        twice = list(b"abcdefgh")
        block = block_of(twice + [0] * 1000 + twice + list(b"012345678"))
        self.assertEqual(block[-13:], [4, 0xF0, 3, 0x90] + list(b"012345678"))


class LongTexts(unittest.TestCase):
    def test_one_block_however_long(self):
        for length in (65535, 65536, 65537, 65600, LONGEST):
            self.assertEqual(parts([6] * length), [(b"\x06", 1, length - 6), last([6] * 5)])

    def test_matches_go_on_past_65536_bytes(self):
        once = no_match(31000)
        self.assertEqual(parts([0] * 40000 + once + once), [
            (b"\x00", 1, 39999), (bytes(once), 31000, 30995), last(once[-5:])])

    def test_65535_back_is_used(self):
        for first in (0, 1, 2, 100, 40000, 50000):
            found = parts(marked_twice(first, first + 65535))
            self.assertEqual(found[-2][1:], (65535, 8), first)
            self.assertEqual(found[-1], last([204] + TAIL))

    def test_65536_back_is_not(self):
        for first in (0, 1, 2, 100, 40000, 50000):
            text = marked_twice(first, first + 65536)
            found = parts(text)
            self.assertTrue(found[-1][0].endswith(bytes(MARK + [204] + TAIL)), first)
            self.assertTrue(all(back is None or back <= 65535 for own, back, length in found))
            self.assertEqual(block_read(block_of(text), b"", MOST), bytes(text))

    def test_a_longer_match_out_of_reach_gives_way_to_a_shorter_one(self):
        for back, awaited in ((65535, (65535, 8)), (65536, (16000, 6))):
            text = [0] * 90000
            put_mark(text, 70000 - back, MARK, 201, 202)
            put_mark(text, 70000 - 16000, MARK[:6], 203, 204)
            put_mark(text, 70000, MARK, 205, 206)
            self.assertIn((b"\xCD",) + awaited, parts(text))

    def test_just_out_of_reach_all_the_way(self):
        once = few_letters(65536, 256)
        self.assertEqual(parts(once + once[:20000]), [last(once + once[:20000])])
        nearer = parts(once[1:] + once[1:20000])
        self.assertEqual(nearer, [(bytes(once[1:]), 65535, 19994), last(once[19995:20000])])

    def test_a_block_that_is_not_shorter_is_given_back_all_the_same(self):
        for length, longer in ((0, 1), (1, 1), (14, 1), (15, 2), (269, 2), (270, 3), (31000, 123)):
            self.assertEqual(pack_block(MOST, no_match(length))[0], length + longer)
        text = few_letters(LONGEST, 256)
        block = block_of(text)
        self.assertEqual(len(block), LONGEST + 2 + (LONGEST - 15) // 255)
        self.assertEqual(block[-LONGEST:], text)

    def test_as_by_the_document(self):
        for text in (few_letters(3000, 256) + few_letters(LONGEST - 3000, 16, 5), few_letters(70000, 3, 9),
                     few_letters(20000, 256) * 5 + few_letters(3000, 2), few_letters(LONGEST, 40)):
            self.assertEqual(block_of(text), block_by_the_document(text))


class AsByTheDocument(unittest.TestCase):
    def test_few_letters(self):
        for seed in range(100):
            for letters in (1, 2, 3, 5, 16, 256):
                text = few_letters(seed * 5 + letters, letters, seed)
                block = block_of(text)
                self.assertEqual(block, block_by_the_document(text))
                self.assertEqual(block_read(block, b"", MOST), bytes(text))

    def test_texts_of_pieces_that_come_again(self):
        chance = random.Random(4)
        for _ in range(300):
            pieces = [few_letters(chance.randrange(1, 60), chance.choice((1, 2, 256)), chance.randrange(999))
                      for _ in range(6)]
            text = sum([chance.choice(pieces)[chance.choice((0, 0, 1, 2)):] for _ in range(30)], [])
            self.assertEqual(block_of(text), block_by_the_document(text))

    def test_the_same_block_as_in_a_frame(self):
        for text in ([5] * 100, few_letters(4000, 4), few_letters(65536, 6)):
            block = block_of(text)
            self.assertEqual(pack(0, MOST, text)[8:], list(len(block).to_bytes(4, "little")) + block + [0, 0, 0, 0])


if __name__ == "__main__":
    unittest.main()
