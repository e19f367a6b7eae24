import unittest

from document import MOST, blocks_of, bytes_of, no_match, parts_of
from shorttexts.blocks import pack

# A run ahead of what is looked at makes the block short enough not to stand for itself.
RUN = [0] * 60
RUN_PART = ([0], 1, 59)

# How a half of 15 and what carries it on stand for a count.
CARRIED = {
    15: [0], 16: [1], 17: [2], 268: [253], 269: [254], 270: [255, 0], 271: [255, 1],
    524: [255, 254], 525: [255, 255, 0], 526: [255, 255, 1], 780: [255, 255, 255, 0], 781: [255, 255, 255, 1],
}
COUNTS = list(range(1, 15)) + list(CARRIED)


def only_block(text, flags=0):
    blocks = blocks_of(flags, pack(flags, MOST, text)[1:])
    assert len(blocks) == 1 and not blocks[0][0], "a packed block was awaited"
    return blocks[0][1]


def parts_behind_run(text):
    parts = parts_of(only_block(RUN + list(text)))
    assert parts[0] == RUN_PART, "the run is a part by itself"
    return [(bytes(own), back, length) for own, back, length in parts[1:]]


class Matches(unittest.TestCase):
    def test_the_longest_is_taken_though_it_is_farther(self):
        parts = parts_behind_run(b"1abcdef2abcd3abcdefghijklmnop")
        self.assertEqual(parts, [
            (b"1abcdef2", 7, 4), (b"3", 12, 6), (b"ghijklmnop", None, None)])

    def test_the_longest_is_taken_though_a_shorter_and_a_longer_one_lie_around(self):
        parts = parts_behind_run(b"1abcdeX2abcdefgY3abcdZ4abcdefghijklmnop")
        self.assertEqual(parts[-2:], [(b"Z4", 15, 7), (b"hijklmnop", None, None)])

    def test_of_the_same_length_the_nearest(self):
        parts = parts_behind_run(b"1abcdeX2abcdeY3abcdeZ4abcdefghijklmnop")
        self.assertEqual(parts, [
            (b"1abcdeX2", 7, 5), (b"Y3", 7, 5), (b"Z4", 7, 5), (b"fghijklmnop", None, None)])

    def test_of_the_same_length_the_nearest_behind_longer_detours(self):
        parts = parts_behind_run(b"1abcdefX2abcdefY3abcdZ4abcdefghijklmnop")
        self.assertEqual(parts[-2:], [(b"Z4", 14, 6), (b"ghijklmnop", None, None)])

    def test_a_match_may_reach_into_itself(self):
        for period in range(1, 9):
            text = (list(range(1, 1 + period)) * 100)[:100]
            self.assertEqual(parts_of(only_block(text)), [
                (text[:period], period, 95 - period), (text[95:], None, None)])

    def test_what_reaches_into_itself_counts_as_far_as_it_goes(self):
        parts = parts_behind_run(b"1ababab2abababababcdefghijklmn")
        self.assertEqual(parts, [
            (b"1ab", 2, 4), (b"2", 7, 6), (b"", 2, 4), (b"cdefghijklmn", None, None)])

    def test_up_to_five_bytes_before_the_end_and_no_further(self):
        for length in range(13, 60):
            self.assertEqual(parts_of(only_block([7] * length)), [([7], 1, length - 6), ([7] * 5, None, None)])

    def test_an_end_cut_short_makes_matches_as_long_and_the_nearest_is_taken(self):
        parts = parts_behind_run(b"1abcdefghijklmnop2abcdefg3abcdefghijkl")
        self.assertEqual(parts, [(b"1abcdefghijklmnop2", 17, 7), (b"3", 8, 7), (b"hijkl", None, None)])

    def test_twelve_bytes_left_may_begin_a_match_and_eleven_may_not(self):
        self.assertEqual(parts_behind_run(b"1abcdefghijklmnop2abcdefghijkl"), [
            (b"1abcdefghijklmnop2", 17, 7), (b"hijkl", None, None)])
        self.assertEqual(parts_behind_run(b"1abcdefghijklmnop2abcdefghijk"), [
            (b"1abcdefghijklmnop2abcdefghijk", None, None)])

    def test_what_is_left_behind_a_match_may_be_too_little_for_another(self):
        self.assertEqual(parts_behind_run(b"1abcdX2efghijkY3abcdefghijkl"), [
            (b"1abcdX2efghijkY3", 15, 4), (b"efghijkl", None, None)])
        self.assertEqual(parts_behind_run(b"1abcdX2efghijkY3abcdefghijklmnop"), [
            (b"1abcdX2efghijkY3", 15, 4), (b"", 13, 7), (b"lmnop", None, None)])

    def test_three_bytes_are_no_match_and_four_are(self):
        self.assertEqual(parts_behind_run(b"1abcX2abcYdefghijklmno"), [(b"1abcX2abcYdefghijklmno", None, None)])
        self.assertEqual(parts_behind_run(b"1abcdX2abcdYdefghijklmno"), [
            (b"1abcdX2", 6, 4), (b"Ydefghijklmno", None, None)])

    def test_the_first_place_with_a_match_is_taken(self):
        parts = parts_behind_run(b"1abcdX2bcdefghijkY3abcdefghijklmnopq")
        self.assertEqual(parts, [
            (b"1abcdX2bcdefghijkY3", 18, 4), (b"", 13, 7), (b"lmnopq", None, None)])

    def test_places_within_a_match_serve_later_ones(self):
        parts = parts_behind_run(b"1abcdefgh2abcdefgh3cdefX456789ijklmn")
        self.assertEqual(parts, [
            (b"1abcdefgh2", 9, 8), (b"3", 7, 4), (b"X456789ijklmn", None, None)])

    def test_a_farther_one_a_few_bytes_longer(self):
        for length in (4, 5, 15, 30, 31, 32, 33, 40, 63, 64, 65, 95, 96, 100, 200):
            for more in range(1, 10):
                once = no_match(length + more)
                text = once + [253] + once[:length] + [254] + once + list(b"\xFF0123456789a")
                self.assertEqual(parts_behind_run(text)[1:], [
                    (b"\xFE", 2 * length + more + 2, length + more), (b"\xFF0123456789a", None, None)])

    def test_halves_of_two_bytes_are_no_byte(self):
        tail = list(b"0123456789ab")
        text = [0x21] * 20 + [1] + [0x12] * 4 + [2] + [0x12] * 7 + tail
        self.assertEqual(parts_behind_run(text), [
            (b"\x21", 1, 19), (b"\x01\x12\x12\x12\x12\x02", 5, 4), (bytes([0x12] * 3 + tail), None, None)])

    def test_bytes_of_the_same_half_are_not_the_same(self):
        self.assertEqual(parts_behind_run([17, 18, 33, 34, 50, 1, 18, 33, 35, 51] + list(b"abcdefghijklm"))[0][1], None)


class Halves(unittest.TestCase):
    def test_bytes_that_stand_for_themselves_before_a_match(self):
        for count in COUNTS:
            own = no_match(count - 1) + [0]
            block = only_block(own + [0] * 59)
            high, carry = (15, CARRIED[count]) if count in CARRIED else (count, [])
            self.assertEqual(block, [high * 16 + 15] + carry + own + [1, 0, 35] + [0x50, 0, 0, 0, 0, 0], count)

    def test_no_bytes_that_stand_for_themselves(self):
        block = only_block(RUN + list(b"1abcdX2efghY3abcdefghijklmnop"))
        self.assertEqual(block, [0x1F, 0, 1, 0, 40, 0xD0] + list(b"1abcdX2efghY3") + [12, 0, 0, 10, 0]
                         + [0x80] + list(b"ijklmnop"))

    def test_the_last_part(self):
        for count in [c for c in COUNTS if c >= 5]:
            own = no_match(count)
            block = only_block(RUN + own)
            high, carry = (15, CARRIED[count]) if count in CARRIED else (count, [])
            self.assertEqual(block, [0x1F, 0, 1, 0, 40, high * 16] + carry + own, count)

    def test_matches(self):
        for more in [0] + COUNTS:
            twice = no_match(more + 4)
            tail = list(b"\xFD0123456789ab")
            block = only_block(RUN + twice + [254] + twice + tail)
            low, carry = (15, CARRIED[more]) if more in CARRIED else (more, [])
            begin = [0x1F, 0, 1, 0, 40]
            self.assertEqual(block[:5], begin)
            behind = bytes_of(more + 5, 2) + carry + [13 * 16] + tail
            self.assertEqual(block[-len(behind):], behind, more)
            self.assertEqual(block[5] % 16, low, more)
            self.assertEqual(parts_of(block)[1:], [(twice + [254], more + 5, more + 4), (tail, None, None)])

    def test_far_carried_matches(self):
        block = only_block([5] * 60000)
        more = 60000 - 6 - 4
        carry = [255] * ((more - 15) // 255) + [(more - 15) % 255]
        self.assertEqual(block, [0x1F, 5, 1, 0] + carry + [0x50, 5, 5, 5, 5, 5])

    def test_how_far_back_has_the_low_byte_first(self):
        twice = list(b"abcdefgh")
        block = only_block(twice + [0] * 1000 + twice + list(b"012345678"))
        self.assertEqual(parts_of(block)[1:], [([], 1008, 8), (list(b"012345678"), None, None)])
        self.assertEqual(block[-13:], [4, 0xF0, 3, 0x90] + list(b"012345678"))


if __name__ == "__main__":
    unittest.main()
