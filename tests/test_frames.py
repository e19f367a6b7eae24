import unittest

from document import MOST, SIXTEEN, blocks_of, bytes_of, few_letters, frame_by_the_document, no_match, text_of
from shorttexts.blocks import pack

# For each of the flags: the frame's byte of flags, and the head's sum byte for a text of 13 bytes.
HEADS = {
    0: (0x60, 0x82), 1: (0x64, 0xA7), 2: (0x70, 0xAD), 3: (0x74, 0xBD),
    4: (0x68, 0x8C), 5: (0x6C, 0xCE), 6: (0x78, 0x7C), 7: (0x7C, 0x39),
    8: (0x40, 0xC0), 9: (0x44, 0x5E), 10: (0x50, 0xC0), 11: (0x54, 0xAE),
    12: (0x48, 0x57), 13: (0x4C, 0x39), 14: (0x58, 0xCE), 15: (0x5C, 0x71),
}
THIRTEEN = [0x61] * 13
PACKED_THIRTEEN = [0x13, 0x61, 1, 0, 0x50, 0x61, 0x61, 0x61, 0x61, 0x61]
FIRST_FOUR = [0x04, 0x22, 0x4D, 0x18]


class Frames(unittest.TestCase):
    def test_every_byte_for_each_of_the_flags(self):
        for flags in SIXTEEN:
            told, head_sum = HEADS[flags]
            frame = FIRST_FOUR + [told, 0x40]
            if flags & 4:
                frame += [13, 0, 0, 0, 0, 0, 0, 0]
            frame += [head_sum] + [10, 0, 0, 0] + PACKED_THIRTEEN
            if flags & 2:
                frame += [0x63, 0x68, 0x80, 0xB5]
            frame += [0, 0, 0, 0]
            if flags & 1:
                frame += [0x1D, 0x27, 0xF3, 0xBE]
            self.assertEqual(pack(flags, MOST, THIRTEEN), [len(frame)] + frame, flags)

    def test_the_empty_text_has_no_block(self):
        self.assertEqual(pack(0, MOST, []), [11] + FIRST_FOUR + [0x60, 0x40, 0x82, 0, 0, 0, 0])
        for flags in SIXTEEN:
            answer = pack(flags, MOST, [])
            if not flags & 4:
                self.assertEqual(answer[5:8], [HEADS[flags][0], 0x40, HEADS[flags][1]])
            self.assertEqual(answer[1:], frame_by_the_document(flags, []))
            self.assertEqual(blocks_of(flags, answer[1:]), [])
            if flags & 1:
                self.assertEqual(answer[-8:], [0, 0, 0, 0, 0x05, 0x5D, 0xCC, 0x02])

    def test_the_length_has_eight_bytes_with_the_low_one_first(self):
        for length in (0, 1, 255, 256, 65535, 65536, 65537, 116000):
            answer = pack(4, MOST, [0] * length)
            self.assertEqual(answer[7:15], bytes_of(length, 8))
            self.assertEqual(answer[13:15], [0, 0])
        self.assertEqual(pack(4, MOST, [0] * 116000)[7:15], [0x20, 0xC5, 1, 0, 0, 0, 0, 0])

    def test_a_block_that_stands_for_itself(self):
        text = list(range(11))
        frame = FIRST_FOUR + [0x60, 0x40, 0x82, 11, 0, 0, 0x80] + text + [0, 0, 0, 0]
        self.assertEqual(pack(0, MOST, text), [len(frame)] + frame)

    def test_short_texts(self):
        for length in range(1, 13):
            for text in ([9] * length, list(range(length))):
                for flags in SIXTEEN:
                    frame = pack(flags, MOST, text)[1:]
                    self.assertEqual(frame, frame_by_the_document(flags, text))
                    self.assertEqual(blocks_of(flags, frame), [(True, text)])
        for flags in SIXTEEN:
            frame = pack(flags, MOST, [9] * 13)[1:]
            self.assertEqual(blocks_of(flags, frame), [(False, [0x13, 9, 1, 0, 0x50, 9, 9, 9, 9, 9])])
            frame = pack(flags, MOST, list(range(13)))[1:]
            self.assertEqual(blocks_of(flags, frame), [(True, list(range(13)))])

    def test_texts_without_any_match(self):
        for length in (13, 14, 15, 16, 100, 256, 1000, 20000):
            text = no_match(length)
            for flags in SIXTEEN:
                frame = pack(flags, MOST, text)[1:]
                self.assertEqual(blocks_of(flags, frame), [(True, text)])

    def test_as_by_the_document(self):
        for seed in range(60):
            for letters in (1, 2, 3, 5, 256):
                text = few_letters(seed * 5 + letters, letters, seed)
                flags = seed % 16
                frame = frame_by_the_document(flags, text)
                self.assertEqual(pack(flags, MOST, text), [len(frame)] + frame)
                self.assertEqual(text_of(flags, frame), text)

    def test_every_text_of_two_letters_and_a_few_bytes(self):
        for length in (12, 13, 14):
            for number in range(2 ** length):
                text = [number >> k & 1 for k in range(length)]
                frame = frame_by_the_document(0, text)
                self.assertEqual(pack(0, MOST, text), [len(frame)] + frame)


if __name__ == "__main__":
    unittest.main()
