import unittest

from document import MOST, SIXTEEN, few_letters, frame_by_the_document
from shorttexts.blocks import pack

LOWEST = -2147483648


class Refusals(unittest.TestCase):
    def test_most_below_zero(self):
        for most in (-1, -2, -7, LOWEST):
            for flags in SIXTEEN:
                self.assertEqual(pack(flags, most, []), [-8])
                self.assertEqual(pack(flags, most, [1, 2, 3]), [-8])

    def test_flags_out_of_range(self):
        for flags in (-1, -2, -8, -16, LOWEST, 16, 17, 31, 32, 256, MOST):
            self.assertEqual(pack(flags, MOST, []), [-8])
            self.assertEqual(pack(flags, MOST, [1, 2, 3]), [-8])

    def test_all_flags_in_range_are_taken(self):
        for flags in SIXTEEN:
            self.assertGreater(pack(flags, MOST, [])[0], 0)

    def test_wrong_arguments_come_before_too_long(self):
        for flags, most in ((16, 0), (-1, 0), (16, 10), (-1, 5), (LOWEST, 0), (MOST, 0), (16, -1), (0, -1), (15, -1)):
            self.assertEqual(pack(flags, most, list(range(100))), [-8])

    def test_one_byte_more_than_most(self):
        for text in ([], [7], [5] * 13, list(range(200)), [0] * 3000, few_letters(500, 3)):
            for flags in SIXTEEN:
                frame = frame_by_the_document(flags, text)
                self.assertEqual(pack(flags, len(frame) - 1, text), [-7])
                self.assertEqual(pack(flags, len(frame), text), [len(frame)] + frame)
                self.assertEqual(pack(flags, len(frame) + 1, text), [len(frame)] + frame)

    def test_no_frame_fits_into_nothing(self):
        for flags in SIXTEEN:
            self.assertEqual(pack(flags, 0, []), [-7])
        self.assertEqual(pack(0, 10, []), [-7])
        self.assertEqual(pack(0, 11, [])[0], 11)

    def test_the_frame_is_measured_and_not_the_text(self):
        self.assertEqual(pack(0, 999, [0] * 1000)[0], len(frame_by_the_document(0, [0] * 1000)))
        self.assertEqual(pack(0, 200, list(range(200))), [-7])

    def test_long_texts_too(self):
        text = [0] * 116000
        count = pack(15, MOST, text)[0]
        self.assertEqual(pack(15, count - 1, text), [-7])
        self.assertEqual(pack(15, count, text)[0], count)


if __name__ == "__main__":
    unittest.main()
