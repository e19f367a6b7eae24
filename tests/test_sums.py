import unittest

from document import MOST, blocks_of, bytes_of, few_letters, xxhash
from shorttexts.blocks import pack

# The sums, seed 0, of the texts 0, 1, 2 .. of 0 to 49 bytes.
OF_COUNTED = """
02cc5d05 cf65b03e c671e7b8 663e9a55 80691e66 9ea1b7c4 874131df a74336dc a3ad90b9 3f5eb53f
6ccca2a6 b7181399 606734ab e31d9d5a b40496fa 57c01ece b72837f4 7c77adc2 94101d96 1bd0703f
828b819c c6bab491 d67a1cd1 c8461e09 4c5b8323 08431ef5 37f107d9 cbea6bcf 79586156 1436f6fd
ba9df801 ef24f709 830741c1 f1e6a545 daddb915 644c3ced 58118a69 778632d9 e60e6dd2 ddd46630
d6a6cf02 d313e3a0 9644b298 29e329e7 f699f8cc 024c8507 9f204c78 358c85c6 afabf406 fe24c9b1
""".split()


class Sums(unittest.TestCase):
    def test_the_text_s_sum(self):
        for length, told in enumerate(OF_COUNTED):
            answer = pack(1, MOST, list(range(length)))
            self.assertEqual(answer[-4:], bytes_of(int(told, 16), 4), length)

    def test_a_block_s_sum(self):
        for length, told in enumerate(OF_COUNTED):
            if length > 0:
                answer = pack(2, MOST, list(range(length)))
                self.assertEqual(answer[-8:], bytes_of(int(told, 16), 4) + [0, 0, 0, 0], length)

    def test_a_block_s_sum_is_of_the_block_as_it_stands(self):
        text = few_letters(300, 2)
        frame = pack(3, MOST, text)[1:]
        alone, block = blocks_of(3, frame)[0]
        self.assertFalse(alone)
        self.assertNotEqual(xxhash(block), xxhash(text))
        self.assertEqual(frame[-12:], bytes_of(xxhash(block), 4) + [0, 0, 0, 0] + bytes_of(xxhash(text), 4))

    def test_high_bytes(self):
        self.assertEqual(pack(1, MOST, [255] * 100)[-4:], bytes_of(0x86E4A607, 4))
        text = list(b"Nobody inspects the spammish repetition")
        self.assertEqual(pack(1, MOST, text)[-4:], bytes_of(0xE2293B2F, 4))

    def test_all_lengths_left_over(self):
        for length in range(200):
            text = few_letters(length, 256, length)
            self.assertEqual(pack(1, MOST, text)[-4:], bytes_of(xxhash(text), 4), length)

    def test_the_text_s_sum_is_over_all_blocks(self):
        text = few_letters(70000, 256, 3)
        frame = pack(3, MOST, text)[1:]
        self.assertEqual(frame[-4:], bytes_of(xxhash(text), 4))
        behind_first = 7 + 4 + 65536
        self.assertEqual(frame[behind_first:behind_first + 4], bytes_of(xxhash(text[:65536]), 4))
        self.assertEqual(frame[-12:-8], bytes_of(xxhash(text[65536:]), 4))


if __name__ == "__main__":
    unittest.main()
