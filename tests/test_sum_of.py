import random
import unittest

from document import few_letters, xxhash
from known_sums import COUNTED, HIGHEST, NOUGHTS
from shorttexts.blocks import sum_of

LENGTHS = list(range(41)) + [116000]
SEEDS = [0, 1, 2654435761, 2147483648, 4294967295]
TEXTS = (
    (COUNTED, [(7 * k + k // 256) % 256 for k in range(116000)]),
    (NOUGHTS, [0] * 116000),
    (HIGHEST, [255] * 116000),
)


class SumOf(unittest.TestCase):
    def test_of_the_empty_text(self):
        self.assertEqual(sum_of(0, []), [46947589])

    def test_of_texts_that_are_known(self):
        for text, told in ((b"a", 0x550D7456), (b"abc", 0x32D153FF),
                           (b"Nobody inspects the spammish repetition", 0xE2293B2F)):
            self.assertEqual(sum_of(0, list(text)), [told])

    def test_each_length_with_each_seed(self):
        for tables, text in TEXTS:
            self.assertEqual(list(tables), SEEDS)
            for seed, table in tables.items():
                told = [int(number, 16) for number in table.split()]
                self.assertEqual(len(told), len(LENGTHS))
                for length, number in zip(LENGTHS, told):
                    self.assertEqual(sum_of(seed, text[:length]), [number], (seed, length))

    def test_every_byte(self):
        for byte in range(256):
            self.assertEqual(sum_of(0, [byte]), [xxhash([byte])])
            self.assertEqual(sum_of(5, [byte] * 21), [xxhash([byte] * 21, 5)])

    def test_any_seed_and_any_text(self):
        chance = random.Random(2)
        for _ in range(2000):
            seed = chance.randrange(2 ** 32)
            text = [chance.randrange(256) for _ in range(chance.randrange(100))]
            self.assertEqual(sum_of(seed, text), [xxhash(text, seed)], (seed, text))

    def test_each_byte_of_a_text_counts(self):
        text = few_letters(37, 256)
        sums = {sum_of(0, text)[0]}
        for place in range(len(text)):
            sums.add(sum_of(0, text[:place] + [text[place] ^ 1] + text[place + 1:])[0])
        self.assertEqual(len(sums), 38)

    def test_every_sum_is_in_its_range(self):
        for seed in SEEDS:
            for length in range(70):
                self.assertTrue(0 <= sum_of(seed, [200] * length)[0] <= 4294967295)

    def test_never_refused(self):
        self.assertEqual(sum_of(4294967295, [255] * 116000), [int(HIGHEST[4294967295].split()[-1], 16)])


if __name__ == "__main__":
    unittest.main()
