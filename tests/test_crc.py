"""The sum, as "The ring" tells it."""

import unittest

from sharedring.crc import crc32c
from tests.ringcalls import reference_sum


class Sum(unittest.TestCase):
    def test_known_sums(self):
        # Those of RFC 3720, B.4, and the usual check of CRC-32C.
        self.assertEqual(crc32c([ord(sign) for sign in "123456789"]), 0xE3069283)
        self.assertEqual(crc32c([0] * 32), 0x8A9136AA)
        self.assertEqual(crc32c([255] * 32), 0x62A8AB43)
        self.assertEqual(crc32c(list(range(32))), 0x46DD794E)
        self.assertEqual(crc32c(list(range(31, -1, -1))), 0x113FDB5C)

    def test_no_byte(self):
        self.assertEqual(crc32c([]), 0)

    def test_against_another_way(self):
        for length in (1, 2, 59, 60, 61):
            for seed in range(20):
                data = [(seed * 53 + k * k * 31 + k) % 256 for k in range(length)]
                self.assertEqual(crc32c(data), reference_sum(data))

    def test_every_byte(self):
        for byte in range(256):
            self.assertEqual(crc32c([byte]), reference_sum([byte]))


if __name__ == "__main__":
    unittest.main()
