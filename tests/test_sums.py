"""The sum, and numbers as bytes."""

import unittest

import helper
from helper import Case
from hedgerecord.sums import number_at, number_bytes, sum_of


class Sums(Case):
    def test_known_sums(self):
        # Published check values of CRC-32C: "123456789", and RFC 3720's 32 bytes.
        self.assertEqual(sum_of(helper.text_bytes("123456789")), 0xE3069283)
        self.assertEqual(sum_of([0] * 32), 0x8A9136AA)
        self.assertEqual(sum_of([255] * 32), 0x62A8AB43)
        self.assertEqual(sum_of(list(range(32))), 0x46DD794E)
        self.assertEqual(sum_of(list(range(31, -1, -1))), 0x113FDB5C)

    def test_sum_of_nothing(self):
        self.assertEqual(sum_of([]), 0)

    def test_each_byte_alone(self):
        for byte in range(256):
            self.assertEqual(sum_of([byte]), helper.crc([byte]))

    def test_numbers(self):
        self.assertEqual(number_bytes(0x01020304, 4), [4, 3, 2, 1])
        self.assertEqual(number_bytes(258, 2), [2, 1])
        self.assertEqual(number_bytes(helper.LARGEST, 4), [255, 255, 255, 255])
        self.assertEqual(number_at([9, 4, 3, 2, 1, 9], 1, 4), 0x01020304)
        self.assertEqual(number_at([255, 255], 0, 2), 65535)


if __name__ == "__main__":
    unittest.main()
