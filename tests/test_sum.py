import unittest

from narrowtokens.token_form import eight_bytes, sum_of_bytes
from tests.helper import worked_sum


class SumOfBytes(unittest.TestCase):
    def test_the_documents_own_sums(self):
        self.assertEqual(sum_of_bytes([]), 14695981039346656037)
        self.assertEqual(sum_of_bytes([97]), 12638187200555641996)

    def test_longer_rows_with_0_and_255(self):
        sums = [
            ([102, 111, 111, 98, 97, 114], 9625390261332436968),
            ([0], 12638153115695167455),
            ([255], 12638352127299873646),
            ([0, 255, 0, 255], 15470832822636795629),
            ([213, 107, 185, 83, 66, 135, 8, 54], 0),
            ([255] * 160, 14352751985536911621),
            ([0] * 160, 9345366988845399973),
            ([place * 37 % 256 for place in range(160)], 17651410985646190469),
        ]
        for row, expected in sums:
            with self.subTest(row=row):
                self.assertEqual(sum_of_bytes(row), expected)

    def test_every_single_byte(self):
        for byte in range(256):
            self.assertEqual(sum_of_bytes([byte]), worked_sum([byte]))

    def test_the_order_of_bytes_matters(self):
        self.assertNotEqual(sum_of_bytes([1, 2]), sum_of_bytes([2, 1]))


class EightBytes(unittest.TestCase):
    def test_lowest_byte_first(self):
        self.assertEqual(eight_bytes(0), [0] * 8)
        self.assertEqual(eight_bytes(1), [1, 0, 0, 0, 0, 0, 0, 0])
        self.assertEqual(eight_bytes(0x0102030405060708), [8, 7, 6, 5, 4, 3, 2, 1])
        self.assertEqual(eight_bytes(2**64 - 1), [255] * 8)


if __name__ == "__main__":
    unittest.main()
