import unittest

from narrowtokens.token_form import eight_bytes, halves, number_of_bytes, number_of_halves, sum_of_bytes
from tests.helper import TOP, init, sum_call, told, worked_sum


class SumOfBytes(unittest.TestCase):
    def test_the_documents_own_sums(self):
        self.assertEqual(sum_of_bytes([]), 14695981039346656037)
        self.assertEqual(sum_of_bytes([97]), 12638187200555641996)

    def test_longer_rows_with_0_and_255(self):
        sums = [
            ([102, 111, 111, 98, 97, 114], 9625390261332436968),
            ([0], 12638153115695167455),
            ([255], 12638352127299873646),
            ([0, 255, 0, 255], 15470832822636795629),
            ([213, 107, 185, 83, 66, 135, 8, 54], 0),
            ([255] * 160, 14352751985536911621),
            ([0] * 160, 9345366988845399973),
            ([place * 37 % 256 for place in range(160)], 17651410985646190469),
        ]
        for row, expected in sums:
            with self.subTest(row=row):
                self.assertEqual(sum_of_bytes(row), expected)

    def test_every_single_byte(self):
        for byte in range(256):
            self.assertEqual(sum_of_bytes([byte]), worked_sum([byte]))

    def test_the_order_of_bytes_matters(self):
        self.assertNotEqual(sum_of_bytes([1, 2]), sum_of_bytes([2, 1]))


class EightBytes(unittest.TestCase):
    def test_lowest_byte_first(self):
        self.assertEqual(eight_bytes(0), [0] * 8)
        self.assertEqual(eight_bytes(1), [1, 0, 0, 0, 0, 0, 0, 0])
        self.assertEqual(eight_bytes(0x0102030405060708), [8, 7, 6, 5, 4, 3, 2, 1])
        self.assertEqual(eight_bytes(2**64 - 1), [255] * 8)


class NumbersOfBytesAndHalves(unittest.TestCase):
    def test_lowest_byte_first(self):
        self.assertEqual(number_of_bytes([]), 0)
        self.assertEqual(number_of_bytes([1]), 1)
        self.assertEqual(number_of_bytes([4, 3, 2, 1]), 0x01020304)
        self.assertEqual(number_of_bytes([8, 7, 6, 5, 4, 3, 2, 1]), 0x0102030405060708)
        self.assertEqual(number_of_bytes([255] * 16), 2**128 - 1)

    def test_high_and_low(self):
        for high in (0, 1, 2**31, TOP):
            for low in (0, 1, 2**31, TOP):
                number = (high << 32) | low
                self.assertEqual(number_of_halves(high, low), number)
                self.assertEqual(halves(number), [high, low])


class TheCallSum(unittest.TestCase):
    def test_high_and_low(self):
        sums = [
            ([], [3421674724, 2216829733]),
            ([97], [2942557260, 2248273036]),
            ([0], [2942549324, 2248259551]),
            ([213, 107, 185, 83, 66, 135, 8, 54], [0, 0]),
            ([255] * 160, [3341760482, 4281714949]),
            ([0] * 160, [2175887811, 835370917]),
            ([place * 37 % 256 for place in range(160)], [4109789381, 803106693]),
        ]
        for row, expected in sums:
            with self.subTest(row=row):
                self.assertEqual(told(sum_call(row)), [[0] + expected])

    def test_rows_of_every_length(self):
        for length in range(161):
            row = [(place * place + length) % 256 for place in range(length)]
            total = worked_sum(row)
            self.assertEqual(told(sum_call(row)), [[0, total // 2**32, total % 2**32]])

    def test_the_same_whatever_stands_before_it(self):
        line = told(sum_call([1]), sum_call([2]), init(), sum_call([1]))
        self.assertEqual(line[0], line[3])
        self.assertNotEqual(line[0], line[1])


if __name__ == "__main__":
    unittest.main()
