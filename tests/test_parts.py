import unittest

from tests.helper import KEY, OTHER_KEY, TOP, parts, root, told, unroot, unsealed_token, worked_token


def parted(token):
    return told(parts(token))[0]


class Parts(unittest.TestCase):
    def test_a_token_told_byte_by_byte(self):
        token = [
            200, 4, 3, 2, 1, 8, 7, 6, 5, 3, 9, 2, 11, 12, 0, 0, 255, 3, 21, 22, 23, 1, 1, 1, 1, 1, 1, 1, 1]
        expected = [3, 200, 0x05060708, 0x01020304, 9, 2, 0, 0, 255, 3, 11, 12, 21, 22, 23]
        self.assertEqual(parted(token), expected)

    def test_0_caveats(self):
        self.assertEqual(parted(worked_token(3, 258, 772)), [0, 3, 258, 772])

    def test_0_to_6_caveats_with_arguments_of_0_and_16_bytes(self):
        for many in range(7):
            for length in (0, 1, 15, 16):
                caveats = [(place + 250, [place + 100] * length) for place in range(many)]
                heads = [number for place in range(many) for number in (place + 250, length)]
                arguments = [place + 100 for place in range(many) for turn in range(length)]
                self.assertEqual(parted(worked_token(7, 1, 2, caveats)), [many, 7, 1, 2] + heads + arguments)

    def test_all_kinds_and_lengths_first_then_all_arguments_bytes(self):
        caveats = [(1, [10, 11]), (2, []), (3, list(range(16))), (4, [40]), (0, []), (255, [50, 51, 52])]
        expected = [6, 0, 0, 5, 1, 2, 2, 0, 3, 16, 4, 1, 0, 0, 255, 3, 10, 11] + list(range(16)) + [40, 50, 51, 52]
        self.assertEqual(parted(worked_token(0, 0, 5, caveats)), expected)

    def test_any_root(self):
        for number in range(256):
            self.assertEqual(parted(worked_token(number, 1, 2, [(4, [9])])), [1, number, 1, 2, 4, 1, 9])

    def test_any_kind(self):
        for kind in range(256):
            self.assertEqual(parted(worked_token(0, 1, 2, [(kind, [9])])), [1, 0, 1, 2, kind, 1, 9])

    def test_serials_at_their_edges(self):
        for high in (0, 1, TOP):
            for low in (0, 1, TOP):
                self.assertEqual(parted(worked_token(5, high, low)), [0, 5, high, low])

    def test_a_seal_that_is_not_right(self):
        for seal in ([0] * 8, [255] * 8):
            token = unsealed_token(9, [(4, [1])], seal)
            self.assertEqual(parted(token), [1, 9, 0x08070605, 0x04030201, 4, 1, 1])

    def test_with_and_without_a_key(self):
        token = worked_token(1, 2, 3, [(4, [5])])
        line = told(parts(token), root(1, KEY), parts(token), root(1, OTHER_KEY), parts(token), unroot(1), parts(token))
        self.assertEqual(line[::2], [[1, 1, 2, 3, 4, 1, 5]] * 4)


class Malformed(unittest.TestCase):
    def test_rows_that_are_no_token(self):
        token = worked_token(1, 0, 1, [(4, [47])])
        rows = [[], [1], [0] * 160, token + [0], token[:-1], token[1:], token[:9] + [0] + token[10:]]
        rows += [worked_token(1, 0, 1, [(4, [])] * 7), worked_token(1, 0, 1, [(4, [47] * 17)])]
        for row in rows:
            self.assertEqual(parted(row), [-1], row)


if __name__ == "__main__":
    unittest.main()
