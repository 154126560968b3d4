import unittest

from narrowtokens.token_form import read_token, token_row
from tests.helper import KEY, check, issue, root, told, unsealed_token


def checked(token):
    return told(check(token))[0]


class WellFormed(unittest.TestCase):
    def test_0_to_6_caveats(self):
        for many in range(7):
            for length in (0, 1, 8, 15, 16):
                token = unsealed_token(caveats=[(place, [255] * length) for place in range(many)])
                self.assertEqual(checked(token), [many])

    def test_arguments_of_several_lengths_in_one_token(self):
        for lengths in ((0, 16), (16, 0), (0, 16, 1, 15, 8, 4), (16,) * 6, (0,) * 6):
            token = unsealed_token(caveats=[(4, [7] * length) for length in lengths])
            self.assertEqual(checked(token), [len(lengths)])

    def test_any_root(self):
        for number in range(256):
            self.assertEqual(checked(unsealed_token(root=number, caveats=[(1, [])])), [1])

    def test_any_kind(self):
        for kind in range(256):
            self.assertEqual(checked(unsealed_token(caveats=[(kind, [1, 2])])), [1])

    def test_any_seal(self):
        for byte in (0, 255):
            self.assertEqual(checked(unsealed_token(seal=[byte] * 8)), [0])

    def test_needs_no_key_and_changes_none(self):
        token = unsealed_token()
        line = told(root(0, KEY), issue(0, 0, 0), check(token), check([]), issue(0, 0, 0))
        self.assertEqual(line[2:4], [[0], [-1]])
        self.assertEqual(line[4], line[1])


class Malformed(unittest.TestCase):
    def test_no_bytes(self):
        self.assertEqual(checked([]), [-1])

    def test_every_shorter_row(self):
        for caveats in ([], [(1, [])], [(1, [2] * 16)], [(place, [0] * place) for place in range(6)]):
            token = unsealed_token(caveats=caveats)
            for length in range(len(token)):
                self.assertEqual(checked(token[:length]), [-1], length)

    def test_too_many_bytes(self):
        for caveats in ([], [(1, [2] * 16)], [(9, [3] * 16)] * 6):
            token = unsealed_token(caveats=caveats)
            for byte in (0, 1, 255):
                self.assertEqual(checked(token + [byte]), [-1])
            self.assertEqual(checked(token + [0] * 8), [-1])

    def test_7_caveats_and_more(self):
        for many in (7, 8, 20):
            self.assertEqual(checked(unsealed_token(caveats=[(1, [])] * many)), [-1])

    def test_count_that_is_not_that_of_the_caveats(self):
        token = unsealed_token(caveats=[(1, [2]), (1, [3])])
        for many in (0, 1, 3, 4, 5, 6, 7, 255):
            self.assertEqual(checked(token[:9] + [many] + token[10:]), [-1], many)

    def test_argument_of_17_bytes_and_more(self):
        for length in (17, 18, 100):
            self.assertEqual(checked(unsealed_token(caveats=[(1, [5] * length)])), [-1])
            self.assertEqual(checked(unsealed_token(caveats=[(1, []), (1, [5] * length)])), [-1])

    def test_caveat_that_is_cut_off(self):
        head = [0] * 9
        for row in ([1], [1, 4], [1, 4, 16], [1, 4, 16] + [0] * 15, [2, 4, 0], [2, 4, 0, 4], [1, 4, 255]):
            self.assertEqual(checked(head + row), [-1], row)

    def test_without_its_whole_seal(self):
        for length in range(8):
            self.assertEqual(checked(unsealed_token(seal=[1] * length)), [-1])
            self.assertEqual(checked(unsealed_token(caveats=[(4, [1] * 16)], seal=[1] * length)), [-1])

    def test_length_that_reaches_into_the_seal(self):
        token = unsealed_token(caveats=[(4, [1, 2, 3])])
        for length in (0, 1, 2, 4, 5, 11, 12, 16):
            self.assertEqual(checked(token[:11] + [length] + token[12:]), [-1], length)

    def test_160_bytes(self):
        for byte in (0, 1, 6, 16, 255):
            self.assertEqual(checked([byte] * 160), [-1])


class ReadInOneWay(unittest.TestCase):
    def test_what_is_read_is_written_the_same(self):
        for lengths in ((), (0,), (16,), (0, 16, 3), (16,) * 6, (1, 2, 3, 4, 5, 6)):
            row = unsealed_token(root=200, caveats=[(length + 9, [length] * length) for length in lengths])
            token = read_token(row)
            self.assertEqual([len(caveat.argument) for caveat in token.caveats], list(lengths))
            self.assertEqual([caveat.kind for caveat in token.caveats], [length + 9 for length in lengths])
            self.assertEqual((token.root, token.serial, token.seal), (200, row[1:9], row[-8:]))
            self.assertEqual(token_row(token), row)

    def test_two_rows_that_differ_in_one_byte_are_not_read_alike(self):
        row = unsealed_token(caveats=[(4, [1, 2]), (5, [])])
        for place in range(len(row)):
            other = list(row)
            other[place] ^= 1
            token = read_token(other)
            self.assertTrue(token is None or token_row(token) == other)


if __name__ == "__main__":
    unittest.main()
