import unittest

from tests.helper import (
    FROM, KEY, OTHER_KEY, PATH, TOP, USES, eight, four, narrow, revoke, right, root, told, unroot, unsealed_token,
    used_once, uses, worked_token)

SIX = [(PATH, []), (0, []), (255, [7] * 16), (FROM, eight(2**64 - 1)), (USES, four(0)), (PATH, [47])]


def asked(token, *before):
    return told(root(1, KEY), root(2, OTHER_KEY), *before, right(token))[-1]


class Right(unittest.TestCase):
    def test_with_0_to_6_caveats(self):
        for many in range(7):
            for high, low in ((0, 0), (1, 2), (TOP, TOP)):
                self.assertEqual(asked(worked_token(1, high, low, SIX[:many])), [1])
                self.assertEqual(asked(worked_token(2, high, low, SIX[:many], key=OTHER_KEY)), [1])

    def test_an_issued_and_a_narrowed_token(self):
        token = told(root(1, KEY), [3, 1, 2, 3])[1][1:]
        self.assertEqual(asked(token), [1])
        self.assertEqual(asked(told(narrow(9, token, [1]))[0][1:]), [1])

    def test_it_does_not_ask_for_revocations_or_caveats(self):
        for caveats in ([], SIX, [(0, [])], [(USES, four(0))], [(USES, [])]):
            self.assertEqual(asked(worked_token(1, 0, 1, caveats), revoke(1, 0, 1)), [1])

    def test_it_counts_nothing(self):
        token = worked_token(1, 0, 1, [(USES, four(1))])
        line = told(root(1, KEY), *[right(token)] * 3, uses(1, 0, 1), used_once(1, 0, 1), right(token), uses(1, 0, 1))
        self.assertEqual(line, [[0], [1], [1], [1], [0], [0], [1], [1]])


class NotRight(unittest.TestCase):
    def test_one_byte_changed(self):
        for caveats in ([], [(PATH, [47])]):
            token = worked_token(1, 0, 1, caveats)
            for place in list(range(1, 9)) + list(range(len(token) - 8, len(token))):
                for bit in (1, 128):
                    self.assertEqual(asked(token[:place] + [token[place] ^ bit] + token[place + 1:]), [0])

    def test_another_key(self):
        self.assertEqual(asked(worked_token(1, 0, 1, key=OTHER_KEY)), [0])
        self.assertEqual(asked(worked_token(2, 0, 1, key=KEY)), [0])
        self.assertEqual(asked(worked_token(1, 0, 1), root(1, OTHER_KEY)), [0])

    def test_caveats_changed_taken_off_or_moved(self):
        seal = worked_token(1, 0, 1, SIX)[-8:]
        for caveats in ([], SIX[:5], SIX[1:], SIX[::-1], SIX[:5] + [(PATH, [46])], [(5, [])] + SIX[1:]):
            self.assertEqual(asked(worked_token(1, 0, 1, caveats)[:-8] + seal), [0])

    def test_narrowed_from_a_seal_that_is_not_right(self):
        token = unsealed_token(1)
        for turn in range(6):
            token = told(narrow(PATH, token, []))[0][1:]
            self.assertEqual(asked(token), [0])

    def test_the_lowest_and_the_highest_seal(self):
        for byte in (0, 255):
            self.assertEqual(asked(unsealed_token(1, seal=[byte] * 8)), [0])


class Refused(unittest.TestCase):
    def test_malformed(self):
        token = worked_token(1, 0, 1)
        for row in ([], [1], token + [0], token[:-1], [0] * 160, worked_token(1, 0, 1, [(PATH, [])] * 7)):
            self.assertEqual(asked(row), [-1])

    def test_no_key(self):
        keys = [root(number, KEY) for number in range(8)]
        for number in (0, 3, 7):
            self.assertEqual(asked(worked_token(number, 0, 1)), [-2])
        for number in (8, 9, 128, 255):
            self.assertEqual(asked(worked_token(number, 0, 1), *keys), [-2])
        self.assertEqual(asked(worked_token(1, 0, 1), unroot(1)), [-2])

    def test_malformed_is_told_before_no_key(self):
        for number in (0, 8, 255):
            self.assertEqual(asked(worked_token(number, 0, 1) + [0]), [-1])
        self.assertEqual(told(right([])), [[-1]])

    def test_no_key_is_told_before_a_wrong_seal(self):
        self.assertEqual(asked(unsealed_token(0)), [-2])
        self.assertEqual(asked(unsealed_token(8)), [-2])


if __name__ == "__main__":
    unittest.main()
