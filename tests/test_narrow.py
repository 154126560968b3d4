import unittest

from tests.helper import (
    KEY, TOP, check, counted, issue, narrow, root, told, unsealed_token, worked_caveat, worked_h, worked_token)

FIVE = [(1, [1] * 8), (2, []), (3, [0, 0, 0, 255]), (4, [9] * 16), (5, [3, 0, 0, 0])]
SIX = FIVE + [(0, [])]
MALFORMED = [0] * 17


def narrowed(kind, token, argument):
    return told(narrow(kind, token, argument))[0]


class Narrower(unittest.TestCase):
    def test_tokens_told_byte_by_byte(self):
        token = [3, 4, 3, 0, 0, 2, 1, 0, 0, 0, 168, 118, 190, 8, 234, 182, 64, 72]
        once = [3, 4, 3, 0, 0, 2, 1, 0, 0, 1, 4, 3, 47, 97, 0, 183, 61, 137, 92, 49, 242, 163, 238]
        twice = [3, 4, 3, 0, 0, 2, 1, 0, 0, 2, 4, 3, 47, 97, 0, 255, 0, 252, 28, 28, 106, 107, 47, 94, 79]
        self.assertEqual(narrowed(4, token, [47, 97, 0]), [23] + once)
        self.assertEqual(narrowed(255, once, []), [25] + twice)

    def test_first_and_sixth_caveat(self):
        for before in ([], FIVE):
            for kind in (0, 1, 5, 6, 255):
                for argument in ([], [0], [255] * 15, [0] * 16, list(range(16))):
                    token = worked_token(7, 1, TOP, before)
                    expected = worked_token(7, 1, TOP, before + [(kind, argument)])
                    self.assertEqual(narrowed(kind, token, argument), counted(expected))

    def test_one_caveat_after_another_on_an_issued_token(self):
        token = told(root(2, KEY), issue(2, TOP, 0))[1][1:]
        for many, caveat in enumerate(SIX):
            token = narrowed(caveat[0], token, caveat[1])[1:]
            self.assertEqual(token, worked_token(2, TOP, 0, SIX[:many + 1]))
            self.assertEqual(told(check(token)), [[many + 1]])

    def test_on_a_seal_that_is_not_right(self):
        for number in (0, 8, 255):
            for before in ([], FIVE):
                for seal in ([0] * 8, [255] * 8, [1, 2, 3, 4, 5, 6, 7, 8]):
                    token = unsealed_token(root=number, caveats=before, seal=seal)
                    new_seal = worked_h(b"\1" + bytes(seal) + worked_caveat(9, [4, 4]))
                    expected = unsealed_token(root=number, caveats=before + [(9, [4, 4])], seal=new_seal)
                    self.assertEqual(narrowed(9, token, [4, 4]), counted(expected))

    def test_the_same_caveat_twice(self):
        token = worked_token(0, 0, 0, [(4, [1])])
        self.assertEqual(narrowed(4, token, [1]), counted(worked_token(0, 0, 0, [(4, [1]), (4, [1])])))

    def test_the_longest_token(self):
        caveats = [(255, [255] * 16)] * 6
        longest = narrowed(255, worked_token(0, 0, 0, caveats[:5]), [255] * 16)
        self.assertEqual(longest, [126] + worked_token(0, 0, 0, caveats))

    def test_with_keys_or_without(self):
        token = worked_token(0, 1, 1)
        line = told(narrow(1, token, [2]), root(0, [9] * 8), narrow(1, token, [2]))
        self.assertEqual(line[0], line[2])


class Refused(unittest.TestCase):
    def test_malformed(self):
        for token in ([], [0], MALFORMED, [0] * 19, [0] * 160, unsealed_token(caveats=[(1, [])] * 7)):
            self.assertEqual(narrowed(1, token, []), [-1])

    def test_kind_too_high(self):
        for kind in (256, 257, 511, 65536, TOP):
            self.assertEqual(narrowed(kind, unsealed_token(), []), [-2])

    def test_argument_too_long(self):
        for length in (17, 18, 160):
            self.assertEqual(narrowed(1, unsealed_token(), [0] * length), [-2])

    def test_kind_too_high_and_argument_too_long(self):
        self.assertEqual(narrowed(256, unsealed_token(), [0] * 17), [-2])

    def test_6_caveats(self):
        for kind in (0, 255):
            for argument in ([], [0] * 16):
                self.assertEqual(narrowed(kind, unsealed_token(caveats=SIX), argument), [-3])

    def test_malformed_is_told_before_the_kind_and_the_argument(self):
        self.assertEqual(narrowed(256, MALFORMED, []), [-1])
        self.assertEqual(narrowed(1, MALFORMED, [0] * 17), [-1])
        self.assertEqual(narrowed(256, MALFORMED, [0] * 17), [-1])

    def test_malformed_is_told_before_6_caveats(self):
        self.assertEqual(narrowed(1, unsealed_token(caveats=SIX) + [0], []), [-1])
        self.assertEqual(narrowed(1, unsealed_token(caveats=SIX)[:-1], []), [-1])

    def test_kind_and_argument_are_told_before_6_caveats(self):
        self.assertEqual(narrowed(256, unsealed_token(caveats=SIX), []), [-2])
        self.assertEqual(narrowed(1, unsealed_token(caveats=SIX), [0] * 17), [-2])

    def test_all_at_once(self):
        self.assertEqual(narrowed(256, unsealed_token(caveats=SIX) + [0], [0] * 17), [-1])

    def test_refusals_change_nothing(self):
        wrong = [
            narrow(1, MALFORMED, []), narrow(256, unsealed_token(), []), narrow(1, unsealed_token(caveats=SIX), [])]
        line = told(root(0, KEY), *wrong, issue(0, 5, 6))
        self.assertEqual(line, [[0], [-1], [-2], [-3], counted(worked_token(0, 5, 6))])


if __name__ == "__main__":
    unittest.main()
