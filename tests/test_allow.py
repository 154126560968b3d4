"""allow's answers and their order; what each kind of caveat asks for stands in test_caveat_rules.py."""

import unittest

from tests.helper import (
    BEFORE, FROM, KEY, OPS, OTHER_KEY, PATH, TOP, USES, allow, eight, four, narrow, revoke, right, root, told,
    unsealed_token, used_once, uses, worked_token)

HOLDS = (PATH, [])
FAILS = (FROM, eight(2**64 - 1))
COUNTED = (USES, four(3))
SIXTEEN_COUNTS = [root(7, KEY)] + [used_once(7, 0, low) for low in range(16)]


def allowed(token, *before):
    return told(root(1, KEY), root(2, OTHER_KEY), *before, allow(5, 6, token, [47, 97]))[-1]


def byte_changed(token, place, bit=1):
    return token[:place] + [token[place] ^ bit] + token[place + 1:]


class Allowed(unittest.TestCase):
    def test_a_token_told_byte_by_byte(self):
        token = [
            3, 4, 3, 0, 0, 2, 1, 0, 0, 5, 1, 8, 232, 3, 0, 0, 0, 0, 0, 0, 2, 8, 10, 0, 0, 0, 0, 0, 0, 0, 3, 4, 5, 0, 0,
            128, 4, 2, 47, 97, 5, 4, 2, 0, 0, 0, 181, 20, 146, 74, 89, 80, 67, 31]
        line = told(
            root(3, KEY), allow(999, 0, token, [47, 97]), allow(1000, 1, token, []), allow(9, 2, token, [47]),
            allow(10, 1, token, []), allow(10, 31, token, [47]), allow(10, 31, token, [47, 97, 47]),
            allow(10, 2, token, [47, 97]), uses(3, 258, 772))
        self.assertEqual(line, [[0], [0], [5, 0], [5, 1], [5, 2], [5, 3], [0], [5, 4], [2]])

    def test_without_caveats(self):
        for number in range(8):
            for high, low in ((0, 0), (1, 2), (TOP, TOP)):
                token = worked_token(number, high, low)
                for request in ((0, 0, []), (TOP, TOP, [0] * 160)):
                    line = told(root(number, KEY), allow(request[0], request[1], token, request[2]))
                    self.assertEqual(line, [[0], [0]])

    def test_with_1_to_6_caveats_that_hold(self):
        for many in range(1, 7):
            self.assertEqual(allowed(worked_token(1, 0, 1, [HOLDS] * many)), [0])

    def test_with_each_kind_at_once(self):
        caveats = [
            (BEFORE, eight(6)), (FROM, eight(5)), (OPS, four(64)), (PATH, [47]), (USES, four(1)), (PATH, [47, 97])]
        self.assertEqual(allowed(worked_token(1, 8, 9, caveats)), [0])

    def test_the_longest_token(self):
        caveats = [(PATH, [47, 97] * 8)] * 6
        line = told(root(0, KEY), allow(0, 0, worked_token(0, 0, 0, caveats), [47, 97] * 80))
        self.assertEqual(line, [[0], [0]])

    def test_a_token_that_was_issued_and_narrowed(self):
        token = told(root(1, KEY), [3, 1, 2, 3])[1][1:]
        narrower = told(narrow(PATH, token, [47]))[0][1:]
        self.assertEqual(allowed(token), [0])
        self.assertEqual(allowed(narrower), [0])
        self.assertEqual(allowed(told(narrow(PATH, narrower, [46]))[0][1:]), [5, 1])


class Malformed(unittest.TestCase):
    def test_rows_that_are_no_token(self):
        token = worked_token(1, 0, 1, [HOLDS])
        rows = [[], [1], token + [0], token[:-1], token[1:], [0] * 160, worked_token(1, 0, 1, [HOLDS] * 7)]
        rows += [worked_token(1, 0, 1, [(PATH, [47] * 17)]), token[:9] + [0] + token[10:]]
        for row in rows:
            self.assertEqual(allowed(row), [1], row)

    def test_told_before_all_others(self):
        for number in (0, 8, 255):
            self.assertEqual(allowed(worked_token(number, 0, 1) + [0]), [1])
        for caveats in ([], [FAILS], [COUNTED], [COUNTED, FAILS]):
            for row in (worked_token(1, 0, 1, caveats), unsealed_token(1, caveats)):
                self.assertEqual(allowed(row + [0], *SIXTEEN_COUNTS, revoke(1, 0, 1)), [1])


class NoKey(unittest.TestCase):
    def test_root_without_a_key(self):
        for number in (0, 3, 4, 5, 6, 7):
            self.assertEqual(allowed(worked_token(number, 0, 1)), [2])

    def test_no_keys_at_all(self):
        self.assertEqual(told(allow(0, 0, worked_token(0, 0, 0), [])), [[2]])

    def test_root_byte_above_7(self):
        keys = [root(number, KEY) for number in range(8)]
        for number in (8, 9, 16, 128, 255):
            self.assertEqual(allowed(worked_token(number, 0, 1), *keys), [2])

    def test_behind_unroot(self):
        self.assertEqual(allowed(worked_token(1, 0, 1), [2, 1]), [2])

    def test_told_before_the_later_ones(self):
        for number in (0, 8, 255):
            for caveats in ([], [FAILS], [COUNTED], [COUNTED, FAILS]):
                for row in (worked_token(number, 0, 1, caveats), unsealed_token(number, caveats)):
                    self.assertEqual(allowed(row, *SIXTEEN_COUNTS), [2])
        self.assertEqual(allowed(worked_token(1, 0, 1, [FAILS]), revoke(1, 0, 1), [2, 1]), [2])


class WrongSeal(unittest.TestCase):
    def test_one_byte_of_the_seal_changed(self):
        for caveats in ([], [HOLDS], [HOLDS] * 6):
            token = worked_token(1, 0, 1, caveats)
            for place in range(len(token) - 8, len(token)):
                for bit in (1, 128):
                    self.assertEqual(allowed(byte_changed(token, place, bit)), [3])

    def test_any_other_byte_changed(self):
        token = worked_token(1, 0, 1, [(PATH, [47]), (PATH, [47, 97])])
        self.assertEqual(allowed(token), [0])
        self.assertEqual(allowed(byte_changed(token, 0, 3)), [3])
        for place in (1, 2, 3, 4, 5, 6, 7, 8, 10, 12, 13, 15, 16):
            self.assertEqual(allowed(byte_changed(token, place)), [3], place)

    def test_another_key(self):
        for caveats in ([], [HOLDS]):
            self.assertEqual(allowed(worked_token(1, 0, 1, caveats, key=OTHER_KEY)), [3])
            self.assertEqual(allowed(worked_token(2, 0, 1, caveats, key=KEY)), [3])
            self.assertEqual(allowed(worked_token(1, 0, 1, caveats), root(1, OTHER_KEY)), [3])
            self.assertEqual(allowed(worked_token(1, 0, 1, caveats), root(1, KEY[::-1])), [3])

    def test_root_changed_to_one_with_the_same_key(self):
        token = worked_token(1, 0, 1)
        self.assertEqual(allowed([2] + token[1:], root(2, KEY)), [3])

    def test_caveat_taken_off(self):
        caveats = [(PATH, [47]), (BEFORE, eight(9)), HOLDS, (OPS, four(255))]
        for many in range(1, 5):
            seal = worked_token(1, 0, 1, caveats[:many])[-8:]
            for place in range(many):
                fewer = caveats[:place] + caveats[place + 1:many]
                self.assertEqual(allowed(worked_token(1, 0, 1, fewer)[:-8] + seal), [3])
            self.assertEqual(allowed(worked_token(1, 0, 1)[:-8] + seal), [3])

    def test_caveat_put_in_another_place(self):
        caveats = [(PATH, [47]), (BEFORE, eight(9)), HOLDS]
        seal = worked_token(1, 0, 1, caveats)[-8:]
        for order in ((0, 2, 1), (1, 0, 2), (1, 2, 0), (2, 0, 1), (2, 1, 0)):
            moved = [caveats[place] for place in order]
            self.assertEqual(allowed(worked_token(1, 0, 1, moved)[:-8] + seal), [3])

    def test_caveat_changed(self):
        seal = worked_token(1, 0, 1, [(PATH, [47]), HOLDS])[-8:]
        for caveat in ((PATH, []), (PATH, [46]), (BEFORE, [47]), (PATH, [47, 97]), (PATH, [0, 47])):
            for caveats in ([caveat, HOLDS], [caveat], [HOLDS, caveat]):
                self.assertEqual(allowed(worked_token(1, 0, 1, caveats)[:-8] + seal), [3])

    def test_caveat_put_on_with_the_old_seal(self):
        seal = worked_token(1, 0, 1)[-8:]
        self.assertEqual(allowed(worked_token(1, 0, 1, [HOLDS])[:-8] + seal), [3])

    def test_bytes_moved_between_two_arguments(self):
        seal = worked_token(1, 0, 1, [(PATH, [47, 97]), (PATH, [])])[-8:]
        self.assertEqual(allowed(worked_token(1, 0, 1, [(PATH, [47]), (PATH, [47, 97])])[:-8] + seal), [3])
        self.assertEqual(allowed(worked_token(1, 0, 1, [(PATH, []), (PATH, [47, 97])])[:-8] + seal), [3])

    def test_narrowed_from_a_seal_that_is_not_right(self):
        for token in (unsealed_token(1), byte_changed(worked_token(1, 0, 1), 17), worked_token(1, 0, 1, key=OTHER_KEY)):
            for turn in range(6):
                token = told(narrow(PATH, token, [47]))[0][1:]
                self.assertEqual(allowed(token), [3])

    def test_told_before_the_later_ones(self):
        for caveats in ([], [FAILS], [COUNTED], [COUNTED, FAILS]):
            row = byte_changed(worked_token(1, 0, 1, caveats), 9 + 1 + sum(2 + len(caveat[1]) for caveat in caveats))
            self.assertEqual(allowed(row, revoke(1, 0, 1)), [3])
            self.assertEqual(allowed(row, *SIXTEEN_COUNTS), [3])
            self.assertEqual(allowed(row, *SIXTEEN_COUNTS, revoke(1, 0, 1)), [3])


class Revoked(unittest.TestCase):
    def test_with_and_without_caveats(self):
        for caveats in ([], [HOLDS], [COUNTED], [HOLDS] * 6):
            token = worked_token(1, 2, 3, caveats)
            self.assertEqual(allowed(token), [0])
            self.assertEqual(allowed(token, revoke(1, 2, 3)), [4])

    def test_only_that_root_and_serial(self):
        others = [revoke(1, 2, 4), revoke(1, 3, 3), revoke(1, 3, 2), revoke(2, 2, 3), revoke(1, 0, 0)]
        self.assertEqual(allowed(worked_token(1, 2, 3), *others), [0])
        self.assertEqual(allowed(worked_token(1, 3, 3), *others), [4])
        self.assertEqual(allowed(worked_token(1, 2, 4), *others), [4])
        self.assertEqual(allowed(worked_token(2, 2, 3, key=OTHER_KEY), *others), [4])
        self.assertEqual(allowed(worked_token(2, 2, 4, key=OTHER_KEY), *others), [0])

    def test_serials_at_their_edges(self):
        for high in (0, 1, TOP):
            for low in (0, 1, TOP):
                self.assertEqual(allowed(worked_token(1, high, low), revoke(1, high, low)), [4])

    def test_told_before_the_later_ones(self):
        for caveats in ([FAILS], [COUNTED], [COUNTED, FAILS], [(0, [])]):
            row = worked_token(1, 0, 1, caveats)
            self.assertEqual(allowed(row, revoke(1, 0, 1)), [4])
            self.assertEqual(allowed(row, *SIXTEEN_COUNTS, revoke(1, 0, 1)), [4])


class CaveatThatFails(unittest.TestCase):
    def test_its_number_from_0_to_5(self):
        for many in range(1, 7):
            for place in range(many):
                caveats = [HOLDS] * many
                caveats[place] = FAILS
                self.assertEqual(allowed(worked_token(1, 0, 1, caveats)), [5, place])

    def test_the_first_of_several(self):
        for place in range(6):
            self.assertEqual(allowed(worked_token(1, 0, 1, [HOLDS] * place + [FAILS] * (6 - place))), [5, place])
        self.assertEqual(allowed(worked_token(1, 0, 1, [HOLDS, (255, []), COUNTED, FAILS])), [5, 1])

    def test_told_before_16_counts(self):
        for caveats, place in (([COUNTED, FAILS], 1), ([FAILS, COUNTED], 0), ([(USES, four(0))], 0)):
            self.assertEqual(allowed(worked_token(1, 0, 1, caveats), *SIXTEEN_COUNTS), [5, place])


class SixteenCounts(unittest.TestCase):
    def test_answers_6_alone(self):
        self.assertEqual(allowed(worked_token(1, 0, 1, [COUNTED]), *SIXTEEN_COUNTS[:-1]), [0])
        self.assertEqual(allowed(worked_token(1, 0, 1, [COUNTED]), *SIXTEEN_COUNTS), [6])
        self.assertEqual(allowed(worked_token(1, 0, 1, [HOLDS, COUNTED, HOLDS]), *SIXTEEN_COUNTS), [6])


class NothingElseIsChanged(unittest.TestCase):
    def test_by_any_answer(self):
        counted = worked_token(1, 0, 1, [COUNTED])
        asked = [
            allow(0, 0, [], []), allow(0, 0, worked_token(3, 0, 1), []), allow(0, 0, unsealed_token(1), []),
            allow(0, 0, worked_token(1, 0, 2, [COUNTED]), []), allow(0, 0, worked_token(1, 0, 1, [COUNTED, FAILS]), []),
            allow(0, 0, worked_token(1, 0, 1), []), allow(0, 0, worked_token(1, 0, 99, [COUNTED]), [])]
        looks = [uses(1, 0, 1), uses(1, 0, 2), uses(1, 0, 99), right(counted), [3, 1, 5, 5]]
        state = [root(1, KEY), revoke(1, 0, 2), allow(0, 0, counted, [])] + SIXTEEN_COUNTS[:-1]
        line = told(*state, *looks, *asked, *looks)
        self.assertEqual(line[len(state) + 5:-5], [[1], [2], [3], [4], [5, 1], [0], [6]])
        self.assertEqual(line[-5:], line[len(state):len(state) + 5])
        self.assertEqual(line[-5:-1], [[1], [0], [0], [1]])


if __name__ == "__main__":
    unittest.main()
