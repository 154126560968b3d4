"""What allow counts, and what uses tells of it."""

import unittest

from tests.helper import (
    FROM, KEY, OTHER_KEY, PATH, TOP, USES, allow, eight, four, init, revoke, root, told, unroot, unsealed_token,
    used_once, uses, worked_token)

FAILS = (FROM, eight(2**64 - 1))


def counted(number, high, low, most=3, key=KEY):
    return worked_token(number, high, low, [(USES, four(most))], key)


def asked(token, path=()):
    return allow(0, 0, token, path)


class Counting(unittest.TestCase):
    def test_three_times_then_5(self):
        token = counted(1, 2, 3)
        line = told(root(1, KEY), *[asked(token), uses(1, 2, 3)] * 5)
        self.assertEqual(line[1:], [[0], [1], [0], [2], [0], [3], [5, 0], [3], [5, 0], [3]])

    def test_two_tokens_of_one_root_and_serial_have_one_count(self):
        wide = counted(1, 2, 3)
        narrow = worked_token(1, 2, 3, [(PATH, []), (USES, four(2))])
        line = told(
            root(1, KEY), asked(wide), asked(narrow), asked(narrow), asked(wide), asked(wide), asked(narrow),
            uses(1, 2, 3))
        self.assertEqual(line[1:], [[0], [0], [5, 1], [0], [5, 0], [5, 1], [3]])

    def test_two_caveats_on_one_token_count_one(self):
        token = worked_token(1, 2, 3, [(USES, four(3)), (USES, four(2))])
        line = told(root(1, KEY), asked(token), uses(1, 2, 3), asked(token), uses(1, 2, 3), asked(token), uses(1, 2, 3))
        self.assertEqual(line[1:], [[0], [1], [0], [2], [5, 1], [2]])
        token = worked_token(1, 2, 3, [(USES, four(1)), (USES, four(2))])
        self.assertEqual(told(root(1, KEY), asked(token), asked(token), uses(1, 2, 3))[1:], [[0], [5, 0], [1]])
        token = worked_token(1, 2, 3, [(USES, four(9))] * 6)
        self.assertEqual(told(root(1, KEY), asked(token), uses(1, 2, 3))[1:], [[0], [1]])

    def test_the_caveat_may_stand_anywhere(self):
        for place in range(6):
            caveats = [(PATH, [])] * 6
            caveats[place] = (USES, four(1))
            token = worked_token(1, 2, 3, caveats)
            line = told(root(1, KEY), asked(token), uses(1, 2, 3), asked(token))
            self.assertEqual(line[1:], [[0], [1], [5, place]])

    def test_token_without_kind_5_counts_nothing(self):
        for caveats in ([], [(PATH, [])], [(PATH, [5, 4, 3, 0, 0, 0])]):
            token = worked_token(1, 2, 3, caveats)
            line = told(root(1, KEY), *[allow(0, 0, token, [5, 4, 3, 0, 0, 0])] * 3, uses(1, 2, 3))
            self.assertEqual(line[1:], [[0]] * 3 + [[0]])

    def test_token_without_kind_5_is_not_held_back_by_the_count(self):
        token = worked_token(1, 2, 3)
        line = told(
            root(1, KEY), *[asked(counted(1, 2, 3, 1))] * 2, *[asked(token)] * 2, asked(counted(1, 2, 3, 1)),
            uses(1, 2, 3))
        self.assertEqual(line[1:], [[0], [5, 0], [0], [0], [5, 0], [1]])

    def test_every_other_answer_leaves_the_count(self):
        token = counted(1, 2, 3)
        wrong = [
            (asked(token + [0]), [1]), (asked(counted(4, 2, 3)), [2]), (asked(unsealed_token(1)), [3]),
            (asked(token[:-1] + [token[-1] ^ 1]), [3]),
            (asked(worked_token(1, 2, 3, [(USES, four(3)), FAILS])), [5, 1]),
            (asked(worked_token(1, 2, 3, [FAILS, (USES, four(3))])), [5, 0]), (asked(counted(1, 2, 3, 0)), [5, 0])]
        for call, answer in wrong:
            line = told(root(1, KEY), call, uses(1, 2, 3), asked(token), call, uses(1, 2, 3))
            self.assertEqual(line[1:], [answer, [0], [0], answer, [1]])

    def test_revoked_leaves_the_count(self):
        token = counted(1, 2, 3)
        line = told(root(1, KEY), asked(token), revoke(1, 2, 3), asked(token), uses(1, 2, 3))
        self.assertEqual(line[1:], [[0], [0], [4], [1]])

    def test_each_root_and_serial_has_its_own(self):
        pairs = [(0, 0, 0), (0, 0, 1), (0, 1, 0), (1, 0, 0), (0, TOP, TOP), (1, 1, 1)]
        for pair in pairs:
            line = told(root(0, KEY), root(1, KEY), *[asked(counted(*pair))] * 2, *[uses(*other) for other in pairs])
            self.assertEqual(line[4:], [[2 if other == pair else 0] for other in pairs])


class SixteenCounts(unittest.TestCase):
    def setUp(self):
        self.keys = [root(number, KEY) for number in range(4)]
        self.pairs = [(number, high, low) for number in (0, 1) for high in (0, TOP) for low in (0, 1, 2, TOP)]
        self.full = self.keys + [used_once(*pair) for pair in self.pairs]

    def behind(self, *calls):
        line = told(*self.full, *calls)
        self.assertEqual(line[:20], [[0]] * 20)
        return line[20:]

    def test_the_17th_answers_6_and_nothing_changes(self):
        looks = [uses(*pair) for pair in self.pairs]
        for pair in ((0, 0, 3), (1, 1, 0), (2, 0, 0), (3, 7, 7)):
            line = self.behind(*[asked(counted(*pair))] * 2, uses(*pair), *looks)
            self.assertEqual(line, [[6], [6], [0]] + [[1]] * 16)

    def test_one_that_has_a_count_goes_on_being_counted(self):
        for pair in self.pairs:
            line = self.behind(*[asked(counted(*pair))] * 3, uses(*pair), asked(counted(2, 0, 0)))
            self.assertEqual(line, [[0], [0], [5, 0], [3], [6]])

    def test_a_token_without_kind_5_is_allowed(self):
        tokens = [worked_token(2, 0, 0), worked_token(0, 0, 3, [(PATH, [])]), worked_token(0, 0, 0)]
        self.assertEqual(self.behind(*[asked(token) for token in tokens]), [[0]] * 3)

    def test_room_behind_unroot(self):
        line = self.behind(
            unroot(0), asked(counted(2, 0, 0)), *[used_once(3, 0, low) for low in range(8)],
            uses(1, 0, 0), uses(1, TOP, TOP), asked(counted(1, 0, 0)), uses(1, 0, 0))
        self.assertEqual(line, [[0], [0]] + [[0]] * 7 + [[6], [1], [1], [0], [2]])

    def test_room_behind_root(self):
        for key in (KEY, OTHER_KEY):
            line = self.behind(
                root(1, key), asked(counted(1, 0, 0, key=key)), uses(1, 0, 0), uses(1, 0, 1),
                *[used_once(3, 0, low) for low in range(8)], uses(0, 0, 0))
            self.assertEqual(line, [[0], [0], [1], [0]] + [[0]] * 7 + [[6], [1]])

    def test_no_room_behind_root_or_unroot_of_a_root_without_counts(self):
        line = self.behind(
            root(2, OTHER_KEY), unroot(3), unroot(5), unroot(8), root(0, []), asked(counted(2, 0, 0, key=OTHER_KEY)))
        self.assertEqual(line, [[0], [0], [0], [-1], [-1], [6]])

    def test_room_behind_init(self):
        line = self.behind(init(), root(0, KEY), *[used_once(0, 9, low) for low in range(17)])
        self.assertEqual(line, [[0]] * 18 + [[6]])

    def test_revocations_take_no_room(self):
        revoked = [revoke(3, 0, low) for low in range(16)]
        line = told(root(3, KEY), *revoked, *[used_once(3, 1, low) for low in range(17)])
        self.assertEqual(line, [[0]] * 33 + [[6]])


class Uses(unittest.TestCase):
    def test_0_where_there_is_none(self):
        for number in range(8):
            self.assertEqual(told(root(number, KEY), uses(number, 0, 0), uses(number, TOP, TOP)), [[0]] * 3)

    def test_serials_at_their_edges(self):
        for high in (0, 1, TOP):
            for low in (0, 1, TOP):
                line = told(root(7, KEY), *[asked(counted(7, high, low))] * 2, uses(7, high, low))
                self.assertEqual(line[3], [2])

    def test_no_key(self):
        self.assertEqual(told(*[uses(number, 0, 0) for number in range(8)]), [[-1]] * 8)
        self.assertEqual(told(root(0, KEY), uses(1, 0, 0)), [[0], [-1]])

    def test_root_above_7(self):
        keys = [root(number, KEY) for number in range(8)]
        line = told(*keys, *[uses(number, 0, 0) for number in (8, 9, 255, 256, TOP)])
        self.assertEqual(line[8:], [[-1]] * 5)

    def test_0_again_behind_root_with_the_same_key(self):
        token = counted(1, 2, 3)
        line = told(
            root(1, KEY), root(0, KEY), *[asked(token)] * 4, used_once(0, 2, 3), root(1, KEY), uses(1, 2, 3),
            asked(token), uses(1, 2, 3), uses(0, 2, 3))
        self.assertEqual(line[5:], [[5, 0], [0], [0], [0], [0], [1], [1]])

    def test_behind_unroot(self):
        token = counted(1, 2, 3)
        line = told(
            root(1, KEY), root(0, KEY), asked(token), used_once(0, 2, 3), unroot(1), uses(1, 2, 3), root(1, KEY),
            uses(1, 2, 3), uses(0, 2, 3))
        self.assertEqual(line[4:], [[0], [-1], [0], [0], [1]])

    def test_asking_changes_nothing(self):
        line = told(root(1, KEY), *[uses(1, 0, low) for low in range(20)], *[used_once(1, 1, low) for low in range(17)])
        self.assertEqual(line[21:], [[0]] * 16 + [[6]])

    def test_it_tells_of_revoked_ones_too(self):
        line = told(root(1, KEY), used_once(1, 2, 3), revoke(1, 2, 3), uses(1, 2, 3))
        self.assertEqual(line[3], [1])


if __name__ == "__main__":
    unittest.main()
