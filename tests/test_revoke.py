import unittest

from tests.helper import (
    KEY, OTHER_KEY, TOP, allow, init, revoke, root, told, unroot, used_once, uses, worked_token)


def asked(number, high, low, key=KEY):
    return allow(0, 0, worked_token(number, high, low, key=key), [])


class Revoke(unittest.TestCase):
    def test_0_and_0_once_more(self):
        for number in (0, 7):
            line = told(root(number, KEY), asked(number, 2, 3), *[revoke(number, 2, 3), asked(number, 2, 3)] * 2)
            self.assertEqual(line, [[0], [0], [0], [4], [0], [4]])

    def test_no_key(self):
        self.assertEqual(told(*[revoke(number, 0, 0) for number in range(8)]), [[-1]] * 8)
        self.assertEqual(told(root(0, KEY), revoke(1, 0, 0), unroot(0), revoke(0, 0, 0)), [[0], [-1], [0], [-1]])

    def test_root_above_7(self):
        keys = [root(number, KEY) for number in range(8)]
        line = told(*keys, *[revoke(number, 0, 0) for number in (8, 9, 255, 256, TOP)])
        self.assertEqual(line[8:], [[-1]] * 5)

    def test_one_of_a_root_without_a_key_is_not_kept(self):
        self.assertEqual(told(revoke(0, 1, 1), root(0, KEY), asked(0, 1, 1)), [[-1], [0], [0]])

    def test_what_differs_in_high_or_low_or_root_alone(self):
        pairs = [(0, 0, 0), (0, 0, 1), (0, 1, 0), (1, 0, 0), (0, TOP, 0), (0, 0, TOP), (0, TOP, TOP), (1, 1, 0)]
        for pair in pairs:
            line = told(root(0, KEY), root(1, KEY), revoke(*pair), *[asked(*other) for other in pairs])
            self.assertEqual(line[3:], [[4 if other == pair else 0] for other in pairs])

    def test_tokens_made_of_it_are_revoked_too(self):
        narrower = worked_token(0, 1, 2, [(4, [])] * 6)
        self.assertEqual(told(root(0, KEY), revoke(0, 1, 2), allow(0, 0, narrower, []))[2], [4])


class SixteenRevocations(unittest.TestCase):
    def setUp(self):
        self.pairs = [(number, high, low) for number in (0, 1) for high in (0, TOP) for low in (0, 1, 2, TOP)]
        self.full = [root(number, KEY) for number in range(4)] + [revoke(*pair) for pair in self.pairs]

    def behind(self, *calls):
        line = told(*self.full, *calls)
        self.assertEqual(line[:20], [[0]] * 20)
        return line[20:]

    def test_then_a_new_one_is_refused(self):
        for pair in ((0, 0, 3), (1, 1, 0), (2, 0, 0), (3, TOP, TOP)):
            line = self.behind(revoke(*pair), asked(*pair), revoke(*pair))
            self.assertEqual(line, [[-2], [0], [-2]])

    def test_and_one_that_is_revoked_already_is_not(self):
        again = [revoke(*pair) for pair in self.pairs]
        self.assertEqual(self.behind(*again, revoke(2, 0, 0)), [[0]] * 16 + [[-2]])

    def test_the_same_one_often_takes_one_place(self):
        line = told(root(0, KEY), *[revoke(0, 0, 0)] * 20, *[revoke(0, 1, low) for low in range(16)])
        self.assertEqual(line, [[0]] * 36 + [[-2]])

    def test_no_key_is_told_first(self):
        self.assertEqual(self.behind(revoke(5, 0, 0), revoke(8, 0, 0), revoke(TOP, 9, 9)), [[-1]] * 3)

    def test_refusals_change_nothing(self):
        looks = [asked(*pair) for pair in self.pairs]
        self.assertEqual(self.behind(revoke(2, 0, 0), revoke(5, 0, 0), *looks), [[-2], [-1]] + [[4]] * 16)

    def test_gone_behind_unroot(self):
        line = self.behind(
            unroot(0), root(0, KEY), *[asked(*pair) for pair in self.pairs], *[revoke(2, 0, low) for low in range(9)])
        self.assertEqual(line, [[0], [0]] + [[0]] * 8 + [[4]] * 8 + [[0]] * 8 + [[-2]])

    def test_gone_behind_root(self):
        for key in (KEY, OTHER_KEY):
            line = self.behind(
                root(1, key), *[asked(*pair, key=key if pair[0] == 1 else KEY) for pair in self.pairs],
                *[revoke(1, 7, low) for low in range(9)])
            self.assertEqual(line, [[0]] + [[4]] * 8 + [[0]] * 8 + [[0]] * 8 + [[-2]])

    def test_not_gone_behind_refused_calls_and_other_roots(self):
        line = self.behind(root(8, KEY), root(0, []), unroot(8), root(2, KEY), unroot(3), *[
            asked(*pair) for pair in self.pairs])
        self.assertEqual(line, [[-1], [-1], [-1], [0], [0]] + [[4]] * 16)

    def test_gone_behind_init(self):
        line = self.behind(init(), root(0, KEY), asked(0, 0, 0), *[revoke(0, 5, low) for low in range(17)])
        self.assertEqual(line, [[0]] * 3 + [[0]] * 16 + [[-2]])

    def test_counts_take_no_room(self):
        counts = [used_once(3, 0, low) for low in range(16)]
        line = told(root(3, KEY), *counts, *[revoke(3, 1, low) for low in range(17)])
        self.assertEqual(line, [[0]] * 33 + [[-2]])

    def test_a_count_stays(self):
        line = told(root(3, KEY), used_once(3, 1, 1), revoke(3, 1, 1), uses(3, 1, 1))
        self.assertEqual(line[3], [1])


class InitInTheMiddle(unittest.TestCase):
    def test_keys_revocations_and_counts_are_gone(self):
        state = [root(0, KEY), root(7, KEY), revoke(0, 0, 1), used_once(7, 0, 2)]
        line = told(*state, asked(0, 0, 1), uses(7, 0, 2), init(), asked(0, 0, 1), revoke(0, 0, 1), uses(7, 0, 2))
        self.assertEqual(line[4:], [[4], [1], [0], [2], [-1], [-1]])
        line = told(*state, init(), root(0, KEY), root(7, KEY), asked(0, 0, 1), uses(7, 0, 2))
        self.assertEqual(line[4:], [[0]] * 5)


if __name__ == "__main__":
    unittest.main()
