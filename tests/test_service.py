import unittest

from narrowtokens.service import Service
from tests.helper import (
    KEY, OTHER_KEY, TOP, counted, init, issue, narrow, root, told, unroot, worked_token)


class Init(unittest.TestCase):
    def test_answers_0(self):
        self.assertEqual(told(init()), [[0]])
        self.assertEqual(told(init(), init()), [[0], [0]])

    def test_no_keys_behind_it(self):
        keys = [root(number, KEY) for number in range(8)]
        issues = [issue(number, 0, 0) for number in range(8)]
        self.assertEqual(told(*keys, init(), *issues), [[0]] * 9 + [[-1]] * 8)

    def test_keys_can_be_given_again(self):
        line = told(root(0, KEY), init(), root(0, OTHER_KEY), issue(0, 0, 1))
        self.assertEqual(line[3], counted(worked_token(0, 0, 1, key=OTHER_KEY)))

    def test_no_revocations_and_counts_behind_it(self):
        service = Service()
        service.revocations = {(1, 2): True}
        service.counts = {(1, 2): 3}
        self.assertEqual(service.begin_anew(), [0])
        self.assertEqual((service.root_keys, service.revocations, service.counts), ({}, {}, {}))


class Root(unittest.TestCase):
    def test_every_root_from_0_to_7(self):
        for number in range(8):
            self.assertEqual(
                told(root(number, KEY), issue(number, 1, 2)), [[0], counted(worked_token(number, 1, 2))])

    def test_root_too_high(self):
        for number in (8, 9, 255, 256, TOP):
            self.assertEqual(told(root(number, KEY), issue(number, 0, 0)), [[-1], [-1]])

    def test_key_without_8_bytes(self):
        for length in (0, 1, 7, 9, 16, 160):
            self.assertEqual(told(root(0, [5] * length), issue(0, 0, 0)), [[-1], [-1]])

    def test_both_wrong(self):
        self.assertEqual(told(root(8, [5] * 7)), [[-1]])

    def test_refused_root_leaves_the_key(self):
        for wrong in (root(0, [5] * 7), root(0, [5] * 9), root(0, []), root(8, OTHER_KEY), root(TOP, OTHER_KEY)):
            line = told(root(0, KEY), wrong, issue(0, 3, 4))
            self.assertEqual(line, [[0], [-1], counted(worked_token(0, 3, 4))])

    def test_second_key_takes_the_firsts_place(self):
        line = told(root(7, KEY), root(7, OTHER_KEY), issue(7, 3, 4))
        self.assertEqual(line, [[0], [0], counted(worked_token(7, 3, 4, key=OTHER_KEY))])

    def test_each_root_has_its_own_key(self):
        line = told(root(0, KEY), root(7, OTHER_KEY), issue(0, 1, 1), issue(7, 1, 1))
        self.assertEqual(line[2], counted(worked_token(0, 1, 1)))
        self.assertEqual(line[3], counted(worked_token(7, 1, 1, key=OTHER_KEY)))

    def test_keys_of_lowest_and_highest_bytes(self):
        for key in ([0] * 8, [255] * 8):
            self.assertEqual(told(root(2, key), issue(2, 0, 0))[1], counted(worked_token(2, 0, 0, key=key)))


class Unroot(unittest.TestCase):
    def test_with_and_without_a_key(self):
        for number in (0, 7):
            line = told(unroot(number), root(number, KEY), unroot(number), issue(number, 0, 0), unroot(number))
            self.assertEqual(line, [[0], [0], [0], [-1], [0]])

    def test_root_too_high(self):
        for number in (8, 9, 256, TOP):
            self.assertEqual(told(unroot(number)), [[-1]])

    def test_other_roots_keep_their_keys(self):
        keys = [root(number, KEY) for number in range(8)]
        line = told(*keys, unroot(3), *[issue(number, 0, 9) for number in range(8)])
        expected = [counted(worked_token(number, 0, 9)) for number in range(8)]
        expected[3] = [-1]
        self.assertEqual(line[9:], expected)

    def test_refused_unroot_changes_nothing(self):
        keys = [root(number, KEY) for number in range(8)]
        line = told(*keys, unroot(8), unroot(TOP), *[issue(number, 0, 9) for number in range(8)])
        self.assertEqual(line[8:10], [[-1], [-1]])
        self.assertEqual(line[10:], [counted(worked_token(number, 0, 9)) for number in range(8)])


class RevocationsAndCountsOfARoot(unittest.TestCase):
    def setUp(self):
        self.service = Service()
        self.service.set_key(1, KEY)
        self.service.set_key(2, KEY)
        self.service.revocations = {(0, 1): True, (1, 5): True, (2, 1): True, (1, 6): True}
        self.service.counts = {(2, 5): 4, (1, 1): 1, (0, 1): 2}

    def test_gone_with_a_new_key(self):
        self.assertEqual(self.service.set_key(1, KEY), [0])
        self.assertEqual(self.service.revocations, {(0, 1): True, (2, 1): True})
        self.assertEqual(self.service.counts, {(2, 5): 4, (0, 1): 2})

    def test_gone_with_the_key(self):
        self.assertEqual(self.service.take_key(1), [0])
        self.assertEqual(self.service.revocations, {(0, 1): True, (2, 1): True})
        self.assertEqual(self.service.counts, {(2, 5): 4, (0, 1): 2})

    def test_refusals_leave_them(self):
        self.assertEqual(self.service.set_key(1, KEY + [9]), [-1])
        self.assertEqual(self.service.set_key(8, KEY), [-1])
        self.assertEqual(self.service.take_key(8), [-1])
        self.assertEqual(self.service.revocations, {(0, 1): True, (1, 5): True, (2, 1): True, (1, 6): True})
        self.assertEqual(self.service.counts, {(2, 5): 4, (1, 1): 1, (0, 1): 2})


class Issue(unittest.TestCase):
    def test_a_token_told_byte_by_byte(self):
        token = [3, 4, 3, 0, 0, 2, 1, 0, 0, 0, 168, 118, 190, 8, 234, 182, 64, 72]
        self.assertEqual(told(root(3, KEY), issue(3, 258, 772))[1], [18] + token)

    def test_high_and_low_at_their_edges(self):
        for high in (0, 1, TOP):
            for low in (0, 1, TOP):
                for number in (0, 7):
                    line = told(root(number, OTHER_KEY), issue(number, high, low))
                    self.assertEqual(line[1], counted(worked_token(number, high, low, key=OTHER_KEY)))

    def test_serial_stands_with_its_lowest_byte_first(self):
        token = told(root(0, KEY), issue(0, 0x01020304, 0x05060708))[1][1:]
        self.assertEqual(token[1:9], [8, 7, 6, 5, 4, 3, 2, 1])

    def test_no_key(self):
        self.assertEqual(told(*[issue(number, 0, 0) for number in range(8)]), [[-1]] * 8)
        self.assertEqual(told(root(0, KEY), issue(1, 0, 0)), [[0], [-1]])

    def test_root_too_high(self):
        keys = [root(number, KEY) for number in range(8)]
        line = told(*keys, issue(8, 0, 0), issue(256, 0, 0), issue(TOP, 0, 0))
        self.assertEqual(line[8:], [[-1]] * 3)

    def test_the_same_token_each_time(self):
        line = told(root(0, KEY), issue(0, 1, 2), issue(1, 1, 2), issue(0, 1, 2))
        self.assertEqual(line[1], line[3])

    def test_narrowing_an_issued_token_changes_no_key(self):
        token = worked_token(0, 1, 2)
        line = told(root(0, KEY), narrow(1, token, []), issue(0, 1, 2))
        self.assertEqual(line[2], counted(token))


if __name__ == "__main__":
    unittest.main()
