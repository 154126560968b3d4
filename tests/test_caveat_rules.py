"""When a caveat holds, kind by kind, seen through allow."""

import unittest

from tests.helper import BEFORE, FROM, KEY, OPS, PATH, TOP, USES, allow, eight, four, root, told, uses, worked_token


def holds(kind, argument, now=0, op=0, path=()):
    answer = told(root(0, KEY), allow(now, op, worked_token(0, 0, 0, [(kind, argument)]), path))[1]
    if answer not in ([0], [5, 0]):
        raise AssertionError(f"allow answered {answer}")
    return answer == [0]


class Before(unittest.TestCase):
    def test_now_below_at_and_above(self):
        for number in (1, 2, 255, 256, 65536, 2**24, 2**31, TOP - 1):
            self.assertTrue(holds(BEFORE, eight(number), now=0))
            self.assertTrue(holds(BEFORE, eight(number), now=number - 1))
            self.assertFalse(holds(BEFORE, eight(number), now=number))
            self.assertFalse(holds(BEFORE, eight(number), now=number + 1))
            self.assertFalse(holds(BEFORE, eight(number), now=TOP))

    def test_the_lowest_and_the_highest_number(self):
        self.assertFalse(holds(BEFORE, eight(0), now=0))
        self.assertFalse(holds(BEFORE, eight(0), now=1))
        self.assertTrue(holds(BEFORE, eight(TOP), now=TOP - 1))
        self.assertFalse(holds(BEFORE, eight(TOP), now=TOP))

    def test_number_above_4294967295(self):
        for number in (TOP + 1, TOP + 2, 2**40, 2**48, 2**56, 2**63, 2**64 - 1):
            for now in (0, 1, TOP):
                self.assertTrue(holds(BEFORE, eight(number), now=now))

    def test_argument_without_8_bytes(self):
        for length in [length for length in range(17) if length != 8]:
            for byte in (0, 1, 255):
                for now in (0, 1, TOP):
                    self.assertFalse(holds(BEFORE, [byte] * length, now=now))


class From(unittest.TestCase):
    def test_now_below_at_and_above(self):
        for number in (1, 2, 255, 256, 65536, 2**24, 2**31, TOP - 1):
            self.assertFalse(holds(FROM, eight(number), now=0))
            self.assertFalse(holds(FROM, eight(number), now=number - 1))
            self.assertTrue(holds(FROM, eight(number), now=number))
            self.assertTrue(holds(FROM, eight(number), now=number + 1))
            self.assertTrue(holds(FROM, eight(number), now=TOP))

    def test_the_lowest_and_the_highest_number(self):
        self.assertTrue(holds(FROM, eight(0), now=0))
        self.assertTrue(holds(FROM, eight(0), now=1))
        self.assertFalse(holds(FROM, eight(TOP), now=TOP - 1))
        self.assertTrue(holds(FROM, eight(TOP), now=TOP))

    def test_number_above_4294967295(self):
        for number in (TOP + 1, TOP + 2, 2**40, 2**48, 2**56, 2**63, 2**64 - 1):
            for now in (0, 1, TOP):
                self.assertFalse(holds(FROM, eight(number), now=now))

    def test_argument_without_8_bytes(self):
        for length in [length for length in range(17) if length != 8]:
            for byte in (0, 1, 255):
                for now in (0, 1, TOP):
                    self.assertFalse(holds(FROM, [byte] * length, now=now))


class Ops(unittest.TestCase):
    def test_every_op_with_its_bit_alone_and_without_it(self):
        for op in range(32):
            for other in range(32):
                self.assertEqual(holds(OPS, four(1 << other), op=op), op == other)
            self.assertFalse(holds(OPS, four(TOP ^ 1 << op), op=op))
            self.assertTrue(holds(OPS, four(TOP), op=op))
            self.assertFalse(holds(OPS, four(0), op=op))

    def test_the_bits_stand_with_the_lowest_byte_first(self):
        self.assertTrue(holds(OPS, [1, 0, 0, 0], op=0))
        self.assertFalse(holds(OPS, [0, 0, 0, 1], op=0))
        self.assertTrue(holds(OPS, [0, 0, 0, 128], op=31))
        self.assertFalse(holds(OPS, [128, 0, 0, 0], op=31))

    def test_op_32_and_above(self):
        for op in (32, 33, 63, 64, 255, 256, 2**31, TOP):
            for number in (0, 1, 2**31, TOP):
                self.assertFalse(holds(OPS, four(number), op=op))

    def test_argument_without_4_bytes(self):
        for length in [length for length in range(17) if length != 4]:
            for op in (0, 7, 31, 32, 63, TOP):
                self.assertFalse(holds(OPS, [255] * length, op=op))


class Path(unittest.TestCase):
    def test_empty_argument(self):
        for path in ([], [0], [47, 97], [255] * 160):
            self.assertTrue(holds(PATH, [], path=path))

    def test_the_same(self):
        for argument in ([0], [47], [47, 97, 0], [255] * 15, list(range(16))):
            self.assertTrue(holds(PATH, argument, path=argument))

    def test_path_longer(self):
        for argument in ([0], [47], [47, 97, 0], [255] * 15, list(range(16))):
            for more in ([0], [47], [1] * 16, [9] * (160 - len(argument))):
                self.assertTrue(holds(PATH, argument, path=argument + more))

    def test_path_shorter(self):
        for argument in ([0], [47, 97, 0], [0] * 16, list(range(16))):
            for length in range(len(argument)):
                self.assertFalse(holds(PATH, argument, path=argument[:length]))

    def test_one_byte_otherwise(self):
        argument = list(range(16))
        for place in range(16):
            path = list(argument)
            path[place] ^= 64
            self.assertFalse(holds(PATH, argument, path=path))
            self.assertFalse(holds(PATH, argument, path=path + [1, 2]))

    def test_argument_that_stands_later_in_the_path(self):
        self.assertFalse(holds(PATH, [97], path=[47, 97]))
        self.assertFalse(holds(PATH, [47, 97], path=[97, 47]))
        self.assertFalse(holds(PATH, [47, 97], path=[0, 47, 97]))

    def test_letters_are_bytes_like_others(self):
        self.assertFalse(holds(PATH, [97], path=[65]))
        self.assertFalse(holds(PATH, [47, 97], path=[47, 47, 97]))


class Uses(unittest.TestCase):
    def test_number_0(self):
        self.assertFalse(holds(USES, four(0)))

    def test_numbers_1_and_3(self):
        for number in (1, 3):
            token = worked_token(0, 0, 0, [(USES, four(number))])
            line = told(root(0, KEY), *[allow(0, 0, token, [])] * 5, uses(0, 0, 0))
            self.assertEqual(line[1:], [[0]] * number + [[5, 0]] * (5 - number) + [[number]])

    def test_number_stands_with_its_lowest_byte_first(self):
        for argument in ([0, 1, 0, 0], [0, 0, 1, 0], [0, 0, 0, 1], four(TOP)):
            token = worked_token(0, 0, 0, [(USES, argument)])
            self.assertEqual(told(root(0, KEY), *[allow(0, 0, token, [])] * 3)[1:], [[0]] * 3)

    def test_number_100_is_reached(self):
        token = worked_token(0, 0, 0, [(USES, [100, 0, 0, 0])])
        line = told(root(0, KEY), *[allow(0, 0, token, [])] * 102, uses(0, 0, 0))
        self.assertEqual(line[1:], [[0]] * 100 + [[5, 0]] * 2 + [[100]])

    def test_argument_without_4_bytes(self):
        for length in [length for length in range(17) if length != 4]:
            for byte in (1, 255):
                self.assertFalse(holds(USES, [byte] * length))


class OtherKinds(unittest.TestCase):
    def test_never_hold(self):
        for kind in [0] + list(range(6, 256)):
            for argument in ([], [255] * 4, [0] * 8, [255] * 8):
                self.assertFalse(holds(kind, argument))

    def test_never_hold_whatever_is_asked(self):
        for kind in (0, 6, 255):
            for now, op, path in ((0, 0, []), (TOP, 31, [255] * 16), (1, 1, [47]), (TOP, TOP, [0] * 160)):
                for length in range(17):
                    self.assertFalse(holds(kind, [255] * length, now, op, path))


if __name__ == "__main__":
    unittest.main()
