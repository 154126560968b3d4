import builtins
import contextlib
import io
import unittest
from unittest import mock

from narrowtokens.tokens import UnknownCall, answers
from tests.helper import (
    KEY, PATH, USES, allow, check, four, init, issue, narrow, parts, revoke, right, root, sum_call, unroot,
    unsealed_token, uses, worked_token)


class Unchanging(list):
    """A list that tells at once when it is changed, even if it were put right again."""

    def refuse(self, *ignored, **ignored_too):
        raise AssertionError("the list handed in is changed")

    append = clear = extend = insert = pop = remove = reverse = sort = refuse
    __setitem__ = __delitem__ = __iadd__ = __imul__ = refuse


def each_call():
    token = worked_token(1, 2, 3)
    counted = worked_token(1, 2, 3, [(PATH, [47]), (USES, four(1))])
    return [
        init(), root(1, KEY), root(8, KEY), issue(1, 2, 3), check(token), narrow(4, token, [47]), narrow(256, token, []),
        check([]), allow(5, 6, counted, [47, 97]), allow(5, 6, counted, [47]), allow(5, 6, counted, []), uses(1, 2, 3),
        uses(2, 2, 3), revoke(1, 2, 3), revoke(8, 2, 3), allow(5, 6, token, []), right(token), right(counted[:-1]),
        right(unsealed_token(1)), sum_call([97]), sum_call([]), parts(counted), parts([1]), unroot(1), right(token),
        issue(1, 2, 3), unroot(8)]


def every_call():
    return [number for call in each_call() for number in call]


def every_answer():
    narrower = worked_token(1, 2, 3, [(4, [47])])
    return (
        [1, 0, 1, 0, 1, -1, 19, 18] + worked_token(1, 2, 3) + [1, 0, 22, 21] + narrower
        + [1, -2, 1, -1, 1, 0, 2, 5, 1, 2, 5, 0, 1, 1, 1, -1, 1, 0, 1, -1, 1, 4, 1, 1, 1, -1, 1, 0]
        + [3, 0, 2942557260, 2248273036, 3, 0, 3421674724, 2216829733]
        + [13, 2, 1, 2, 3, 4, 1, 5, 4, 47, 1, 0, 0, 0, 1, -1, 1, 0, 1, -2, 1, -1, 1, -1])


class Answers(unittest.TestCase):
    def test_several_calls_with_their_counts(self):
        self.assertEqual(answers(every_call()), every_answer())

    def test_one_call(self):
        self.assertEqual(answers([0]), [1, 0])
        self.assertEqual(answers([3, 0, 0, 0]), [1, -1])
        self.assertEqual(answers([4, 0]), [1, -1])
        self.assertEqual(answers([5, 0, 0, 0]), [1, -1])
        self.assertEqual(answers([6, 0, 0, 0, 0]), [1, 1])
        self.assertEqual(answers([7, 0, 0, 0]), [1, -1])
        self.assertEqual(answers([8, 0, 0, 0]), [1, -1])
        self.assertEqual(answers([9, 0]), [1, -1])
        self.assertEqual(answers([10, 0]), [3, 0, 3421674724, 2216829733])
        self.assertEqual(answers([11, 0]), [1, -1])

    def test_all_twelve_calls_are_among_them(self):
        self.assertEqual({call[0] for call in each_call()}, set(range(12)))

    def test_a_new_object_has_no_keys(self):
        for number in range(8):
            self.assertEqual(answers(issue(number, 0, 0)), [1, -1])

    def test_rows_that_look_like_calls(self):
        line = root(0, [0] * 8) + root(1, [3] * 8) + check([0] * 5) + narrow(0, [2] * 4, [1] * 3) + init()
        self.assertEqual(answers(line), [1, 0, 1, 0, 1, -1, 1, -1, 1, 0])
        line = allow(6, 7, [6] * 7, [8] * 9) + right([10] * 11) + parts([9] * 9) + sum_call([97]) + init()
        self.assertEqual(answers(line), [1, 1, 1, -1, 1, -1, 3, 0, 2942557260, 2248273036, 1, 0])

    def test_the_list_is_the_same_behind_the_call(self):
        line = every_call()
        answers(line)
        self.assertEqual(line, every_call())

    def test_the_list_is_not_changed_for_a_while_either(self):
        self.assertEqual(answers(Unchanging(every_call())), every_answer())

    def test_the_same_list_twice(self):
        line = every_call()
        first = answers(line)
        self.assertEqual(answers(line), first)

    def test_no_keys_are_kept_from_one_time_to_the_next(self):
        self.assertEqual(answers(root(0, KEY)), [1, 0])
        self.assertEqual(answers(issue(0, 0, 0)), [1, -1])

    def test_no_revocations_and_counts_are_kept_from_one_time_to_the_next(self):
        token = worked_token(0, 0, 1, [(USES, four(1))])
        line = root(0, KEY) + allow(0, 0, token, []) + uses(0, 0, 1) + revoke(0, 0, 1) + allow(0, 0, token, [])
        for turn in range(3):
            self.assertEqual(answers(line), [1, 0, 1, 0, 1, 1, 1, 0, 1, 4])

    def test_what_is_given_back_may_be_changed(self):
        first = answers(every_call())
        first.clear()
        self.assertEqual(answers(every_call()), every_answer())

    def test_changing_the_list_afterwards_changes_no_answer(self):
        line = every_call()
        given = answers(line)
        line.clear()
        self.assertEqual(given, every_answer())

    def test_200_calls(self):
        line = root(0, KEY)
        expected = [1, 0]
        for low in range(199):
            line += issue(0, 0, low)
            expected += [19, 18] + worked_token(0, 0, low)
        self.assertEqual(answers(line), expected)

    def test_200_calls_of_30000_numbers(self):
        line = check([6] * 148) * 200
        self.assertEqual(len(line), 30000)
        self.assertEqual(answers(line), [1, -1] * 200)

    def test_200_calls_that_count(self):
        token = worked_token(0, 0, 1, [(USES, four(150))])
        line = root(0, KEY) + allow(0, 0, token, []) * 198 + uses(0, 0, 1)
        self.assertEqual(answers(line), [1, 0] * 151 + [2, 5, 0] * 48 + [1, 150])

    def test_nearly_30000_numbers_of_long_tokens_and_paths(self):
        token = worked_token(0, 0, 1, [(PATH, [47] * 16)] * 6)
        line = root(0, KEY) + allow(0, 0, token, [47] * 160) * 102 + sum_call([97] * 160)
        self.assertEqual((len(token), len(line)), (126, 29855))
        self.assertEqual(answers(line), [1, 0] * 103 + answers(sum_call([97] * 160)))

    def test_200_calls_of_nearly_30000_numbers_that_answer_much(self):
        token = unsealed_token(9, [(4, [place] * 16) for place in range(6)])
        line = parts(token) * 199 + init()
        heads = [4, 16] * 6 + [place for place in range(6) for turn in range(16)]
        self.assertEqual(answers(line), ([112, 6, 9, 0x08070605, 0x04030201] + heads) * 199 + [1, 0])

    def test_only_whole_numbers_are_given_back(self):
        given = answers(every_call() + check(unsealed_token(caveats=[(1, [])])))
        self.assertIs(type(given), list)
        self.assertEqual({type(number) for number in given}, {int})

    def test_nothing_is_printed_read_or_imported(self):
        printed = io.StringIO()
        refused = AssertionError("nothing is to be read or imported")
        with contextlib.redirect_stdout(printed), contextlib.redirect_stderr(printed), \
                mock.patch.object(builtins, "open", side_effect=refused), \
                mock.patch.object(builtins, "input", side_effect=refused), \
                mock.patch.object(builtins, "__import__", side_effect=refused):
            given = answers(every_call())
        self.assertEqual(given, every_answer())
        self.assertEqual(printed.getvalue(), "")

    def test_a_call_that_there_is_not_is_told_loudly(self):
        for call in (12, 99):
            with self.assertRaises(UnknownCall):
                answers([0, call])


if __name__ == "__main__":
    unittest.main()
