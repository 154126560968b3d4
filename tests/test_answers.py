import builtins
import contextlib
import io
import unittest
from unittest import mock

from narrowtokens.tokens import UnknownCall, answers
from tests.helper import KEY, check, init, issue, narrow, root, unroot, unsealed_token, worked_token


class Unchanging(list):
    """A list that tells at once when it is changed, even if it were put right again."""

    def refuse(self, *ignored, **ignored_too):
        raise AssertionError("the list handed in is changed")

    append = clear = extend = insert = pop = remove = reverse = sort = refuse
    __setitem__ = __delitem__ = __iadd__ = __imul__ = refuse


def every_call():
    token = worked_token(1, 2, 3)
    return (
        init() + root(1, KEY) + root(8, KEY) + issue(1, 2, 3) + check(token) + narrow(4, token, [47])
        + narrow(256, token, []) + check([]) + unroot(1) + issue(1, 2, 3) + unroot(8))


def every_answer():
    narrower = worked_token(1, 2, 3, [(4, [47])])
    return (
        [1, 0, 1, 0, 1, -1, 19, 18] + worked_token(1, 2, 3) + [1, 0, 22, 21] + narrower
        + [1, -2, 1, -1, 1, 0, 1, -1, 1, -1])


class Answers(unittest.TestCase):
    def test_several_calls_with_their_counts(self):
        self.assertEqual(answers(every_call()), every_answer())

    def test_one_call(self):
        self.assertEqual(answers([0]), [1, 0])
        self.assertEqual(answers([3, 0, 0, 0]), [1, -1])
        self.assertEqual(answers([4, 0]), [1, -1])
        self.assertEqual(answers([5, 0, 0, 0]), [1, -1])

    def test_a_new_object_has_no_keys(self):
        for number in range(8):
            self.assertEqual(answers(issue(number, 0, 0)), [1, -1])

    def test_rows_that_look_like_calls(self):
        line = root(0, [0] * 8) + root(1, [3] * 8) + check([0] * 5) + narrow(0, [2] * 4, [1] * 3) + init()
        self.assertEqual(answers(line), [1, 0, 1, 0, 1, -1, 1, -1, 1, 0])

    def test_the_list_is_the_same_behind_the_call(self):
        line = every_call()
        answers(line)
        self.assertEqual(line, every_call())

    def test_the_list_is_not_changed_for_a_while_either(self):
        self.assertEqual(answers(Unchanging(every_call())), every_answer())

    def test_the_same_list_twice(self):
        line = every_call()
        first = answers(line)
        self.assertEqual(answers(line), first)

    def test_no_keys_are_kept_from_one_time_to_the_next(self):
        self.assertEqual(answers(root(0, KEY)), [1, 0])
        self.assertEqual(answers(issue(0, 0, 0)), [1, -1])

    def test_what_is_given_back_may_be_changed(self):
        first = answers(every_call())
        first.clear()
        self.assertEqual(answers(every_call()), every_answer())

    def test_changing_the_list_afterwards_changes_no_answer(self):
        line = every_call()
        given = answers(line)
        line.clear()
        self.assertEqual(given, every_answer())

    def test_200_calls(self):
        line = root(0, KEY)
        expected = [1, 0]
        for low in range(199):
            line += issue(0, 0, low)
            expected += [19, 18] + worked_token(0, 0, low)
        self.assertEqual(answers(line), expected)

    def test_200_calls_of_30000_numbers(self):
        line = check([6] * 148) * 200
        self.assertEqual(len(line), 30000)
        self.assertEqual(answers(line), [1, -1] * 200)

    def test_only_whole_numbers_are_given_back(self):
        given = answers(every_call() + check(unsealed_token(caveats=[(1, [])])))
        self.assertIs(type(given), list)
        self.assertEqual({type(number) for number in given}, {int})

    def test_nothing_is_printed_read_or_imported(self):
        printed = io.StringIO()
        refused = AssertionError("nothing is to be read or imported")
        with contextlib.redirect_stdout(printed), contextlib.redirect_stderr(printed), \
                mock.patch.object(builtins, "open", side_effect=refused), \
                mock.patch.object(builtins, "input", side_effect=refused), \
                mock.patch.object(builtins, "__import__", side_effect=refused):
            given = answers(every_call())
        self.assertEqual(given, every_answer())
        self.assertEqual(printed.getvalue(), "")

    def test_a_call_that_there_is_not_is_told_loudly(self):
        with self.assertRaises(UnknownCall):
            answers([0, 99])


if __name__ == "__main__":
    unittest.main()
