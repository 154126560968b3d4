"""The document's promises, P1 to P5, held over many lists of calls that are made up, the same ones each time."""

import random
import unittest

from tests.helper import (
    BEFORE, FROM, KEY, OPS, OTHER_KEY, PATH, USES, allow, check, eight, four, init, issue, narrow, parts, revoke, right,
    root, sum_call, told, unroot, unsealed_token, used_once, uses, worked_sum, worked_token)

SERIALS = [(0, 0), (0, 1), (1, 0)]
CAVEATS = [
    (BEFORE, eight(2)), (BEFORE, eight(2**40)), (FROM, eight(1)), (FROM, eight(0)), (OPS, four(3)), (OPS, four(2)),
    (PATH, []), (PATH, [47]), (PATH, [47, 97]), (USES, four(0)), (USES, four(1)), (USES, four(2)), (USES, four(5)),
    (BEFORE, []), (OPS, [255] * 3), (USES, [255] * 8), (0, []), (6, [])]
LIKELY = CAVEATS[:13]


def some_caveats(chance, most=3):
    return [chance.choice(LIKELY) for turn in range(chance.randint(0, most))]


def some_token(chance):
    high, low = chance.choice(SERIALS)
    caveats = some_caveats(chance)
    token = worked_token(chance.choice([0, 1, 1, 1, 8]), high, low, caveats, chance.choice([KEY, KEY, KEY, OTHER_KEY]))
    turn = chance.randint(0, 9)
    if turn == 0:
        return token[:-1]
    if turn == 1:
        return token[:-8] + [9] * 8
    return token


def some_request(chance, token):
    return allow(chance.randint(0, 3), chance.randint(0, 2), token, chance.choice([[], [47], [47, 97], [47, 97, 98]]))


def some_look(chance):
    """A call that changes nothing, whatever it answers."""
    token = some_token(chance)
    number = chance.choice([0, 1, 2, 8])
    high, low = chance.choice(SERIALS)
    return chance.choice([
        issue(number, high, low), check(token), narrow(chance.choice([4, 5, 256]), token, [1]), uses(number, high, low),
        right(token), sum_call(token), parts(token)])


def some_call(chance):
    number = chance.choice([0, 1, 1, 1, 8])
    turn = chance.randint(0, 59)
    if turn == 0:
        return init()
    if turn < 4:
        return root(number, chance.choice([KEY, KEY, OTHER_KEY, [1]]))
    if turn == 4:
        return unroot(number)
    if turn < 9:
        return revoke(number, *chance.choice(SERIALS + [(7, chance.randint(0, 30))]))
    if turn < 20:
        return used_once(1, 9, chance.randint(0, 30))
    if turn < 30:
        return some_look(chance)
    return some_request(chance, some_token(chance))


def some_calls(chance, many=60):
    return [root(0, KEY), root(1, KEY)] + [some_call(chance) for turn in range(many)]


def changes(call, answer):
    return call[0] in (0, 1, 2, 6, 7) and answer == [0]


class NarrowedAllowsLess(unittest.TestCase):
    def test_where_the_narrowed_token_is_allowed_the_first_is_too(self):
        chance = random.Random(1)
        both = 0
        less = 0
        for turn in range(1500):
            state = some_calls(chance, chance.choice([0, 5, 40]))
            token = worked_token(chance.choice([0, 1]), *chance.choice(SERIALS), some_caveats(chance))
            kind, argument = chance.choice(CAVEATS)
            narrower = told(narrow(kind, token, argument))[0][1:]
            asked = some_request(chance, token)
            asked_narrower = allow(asked[1], asked[2], narrower, asked[5 + len(token):])
            wide_answer = told(*state, asked)[-1]
            narrow_answer = told(*state, asked_narrower)[-1]
            if narrow_answer == [0]:
                self.assertEqual(wide_answer, [0])
                both += 1
            elif wide_answer == [0]:
                less += 1
        self.assertGreater(both, 50)
        self.assertGreater(less, 50)

    def test_with_16_counts(self):
        state = [root(1, KEY)] + [used_once(1, 0, low) for low in range(16)]
        for caveats in ([], [(USES, four(9))], [(PATH, []), (USES, four(9))], [(PATH, [])]):
            for low in (15, 16):
                token = worked_token(1, 0, low, caveats)
                for kind, argument in CAVEATS:
                    narrower = told(narrow(kind, token, argument))[0][1:]
                    if told(*state, allow(1, 1, narrower, [47, 97]))[-1] == [0]:
                        self.assertEqual(told(*state, allow(1, 1, token, [47, 97]))[-1], [0])


class Seals(unittest.TestCase):
    def test_tokens_of_one_root_and_serial_with_other_caveats_have_other_seals(self):
        seen = {}
        rows = [[]] + [[first] for first in CAVEATS] + [[first, second] for first in CAVEATS for second in CAVEATS]
        for caveats in rows:
            token = worked_token(1, 0, 0)
            for kind, argument in caveats:
                token = told(narrow(kind, token, argument))[0][1:]
            self.assertEqual(told(root(1, KEY), right(token))[1], [1])
            self.assertNotIn(tuple(token[-8:]), seen)
            seen[tuple(token[-8:])] = caveats
        self.assertEqual(len(seen), len(rows))

    def test_narrowed_from_a_seal_that_is_not_right_is_refused(self):
        chance = random.Random(2)
        for turn in range(300):
            token = worked_token(1, *chance.choice(SERIALS), some_caveats(chance))
            place = chance.randint(1, 8)
            token[-place] ^= chance.randint(1, 255)
            for kind, argument in some_caveats(chance):
                token = told(narrow(kind, token, argument))[0][1:]
            line = told(root(1, KEY), some_request(chance, token), right(token))
            self.assertEqual(line[1:], [[3], [0]])

    def test_seals_are_the_sums_of_the_rows_told(self):
        key_row = [0] + KEY + [1] + eight(0)
        token = worked_token(1, 0, 0)
        self.assertEqual(token[-8:], eight(worked_sum(key_row)))
        narrower = told(narrow(4, token, [47]))[0][1:]
        self.assertEqual(narrower[-8:], eight(worked_sum([1] + token[-8:] + [4, 1, 47])))


class AtMostSoManyTimes(unittest.TestCase):
    def test_between_two_calls_that_set_or_take_the_key_or_begin_anew(self):
        chance = random.Random(3)
        reached = 0
        for turn in range(300):
            number = chance.choice([0, 1])
            high, low = chance.choice(SERIALS)
            most = chance.choice([0, 1, 2, 3])
            caveats = some_caveats(chance, 2)
            caveats.insert(chance.randint(0, len(caveats)), (USES, four(most)))
            token = worked_token(number, high, low, caveats)
            calls = [root(0, KEY), root(1, KEY)]
            for turn in range(60):
                calls.append(chance.choice([some_call(chance), some_request(chance, token)]))
            times = 0
            for call, answer in zip(calls, told(*calls)):
                if call[0] == 0 or call[0] in (1, 2) and call[1] == number and answer == [0]:
                    times = 0
                elif call[0] == 6 and call[4:4 + call[3]] == token and answer == [0]:
                    times += 1
                    self.assertLessEqual(times, most)
                    reached += times == most
        self.assertGreater(reached, 50)


class ReadInOneWay(unittest.TestCase):
    def test_parts_and_seal_tell_the_whole_token(self):
        chance = random.Random(4)
        for turn in range(300):
            high, low = chance.randint(0, 2**32 - 1), chance.randint(0, 2**32 - 1)
            number = chance.randint(0, 255)
            caveats = [
                (chance.randint(0, 255), [chance.randint(0, 255) for byte in range(chance.randint(0, 16))])
                for place in range(chance.randint(0, 6))]
            row = worked_token(number, high, low, caveats)
            told_parts = told(parts(row))[0]
            many = told_parts[0]
            self.assertEqual(told_parts[:4], [len(caveats), number, high, low])
            place = 4 + 2 * many
            read = []
            for caveat in range(many):
                kind, length = told_parts[4 + 2 * caveat:6 + 2 * caveat]
                read.append((kind, told_parts[place:place + length]))
                place += length
            self.assertEqual((read, place), (caveats, len(told_parts)))

    def test_all_calls_agree_on_what_is_malformed(self):
        chance = random.Random(5)
        for turn in range(500):
            row = unsealed_token(1, some_caveats(chance, 7))
            place = chance.randint(0, len(row) - 1)
            row[place] = chance.choice([0, 1, 2, 6, 7, 16, 17, 255])
            row = row[:chance.choice([len(row), len(row), place])]
            line = told(check(row), parts(row), right(row), allow(0, 0, row, []), narrow(4, row, []))
            malformed = line[0] == [-1]
            self.assertEqual([line[1] == [-1], line[2] == [-1], line[3] == [1], line[4] == [-1]], [malformed] * 4)


class RefusedChangesNothing(unittest.TestCase):
    def test_the_other_answers_are_the_same_without_it(self):
        chance = random.Random(6)
        left = 0
        for turn in range(300):
            calls = some_calls(chance, 100)
            line = told(*calls)
            kept = [place for place in range(len(calls)) if changes(calls[place], line[place])]
            looks = [right(worked_token(number, 0, 0)) for number in (0, 1)]
            looks += [uses(number, high, low) for number in (0, 1) for high, low in SERIALS]
            looks += [uses(1, 9, low) for low in range(31)]
            looks += [allow(0, 0, worked_token(number, high, low), []) for number in (0, 1) for high, low in SERIALS]
            fewer = told(*[calls[place] for place in kept], *looks)
            self.assertEqual(fewer[:len(kept)], [[0]] * len(kept))
            self.assertEqual(fewer[len(kept):], told(*calls, *looks)[len(calls):])
            left += len(calls) - len(kept)
        self.assertGreater(left, 5000)

    def test_a_refusal_stands_alone(self):
        chance = random.Random(7)
        for turn in range(100):
            for answer in told(*some_calls(chance, 100)):
                self.assertTrue(answer[0] >= 0 or len(answer) == 1, answer)


if __name__ == "__main__":
    unittest.main()
