"""A service: its keys, revocations and counts, and the calls that need them.

Each call gives back its answer as a list of numbers.
"""

from narrowtokens.caveat_rules import Request, first_that_fails, is_counted
from narrowtokens.token_form import (
    Token, eight_bytes, first_seal, number_of_bytes, number_of_halves, read_token, right_seal, token_row)

HIGHEST_ROOT = 7
KEY_LENGTH = 8
MOST_REVOCATIONS = 16
MOST_COUNTS = 16


class Service:
    # Revocations and counts are dicts whose keys are pairs: a root, and a serial as one number.
    def __init__(self):
        self.root_keys = {}
        self.revocations = {}
        self.counts = {}

    def begin_anew(self):
        self.root_keys = {}
        self.revocations = {}
        self.counts = {}
        return [0]

    def set_key(self, root, key):
        if root > HIGHEST_ROOT or len(key) != KEY_LENGTH:
            return [-1]
        self.forget_serials(root)
        self.root_keys[root] = key
        return [0]

    def take_key(self, root):
        if root > HIGHEST_ROOT:
            return [-1]
        self.forget_serials(root)
        self.root_keys.pop(root, None)
        return [0]

    def forget_serials(self, root):
        self.revocations = without_root(self.revocations, root)
        self.counts = without_root(self.counts, root)

    def issue(self, root, high, low):
        # A root above the highest never has a key, so this refuses it too.
        if root not in self.root_keys:
            return [-1]
        serial = eight_bytes(number_of_halves(high, low))
        seal = first_seal(self.root_keys[root], root, serial)
        row = token_row(Token(root, serial, [], seal))
        return [len(row)] + row

    def allow(self, now, op, row, path):
        token = read_token(row)
        if token is None:
            return [1]
        if token.root not in self.root_keys:
            return [2]
        if not self.seal_is_right(token):
            return [3]
        pair = (token.root, number_of_bytes(token.serial))
        if pair in self.revocations:
            return [4]
        failing = first_that_fails(token.caveats, Request(now, op, path, self.counts.get(pair, 0)))
        if failing is not None:
            return [5, failing]
        if is_counted(token.caveats):
            return self.count_use(pair)
        return [0]

    def seal_is_right(self, token):
        return token.seal == right_seal(token, self.root_keys[token.root])

    def count_use(self, pair):
        if pair not in self.counts and len(self.counts) == MOST_COUNTS:
            return [6]
        self.counts[pair] = self.counts.get(pair, 0) + 1
        return [0]

    def revoke(self, root, high, low):
        if root not in self.root_keys:
            return [-1]
        pair = (root, number_of_halves(high, low))
        if pair not in self.revocations and len(self.revocations) == MOST_REVOCATIONS:
            return [-2]
        self.revocations[pair] = True
        return [0]

    def uses(self, root, high, low):
        if root not in self.root_keys:
            return [-1]
        return [self.counts.get((root, number_of_halves(high, low)), 0)]

    def right(self, row):
        token = read_token(row)
        if token is None:
            return [-1]
        if token.root not in self.root_keys:
            return [-2]
        return [1 if self.seal_is_right(token) else 0]


def without_root(entries, root):
    kept = {}
    for pair in entries:
        if pair[0] != root:
            kept[pair] = entries[pair]
    return kept
