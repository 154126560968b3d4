"""A service: its keys, revocations and counts, and the calls that need them.

Each call gives back its answer as a list of numbers.
"""

from narrowtokens.token_form import Token, eight_bytes, first_seal, token_row

HIGHEST_ROOT = 7
KEY_LENGTH = 8
TWO_TO_32 = 4294967296


class Service:
    # Revocations and counts are dicts whose keys are pairs: a root, and a serial as one number.
    def __init__(self):
        self.root_keys = {}
        self.revocations = {}
        self.counts = {}

    def begin_anew(self):
        self.root_keys = {}
        self.revocations = {}
        self.counts = {}
        return [0]

    def set_key(self, root, key):
        if root > HIGHEST_ROOT or len(key) != KEY_LENGTH:
            return [-1]
        self.forget_serials(root)
        self.root_keys[root] = key
        return [0]

    def take_key(self, root):
        if root > HIGHEST_ROOT:
            return [-1]
        self.forget_serials(root)
        self.root_keys.pop(root, None)
        return [0]

    def forget_serials(self, root):
        self.revocations = without_root(self.revocations, root)
        self.counts = without_root(self.counts, root)

    def issue(self, root, high, low):
        # A root above the highest never has a key, so this refuses it too.
        if root not in self.root_keys:
            return [-1]
        serial = eight_bytes(high * TWO_TO_32 + low)
        seal = first_seal(self.root_keys[root], root, serial)
        row = token_row(Token(root, serial, [], seal))
        return [len(row)] + row


def without_root(entries, root):
    kept = {}
    for pair in entries:
        if pair[0] != root:
            kept[pair] = entries[pair]
    return kept
