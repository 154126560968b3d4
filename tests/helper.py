"""What the tests share: the document's words worked out another way, and lists of calls."""

import struct

from narrowtokens.tokens import answers

KEY = [1, 2, 3, 4, 5, 6, 7, 8]
OTHER_KEY = [255, 0, 254, 1, 253, 2, 252, 3]
TOP = 4294967295

BEFORE = 1
FROM = 2
OPS = 3
PATH = 4
USES = 5


def worked_sum(row):
    total = 0xCBF29CE484222325
    for byte in bytes(row):
        total = ((total ^ byte) * (2**40 + 0x1B3)) & (2**64 - 1)
    return total


def worked_h(row):
    return worked_sum(row).to_bytes(8, "little")


def worked_caveat(kind, argument):
    return struct.pack("BB", kind, len(argument)) + bytes(argument)


def worked_token(root, high, low, caveats=(), key=KEY):
    serial = struct.pack("<II", low, high)
    seal = worked_h(b"\0" + bytes(key) + bytes([root]) + serial)
    written = b""
    for kind, argument in caveats:
        caveat = worked_caveat(kind, argument)
        seal = worked_h(b"\1" + seal + caveat)
        written += caveat
    return list(bytes([root]) + serial + bytes([len(caveats)]) + written + seal)


def four(number):
    return list(struct.pack("<I", number))


def eight(number):
    return list(struct.pack("<Q", number))


def unsealed_token(root=0, caveats=(), seal=(9, 8, 7, 6, 5, 4, 3, 2)):
    """A token with any seal at all, and any caveats, those that the document rules out too."""
    row = [root, 1, 2, 3, 4, 5, 6, 7, 8, len(caveats)]
    for kind, argument in caveats:
        row += [kind, len(argument)] + list(argument)
    return row + list(seal)


def init():
    return [0]


def root(number, key):
    return [1, number, len(key)] + list(key)


def unroot(number):
    return [2, number]


def issue(number, high, low):
    return [3, number, high, low]


def check(token):
    return [4, len(token)] + list(token)


def narrow(kind, token, argument):
    return [5, kind, len(token)] + list(token) + [len(argument)] + list(argument)


def allow(now, op, token, path):
    return [6, now, op, len(token)] + list(token) + [len(path)] + list(path)


def revoke(number, high, low):
    return [7, number, high, low]


def uses(number, high, low):
    return [8, number, high, low]


def right(token):
    return [9, len(token)] + list(token)


def sum_call(row):
    return [10, len(row)] + list(row)


def parts(token):
    return [11, len(token)] + list(token)


def used_once(number, high, low, key=KEY):
    """An allow that counts, so that the root and serial have a count of 1 where they had none."""
    return allow(0, 0, worked_token(number, high, low, [(USES, four(TOP))], key), [])


def told(*calls):
    """The answers to the calls on one new object, each answer a list without its count."""
    line = [number for call in calls for number in call]
    row = answers(line)
    parted = []
    while row:
        parted.append(row[1:1 + row[0]])
        row = row[1 + row[0]:]
    if len(parted) != len(calls):
        raise AssertionError(f"{len(calls)} calls, {len(parted)} answers")
    return parted


def counted(token):
    return [len(token)] + list(token)
