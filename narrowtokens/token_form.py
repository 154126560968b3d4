"""The form of tokens: the sum of bytes, how tokens are read and written, how seals come out."""

FIRST_SUM = 14695981039346656037
SUM_FACTOR = 1099511628211
TWO_TO_32 = 4294967296
TWO_TO_64 = 18446744073709551616

# Places and lengths in a token: root, serial, how many caveats, caveats, seal.
SERIAL_PLACE = 1
COUNT_PLACE = 9
CAVEATS_PLACE = 10
SEAL_LENGTH = 8
MOST_CAVEATS = 6

# A caveat begins with its kind and its length.
CAVEAT_HEAD = 2
HIGHEST_KIND = 255
LONGEST_ARGUMENT = 16

# The first byte keeps the rows of a first seal and those of a caveat's seal apart.
FIRST_SEAL_MARK = 0
CAVEAT_SEAL_MARK = 1


class Caveat:
    def __init__(self, kind, argument):
        self.kind = kind
        self.argument = argument


class Token:
    # The serial and the seal are kept as their 8 bytes, as they stand in the token.
    def __init__(self, root, serial, caveats, seal):
        self.root = root
        self.serial = serial
        self.caveats = caveats
        self.seal = seal


def sum_of_bytes(row):
    total = FIRST_SUM
    for byte in row:
        total = ((total ^ byte) * SUM_FACTOR) % TWO_TO_64
    return total


def eight_bytes(number):
    return [(number >> (8 * place)) & 255 for place in range(8)]


def number_of_bytes(row):
    number = 0
    for byte in reversed(row):
        number = number * 256 + byte
    return number


def number_of_halves(high, low):
    return high * TWO_TO_32 + low


def halves(number):
    return [number // TWO_TO_32, number % TWO_TO_32]


def first_seal(key, root, serial):
    return eight_bytes(sum_of_bytes([FIRST_SEAL_MARK] + key + [root] + serial))


def seal_behind(seal, caveat):
    return eight_bytes(sum_of_bytes([CAVEAT_SEAL_MARK] + seal + caveat_row(caveat)))


def right_seal(token, key):
    seal = first_seal(key, token.root, token.serial)
    for caveat in token.caveats:
        seal = seal_behind(seal, caveat)
    return seal


def caveat_row(caveat):
    return [caveat.kind, len(caveat.argument)] + caveat.argument


def token_row(token):
    row = [token.root] + token.serial + [len(token.caveats)]
    for caveat in token.caveats:
        row.extend(caveat_row(caveat))
    return row + token.seal


def read_caveat(row, place):
    # None stands for malformed, here and in read_token.
    start = place + CAVEAT_HEAD
    if start > len(row):
        return None
    length = row[place + 1]
    if length > LONGEST_ARGUMENT or start + length > len(row):
        return None
    return Caveat(row[place], row[start:start + length])


def read_token(row):
    if len(row) < CAVEATS_PLACE or row[COUNT_PLACE] > MOST_CAVEATS:
        return None
    caveats = []
    place = CAVEATS_PLACE
    while len(caveats) < row[COUNT_PLACE]:
        caveat = read_caveat(row, place)
        if caveat is None:
            return None
        caveats.append(caveat)
        place += CAVEAT_HEAD + len(caveat.argument)
    if len(row) - place != SEAL_LENGTH:
        return None
    return Token(row[0], row[SERIAL_PLACE:COUNT_PLACE], caveats, row[place:])
