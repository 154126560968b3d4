"""What is asked for with a token, and when a caveat holds for it."""

from narrowtokens.token_form import number_of_bytes

KIND_BEFORE = 1
KIND_FROM = 2
KIND_OPS = 3
KIND_PATH = 4
KIND_USES = 5

MOMENT_LENGTH = 8
OPS_LENGTH = 4
USES_LENGTH = 4
HOW_MANY_OPS = 32


class Request:
    # The use count is that of the token's root and serial, 0 if there is none.
    def __init__(self, now, op, path, use_count):
        self.now = now
        self.op = op
        self.path = path
        self.use_count = use_count


def first_that_fails(caveats, request):
    for place in range(len(caveats)):
        if not holds(caveats[place], request):
            return place
    return None


def holds(caveat, request):
    length = len(caveat.argument)
    number = number_of_bytes(caveat.argument)
    if caveat.kind == KIND_BEFORE:
        return length == MOMENT_LENGTH and request.now < number
    if caveat.kind == KIND_FROM:
        return length == MOMENT_LENGTH and request.now >= number
    if caveat.kind == KIND_OPS:
        return length == OPS_LENGTH and has_op(number, request.op)
    if caveat.kind == KIND_PATH:
        return request.path[:length] == caveat.argument
    if caveat.kind == KIND_USES:
        return length == USES_LENGTH and request.use_count < number
    # Who doesn't know a caveat can't tell what it rules out, so it rules out everything.
    return False


def has_op(ops, op):
    return op < HOW_MANY_OPS and (ops >> op) & 1 == 1


def is_counted(caveats):
    return any([caveat.kind == KIND_USES for caveat in caveats])
