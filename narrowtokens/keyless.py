"""The calls that anybody can do without a key. Each gives back its answer as a list of numbers."""

from narrowtokens.token_form import (
    HIGHEST_KIND, LONGEST_ARGUMENT, MOST_CAVEATS, Caveat, Token, halves, number_of_bytes, read_token, seal_behind,
    sum_of_bytes, token_row)


def check(row):
    token = read_token(row)
    if token is None:
        return [-1]
    return [len(token.caveats)]


def narrow(kind, row, argument):
    token = read_token(row)
    if token is None:
        return [-1]
    if kind > HIGHEST_KIND or len(argument) > LONGEST_ARGUMENT:
        return [-2]
    if len(token.caveats) == MOST_CAVEATS:
        return [-3]
    narrower = token_row(with_caveat(token, Caveat(kind, argument)))
    return [len(narrower)] + narrower


def with_caveat(token, caveat):
    # The old seal is taken as it is: without a key nobody can tell whether it is right.
    return Token(token.root, token.serial, token.caveats + [caveat], seal_behind(token.seal, caveat))


def tell_sum(row):
    return [0] + halves(sum_of_bytes(row))


def parts(row):
    token = read_token(row)
    if token is None:
        return [-1]
    heads = []
    arguments = []
    for caveat in token.caveats:
        heads.extend([caveat.kind, len(caveat.argument)])
        arguments.extend(caveat.argument)
    return [len(token.caveats), token.root] + halves(number_of_bytes(token.serial)) + heads + arguments
