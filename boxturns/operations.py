"""The operations of 3 k a b."""

from boxturns.pairs import NUMBER, TWO

LOWEST = -2147483648
ROUND = 4294967296


# Gives back None where the values aren't such as the operation takes.
def operated(pairs, k, x, y):
    if k == 4:
        return (NUMBER, 1 if x == y else 0)
    if k == 5 or k == 6:
        return half(pairs, k, x)
    if x[0] != NUMBER or y[0] != NUMBER:
        return None
    return (NUMBER, reckoned(k, x[1], y[1]))


def half(pairs, k, x):
    if x[0] != TWO:
        return None
    return pairs.first(x) if k == 5 else pairs.second(x)


def reckoned(k, x, y):
    if k == 0:
        return come_round(x + y)
    if k == 1:
        return come_round(x - y)
    if k == 2:
        return come_round(x * y)
    return 1 if x < y else 0


def come_round(number):
    return (number - LOWEST) % ROUND + LOWEST
