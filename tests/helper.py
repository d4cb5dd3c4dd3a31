"""Writes programs and calls as numbers, and takes the answers apart, for the tests."""

import unittest

from boxturns.actors import answers

ANY = [0]
KEEP = [1]
ME = [11]
WRONG = 101
LOWEST = -2147483648
HIGHEST = 2147483647


# What's written.

def num(n):
    return [0, n]


def var(i):
    return [1, i]


def two(a, b):
    return [2] + a + b


def op(k, a, b):
    return [3, k] + a + b


def add(a, b):
    return op(0, a, b)


def less(a, b):
    return op(1, a, b)


def times(a, b):
    return op(2, a, b)


def below(a, b):
    return op(3, a, b)


def alike(a, b):
    return op(4, a, b)


def let(a, b):
    return [4] + a + b


def when(a, p, b, c):
    return [5] + a + p + b + c


def call(f, a):
    return [6, f] + a


def take(p, b, q, c):
    return [7] + p + b + q + c


def take_till(t, p, b, c):
    return [8, t] + p + b + c


def take_any():
    return take(KEEP, var(0), ANY, num(0))


def send(a, b):
    return [9] + a + b


def start(f, a):
    return [10, f] + a


def watch(a):
    return [12] + a


def throw(a):
    return [13] + a


def catch(a, b):
    return [14] + a + b


def say(a):
    return [15] + a


def lowest():
    return times(num(65536), num(32768))


def highest():
    return less(lowest(), num(1))


def minus(n):
    return less(num(0), num(n))


def nested(depth):
    written = num(1)
    for level in range(depth - 1):
        written = say(written)
    return written


# Patterns.

def is_num(n):
    return [2, n]


def is_var(i):
    return [3, i]


def both(p, q):
    return [4] + p + q


# Values, as they are told.

def number(n):
    return [0, n]


def name(*numbers):
    return [1, len(numbers)] + list(numbers)


def pair(first, second):
    return [2] + first + second


# The calls.

def program_of(numbers):
    return [0, len(numbers)] + numbers


def program(*functions):
    return program_of([n for function in functions for n in function])


def begin(f=0, n=0):
    return [1, f, n]


def run(i=1, n=300):
    return [2, i, n]


def deliver(i=1, j=1):
    return [3, i, j]


def ticks(n):
    return [4, n]


def turns(n):
    return [5, n]


def process(i=1):
    return [6, i]


def box(i=1):
    return [7, i]


def said(i=1):
    return [8, i]


def air():
    return [9]


def counts():
    return [10]


# Answers, as they are told.

GOES_ON = [0]
AWAITS = [1]


def ends_with(value):
    return [2] + value


def ends_by(value):
    return [3] + value


def state(last, todo=0, words=0, children=0, watched=0, who=()):
    return [len(who)] + list(who) + [todo, words, children, watched] + last


def row(*told):
    """Values or letters, with how many they are ahead of them."""
    return [len(told)] + [n for one in told for n in one]


def letter(sender, receiver, word):
    """Sender and receiver are told as tuples; the word is a told value, or None for a watch."""
    ends = [n for who in (sender, receiver) for n in (len(who),) + who]
    return ends + ([0] if word is None else [1] + word)


def ask(*calls):
    """What each of the calls answers, as a list each."""
    if not 1 <= len(calls) <= 40:
        raise AssertionError("a line has 1 to 40 calls, not %d" % len(calls))
    answered = answers([n for told in calls for n in told])
    taken = []
    place = 0
    while place < len(answered):
        size = answered[place]
        taken.append(answered[place + 1:place + 1 + size])
        place += 1 + size
    if place != len(answered) or len(taken) != len(calls):
        raise AssertionError("the counts of the answers don't fit: %r" % (answered,))
    return taken


def name_at(told, at):
    end = at + 1 + told[at]
    return tuple(told[at + 1:end]), end


def behind_value(told, at):
    """Where a value that is told from there on has its end."""
    ahead = 1
    while ahead:
        ahead -= 1
        if told[at] == 2:
            ahead += 2
            at += 1
        elif told[at] == 1:
            at += 2 + told[at + 1]
        else:
            at += 2
    return at


def letters_of(told):
    """What air answers, as letters: from whom, to whom, the told word or None."""
    letters = []
    at = 1
    while at < len(told):
        sender, at = name_at(told, at)
        receiver, at = name_at(told, at)
        end = behind_value(told, at + 1) if told[at] == 1 else at + 1
        letters.append((sender, receiver, told[at + 1:end] if told[at] == 1 else None))
        at = end
    if len(letters) != told[0]:
        raise AssertionError("there are not so many letters as told: %r" % (told,))
    return letters


def questions(count):
    """All that can be asked where there are so many processes."""
    return [counts(), air()] + [kind(i) for i in range(1, count + 1) for kind in (process, box, said)]


def seen_behind(*calls):
    """All that can be asked behind these calls, with the answers: by several lines, as each has 40 calls at most."""
    wanted = questions(ask(*calls, counts())[-1][1])
    room = 40 - len(calls)
    seen = []
    for at in range(0, len(wanted), room):
        seen.extend(ask(*calls, *wanted[at:at + room])[len(calls):])
    return list(zip(wanted, seen))


def value_of(written, n=0, functions=()):
    """What a written thing's value is told as, seen in a word that the first process sends itself."""
    told = ask(program(send(ME, written), *functions), begin(0, n), run(), deliver())
    return told[-1][1:]


def raised_by(written, n=0, functions=()):
    """What a written thing raises, or None if it comes to a value."""
    seen = value_of(catch(two(num(7), written), two(num(8), var(0))), n, functions)
    return seen[3:] if seen[:3] == [2, 0, 8] else None


def steps_of(written, n=0, functions=()):
    """How many steps it takes to its value; the one more in which the process ends is left out."""
    return ask(program(written, *functions), begin(0, n), run())[-1][0] - 1


class Case(unittest.TestCase):
    def check(self, *rows):
        """Each row is a call and its answer, on one line of calls."""
        told = ask(*[row[0] for row in rows])
        for place, row in enumerate(rows):
            self.assertEqual(told[place], row[1], "call %d: %r" % (place, row[0]))
