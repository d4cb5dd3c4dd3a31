"""Tells values, names, processes and letters as numbers."""

from boxturns.pairs import NAME, NUMBER
from boxturns.process import AT_END, AWAITS, ENDED_BY

GOES_ON = 0
WAITS = 1
HAS_VALUE = 2
HAS_FAILED = 3


def told(world, value):
    numbers = []
    ahead = [value]
    while len(ahead) > 0:
        part = ahead.pop()
        numbers.append(part[0])
        if part[0] == NUMBER:
            numbers.append(part[1])
        elif part[0] == NAME:
            numbers.extend(told_name(world, part[1]))
        else:
            ahead.append(world.pairs.second(part))
            ahead.append(world.pairs.first(part))
    return numbers


def told_name(world, number):
    name = world.process_of(number).name
    return [len(name)] + list(name)


def told_values(world, row):
    numbers = [len(row)]
    for value in row:
        numbers.extend(told(world, value))
    return numbers


def told_process(world, process):
    numbers = told_name(world, process.number)
    numbers.extend([len(process.todo), len(process.box), process.children, len(process.watchers)])
    numbers.extend(told_state(world, process))
    return numbers


# A value that has come, or something raised, with nothing to be done isn't the end yet: that is a step of its own.
def told_state(world, process):
    if process.mode == AWAITS:
        return [WAITS]
    if process.mode == AT_END:
        return [HAS_VALUE] + told(world, process.value)
    if process.mode == ENDED_BY:
        return [HAS_FAILED] + told(world, process.value)
    return [GOES_ON]


def told_letters(world):
    numbers = [len(world.letters)]
    for letter in world.letters:
        numbers.extend(told_name(world, letter[0]))
        numbers.extend(told_name(world, letter[1]))
        numbers.extend(told_word(world, letter[2]))
    return numbers


def told_word(world, word):
    if word is None:
        return [0]
    return [1] + told(world, word)
