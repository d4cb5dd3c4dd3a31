"""Tells a value as numbers."""

from boxturns.pairs import NAME, NUMBER


def told(world, value):
    numbers = []
    ahead = [value]
    while len(ahead) > 0:
        part = ahead.pop()
        numbers.append(part[0])
        if part[0] == NUMBER:
            numbers.append(part[1])
        elif part[0] == NAME:
            numbers.extend(told_name(world, part))
        else:
            ahead.append(world.pairs.second(part))
            ahead.append(world.pairs.first(part))
    return numbers


def told_name(world, value):
    name = world.process_of(value[1]).name
    return [len(name)] + list(name)
