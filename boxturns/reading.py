"""Reads a program's numbers into nested tuples: each begins with what it is, its parts behind it in order."""

MOST_NUMBERS = 300
MOST_FUNCTIONS = 10
DEEPEST_WRITTEN = 20
DEEPEST_PATTERN = 5

# What follows each number: w is something written, p a pattern, the others are numbers of their own.
PARTS = {0: "n", 1: "i", 2: "ww", 3: "kww", 4: "ww", 5: "wpww", 6: "fw", 7: "pwpw", 8: "tpww",
         9: "ww", 10: "fw", 11: "", 12: "w", 13: "w", 14: "ww", 15: "w"}
PATTERN_PARTS = {0: "", 1: "", 2: "n", 3: "i", 4: "pp"}
GRANTED = {"n": 1000000, "i": 20, "f": 9, "k": 6, "t": 1000}


class NoProgram(Exception):
    pass


# Depth is looked at on the way down, so its methods never call one another deeper than is granted.
class Reader:
    def __init__(self, numbers):
        self.numbers = numbers
        self.place = 0

    def is_done(self):
        return self.place == len(self.numbers)

    def take(self, most):
        if self.is_done() or self.numbers[self.place] > most:
            raise NoProgram()
        self.place += 1
        return self.numbers[self.place - 1]

    def read_written(self, depth):
        if depth > DEEPEST_WRITTEN:
            raise NoProgram()
        kind = self.take(len(PARTS) - 1)
        written = [kind]
        for part in PARTS[kind]:
            if part == "w":
                written.append(self.read_written(depth + 1))
            elif part == "p":
                written.append(self.read_pattern(1))
            else:
                written.append(self.take(GRANTED[part]))
        return tuple(written)

    def read_pattern(self, depth):
        if depth > DEEPEST_PATTERN:
            raise NoProgram()
        kind = self.take(len(PATTERN_PARTS) - 1)
        pattern = [kind]
        for part in PATTERN_PARTS[kind]:
            if part == "p":
                pattern.append(self.read_pattern(depth + 1))
            else:
                pattern.append(self.take(GRANTED[part]))
        return tuple(pattern)


def read_program(numbers):
    if len(numbers) > MOST_NUMBERS:
        raise NoProgram()
    reader = Reader(numbers)
    functions = []
    while not reader.is_done():
        functions.append(reader.read_written(1))
    if len(functions) == 0 or len(functions) > MOST_FUNCTIONS:
        raise NoProgram()
    return tuple(functions)
