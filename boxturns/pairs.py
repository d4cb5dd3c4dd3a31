"""Values as flat tuples: (0, the number), (1, which process bears the name), (2, where the two values are kept)."""

NUMBER = 0
NAME = 1
TWO = 2


# The same two values always get the same place, so values are alike just where their tuples are equal:
# nothing walks into a value to compare it, however deep it is nested and however often a part is shared.
class Pairs:
    def __init__(self):
        self.halves = []
        self.places = {}

    def both(self, first, second):
        halves = (first, second)
        if halves not in self.places:
            self.places[halves] = len(self.halves)
            self.halves.append(halves)
        return (TWO, self.places[halves])

    def first(self, value):
        return self.halves[value[1]][0]

    def second(self, value):
        return self.halves[value[1]][1]
