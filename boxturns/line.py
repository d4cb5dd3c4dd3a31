"""A line's calls, about one world that each call finds as the one before left it."""

from boxturns.pairs import NUMBER
from boxturns.reading import GRANTED, NoProgram, read_program
from boxturns.steps import take_steps
from boxturns.telling import told_letters, told_process, told_values, told_word
from boxturns.world import TooManyProcesses, World

FIRST_PROGRAM = ((0, 0),)
MOST_STEPS = 300
MOST_ROUNDS = 30
MOST_TICKS = 1000
STEPS_OF_ROUND = 10

BEYOND = -1
NO_PROCESS = -3
NO_LETTER = -5
OVERFULL = -6
BEGUN = -8


class Line:
    def __init__(self):
        self.world = World(FIRST_PROGRAM)

    def program(self, written):
        try:
            functions = read_program(written)
        except NoProgram:
            return [BEYOND]
        self.world = World(functions)
        return [len(functions)]

    def begin(self, f, n):
        if len(self.world.processes) > 0:
            return [BEGUN]
        if not self.world.has_function(f) or n > GRANTED["n"]:
            return [BEYOND]
        self.world.start((), f, (NUMBER, n))
        return [1]

    # It is tried on a copy, which takes the world's place only if it isn't refused.
    def run(self, i, n):
        if n > MOST_STEPS:
            return [BEYOND]
        if not self.world.has_process(i):
            return [NO_PROCESS]
        trial = self.world.copy()
        try:
            taken = take_steps(trial, trial.process_of(i), n)
        except TooManyProcesses:
            return [OVERFULL]
        return self.keep(trial, [taken])

    def deliver(self, i, j):
        if not self.world.has_process(i) or not self.world.has_process(j):
            return [NO_PROCESS]
        place = first_letter(self.world.letters, i, j)
        if place is None:
            return [NO_LETTER]
        letter = self.world.letters.pop(place)
        self.world.arrive(letter)
        return told_word(self.world, letter[2])

    def ticks(self, n):
        if n > MOST_TICKS:
            return [BEYOND]
        world = self.world
        world.time += n
        return [world.time]

    def turns(self, n):
        if n > MOST_ROUNDS:
            return [BEYOND]
        trial = self.world.copy()
        try:
            go_rounds(trial, n)
        except TooManyProcesses:
            return [OVERFULL]
        return self.keep(trial, [len(trial.processes), len(trial.letters)])

    def keep(self, trial, answer):
        if trial.is_overfull():
            return [OVERFULL]
        self.world = trial
        return answer

    def tell_process(self, i):
        if not self.world.has_process(i):
            return [NO_PROCESS]
        return told_process(self.world, self.world.process_of(i))

    def tell_box(self, i):
        if not self.world.has_process(i):
            return [NO_PROCESS]
        return told_values(self.world, self.world.process_of(i).box)

    def tell_said(self, i):
        if not self.world.has_process(i):
            return [NO_PROCESS]
        return told_values(self.world, self.world.process_of(i).said)

    def tell_air(self):
        return told_letters(self.world)

    def tell_counts(self):
        return [self.world.time, len(self.world.processes), len(self.world.letters)]


def first_letter(letters, sender, receiver):
    for place, letter in enumerate(letters):
        if letter[0] == sender and letter[1] == receiver:
            return place
    return None


def go_rounds(world, rounds):
    for turn in range(rounds):
        go_round(world)


# Who is started within the round has its first steps in the next one, and so do letters arrive that arriving sent.
def go_round(world):
    for process in list(world.processes):
        take_steps(world, process, STEPS_OF_ROUND)
    arriving = world.letters
    world.letters = []
    for letter in arriving:
        world.arrive(letter)
