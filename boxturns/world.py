"""The world: its program, its processes, its letters and its time."""

from boxturns.pairs import NAME, NUMBER, Pairs
from boxturns.process import AT_END, Process

MOST_PROCESSES = 20
MOST_LETTERS = 200


# Processes never go away: once there are too many there will be too many behind the call, whatever comes.
class TooManyProcesses(Exception):
    pass


# A letter is (who sent it, to whom, the word, or None if that one's watched); processes are told by their numbers.
class World:
    def __init__(self, functions):
        self.functions = functions
        self.processes = []
        self.letters = []
        self.time = 0
        self.pairs = Pairs()

    # The pairs are shared: they only come to be more, and each means the same in both worlds.
    def copy(self):
        twin = World(self.functions)
        twin.processes = [process.copy() for process in self.processes]
        twin.letters = list(self.letters)
        twin.time = self.time
        twin.pairs = self.pairs
        return twin

    def has_function(self, f):
        return f < len(self.functions)

    def has_process(self, number):
        return 1 <= number and number <= len(self.processes)

    def process_of(self, number):
        return self.processes[number - 1]

    def start(self, name, f, value):
        if len(self.processes) == MOST_PROCESSES:
            raise TooManyProcesses()
        process = Process(len(self.processes) + 1, name)
        process.work_on(self.functions[f], (value,))
        self.processes.append(process)
        return process

    def start_child(self, parent, f, value):
        child = self.start(parent.name + (parent.children + 1,), f, value)
        parent.children += 1
        return (NAME, child.number)

    def send(self, sender, receiver, word):
        self.letters.append((sender, receiver, word))

    def arrive(self, letter):
        receiver = self.process_of(letter[1])
        if letter[2] is None:
            self.arrive_watch(receiver, letter[0])
        elif not receiver.has_ended():
            receiver.box.append(letter[2])

    def arrive_watch(self, watched, watcher):
        if watched.has_ended():
            self.send(watched.number, watcher, self.last_word(watched))
        else:
            watched.watchers.append(watcher)

    def end(self, process, mode):
        process.mode = mode
        watchers = process.watchers
        process.watchers = []
        process.box = []
        for watcher in watchers:
            self.send(process.number, watcher, self.last_word(process))

    def last_word(self, process):
        how = 0 if process.mode == AT_END else 1
        ending = self.pairs.both((NUMBER, how), process.value)
        return self.pairs.both((NAME, process.number), ending)

    def is_overfull(self):
        return len(self.letters) > MOST_LETTERS
