"""A process: what it is at, what it has to be done, and what is its own."""

WORKS = 0
CAME = 1
RAISED = 2
AWAITS = 3
AT_END = 4
ENDED_BY = 5


# Things to be done are (what is written, its variables, the first part's value or None), the next one last.
class Process:
    def __init__(self, number, name):
        self.number = number
        self.name = name
        self.mode = WORKS
        self.node = None
        self.variables = ()
        self.value = None
        self.since = 0
        self.looked = 0
        self.todo = []
        self.box = []
        self.said = []
        self.children = 0
        self.watchers = []

    def work_on(self, node, variables):
        self.mode = WORKS
        self.node = node
        self.variables = variables

    def come_to(self, value):
        self.mode = CAME
        self.value = value

    def fail_with(self, value):
        self.mode = RAISED
        self.value = value

    # The words before "looked" are not like what it awaits, so that a full box is looked through only once.
    def await_word(self, time):
        self.mode = AWAITS
        self.since = time
        self.looked = 0

    def has_ended(self):
        return self.mode == AT_END or self.mode == ENDED_BY

    def copy(self):
        twin = Process(self.number, self.name)
        twin.mode = self.mode
        twin.node = self.node
        twin.variables = self.variables
        twin.value = self.value
        twin.since = self.since
        twin.looked = self.looked
        twin.todo = list(self.todo)
        twin.box = list(self.box)
        twin.said = list(self.said)
        twin.children = self.children
        twin.watchers = list(self.watchers)
        return twin
