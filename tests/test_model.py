"""Random lines of calls, answered by the program and by a model that is made quite otherwise.

The model works a process out by nested generators, each of which yields ahead of every step, and holds values as
nested tuples. What is refused it takes back by doing all the earlier calls again.
"""

import random
import unittest

from tests.helper import (ANY, KEEP, ME, air, ask, begin, both, box, call, catch, counts, deliver, is_num, is_var, let,
                          letters_of, num, op, process, program, questions, run, said, say, seen_behind, send,
                          start, take, take_till, throw, ticks, turns, two, var, watch, when)

STEP = "a step is ahead"
STUCK = "nothing can be done"
MOST_NUMBERS = 5000


class Raised(Exception):
    def __init__(self, value):
        Exception.__init__(self)
        self.value = value


def parse(numbers, at, patterns=False):
    """One written thing as a nested tuple, and where the next begins. The program is known to be one."""
    shapes = {0: "", 1: "", 2: "n", 3: "n", 4: "pp"} if patterns else {
        0: "n", 1: "n", 2: "ww", 3: "nww", 4: "ww", 5: "wpww", 6: "nw", 7: "pwpw", 8: "npww", 9: "ww", 10: "nw",
        11: "", 12: "w", 13: "w", 14: "ww", 15: "w"}
    node = [numbers[at]]
    at += 1
    for part in shapes[node[0]]:
        if part == "n":
            node.append(numbers[at])
            at += 1
        else:
            inner, at = parse(numbers, at, part == "p")
            node.append(inner)
    return tuple(node), at


def match(pattern, value, variables):
    if pattern[0] == 0:
        return variables
    if pattern[0] == 1:
        return [value] + variables
    if pattern[0] == 2:
        return variables if value == ("number", pattern[1]) else None
    if pattern[0] == 3:
        return variables if variables[pattern[1]:pattern[1] + 1] == [value] else None
    if value[0] != "two":
        return None
    variables = match(pattern[1], value[1], variables)
    return None if variables is None else match(pattern[2], value[2], variables)


class Actor:
    def __init__(self, world, name, body, value):
        self.world = world
        self.name = name
        self.box = []
        self.said = []
        self.children = 0
        self.watchers = []
        self.behind = 0
        self.waits = False
        self.ended = None
        self.goes = self.live(body, value)
        next(self.goes)

    def step(self):
        if self.ended:
            return False
        return next(self.goes, STEP) == STEP

    def live(self, body, value):
        try:
            came = yield from self.work(body, [value])
            yield STEP
            self.ended = ("two", ("number", 0), came)
        except Raised as raised:
            yield STEP
            self.ended = ("two", ("number", 1), raised.value)
        for watcher in self.watchers:
            self.world.post(self.name, watcher, ("two", ("name", self.name), self.ended))
        self.box, self.watchers = [], []

    def tried(self, node, variables):
        """Something worked out while something is to be done behind it, which goes by a step however it comes."""
        self.behind += 1
        try:
            value = yield from self.work(node, variables)
            came = True
        except Raised as raised:
            value = raised.value
            came = False
        yield STEP
        self.behind -= 1
        return came, value

    def part(self, node, variables):
        came, value = yield from self.tried(node, variables)
        if not came:
            raise Raised(value)
        return value

    def work(self, node, variables):
        """Goes round for what comes last in something, so that a loop of the language nests no generators."""
        while True:
            yield STEP
            if node[0] == 0:
                return ("number", node[1])
            if node[0] == 1:
                if node[1] >= len(variables):
                    raise Raised(("number", 101))
                return variables[node[1]]
            if node[0] == 11:
                return ("name", self.name)
            if node[0] in (7, 8):
                node, variables = yield from self.wait(node, variables)
            elif node[0] == 14:
                came, value = yield from self.tried(node[1], variables)
                if came:
                    return value
                node, variables = node[2], [value] + variables
            elif node[0] in (2, 3, 9):
                first = yield from self.part(node[-2], variables)
                second = yield from self.part(node[-1], variables)
                return self.combine(node, first, second)
            else:
                value = yield from self.part(node[1] if node[0] in (4, 5) else node[-1], variables)
                if node[0] in (6, 10) and node[1] >= len(self.world.functions):
                    raise Raised(("number", 101))
                if node[0] == 4:
                    node, variables = node[2], [value] + variables
                elif node[0] == 5:
                    kept = match(node[2], value, variables)
                    node, variables = (node[4], variables) if kept is None else (node[3], kept)
                elif node[0] == 6:
                    node, variables = self.world.functions[node[1]], [value]
                else:
                    return self.act(node, value)

    def act(self, node, value):
        if node[0] == 13:
            raise Raised(value)
        if node[0] == 10:
            self.children += 1
            name = self.name + (self.children,)
            self.world.actors.append(Actor(self.world, name, self.world.functions[node[1]], value))
            return ("name", name)
        if node[0] == 12:
            if value[0] != "name":
                raise Raised(("number", 101))
            self.world.post(self.name, value[1], None)
        if node[0] == 15:
            self.said.append(value)
        return value

    def combine(self, node, x, y):
        if node[0] == 2:
            return ("two", x, y)
        if node[0] == 9:
            if x[0] != "name":
                raise Raised(("number", 101))
            self.world.post(self.name, x[1], y)
            return y
        if node[1] == 4:
            return ("number", int(x == y))
        if node[1] > 4 and x[0] == "two":
            return x[node[1] - 4]
        if node[1] > 4 or x[0] != "number" or y[0] != "number":
            raise Raised(("number", 101))
        if node[1] == 3:
            return ("number", int(x[1] < y[1]))
        exact = (x[1] + y[1], x[1] - y[1], x[1] * y[1])[node[1]]
        low = exact & 0xFFFFFFFF
        return ("number", low - (1 << 32) if low >> 31 else low)

    def wait(self, node, variables):
        since = self.world.time
        choices = [(node[1], node[2]), (node[3], node[4])] if node[0] == 7 else [(node[2], node[3])]
        answer = STEP
        self.waits = True
        while True:
            yield answer
            for word in list(self.box):
                for pattern, rest in choices:
                    kept = match(pattern, word, variables)
                    if kept is not None:
                        # Words that are alike can't be told apart: the oldest of them is taken out.
                        self.box.remove(word)
                        self.waits = False
                        return rest, kept
            if node[0] == 8 and self.world.time >= since + node[1]:
                self.waits = False
                return node[4], variables
            answer = STUCK

    def told(self):
        last = [1 if self.waits else 0]
        if self.ended:
            last = [2 + self.ended[1][1]] + tell(self.ended[2])
        sizes = [self.behind, len(self.box), self.children, len(self.watchers)]
        return [len(self.name)] + list(self.name) + sizes + last


class Model:
    def __init__(self):
        self.functions = [(0, 0)]
        self.actors = []
        self.letters = []
        self.time = 0
        self.done = []

    def post(self, sender, receiver, word):
        self.letters.append((sender, receiver, word))

    def arrive(self, letter):
        receiver = [actor for actor in self.actors if actor.name == letter[1]][0]
        if letter[2] is not None:
            receiver.box.extend([] if receiver.ended else [letter[2]])
        elif receiver.ended:
            self.post(letter[1], letter[0], ("two", ("name", letter[1]), receiver.ended))
        else:
            receiver.watchers.append(letter[0])

    def answer(self, call):
        if call[0] == 0:
            return self.program(call[2:])
        if call[0] > 5:
            return self.look(*call)
        answer = (self.begin, self.run, self.deliver, self.ticks, self.turns)[call[0] - 1](*call[1:])
        if answer[0] >= 0:
            self.done.append(call)
        if answer == [-6]:
            self.again()
        return answer

    def program(self, numbers):
        """Programs that are none are tested elsewhere."""
        self.__init__()
        self.functions = []
        at = 0
        while at < len(numbers):
            node, at = parse(numbers, at)
            self.functions.append(node)
        return [len(self.functions)]

    def again(self):
        functions, done = self.functions, self.done
        self.__init__()
        self.functions = functions
        for call in done:
            self.answer(call)

    def begin(self, f, n):
        if self.actors:
            return [-8]
        if f >= len(self.functions) or n > 1000000:
            return [-1]
        self.actors.append(Actor(self, (), self.functions[f], ("number", n)))
        return [1]

    def look(self, kind, i=1):
        if kind == 10:
            return [self.time, len(self.actors), len(self.letters)]
        if kind == 9:
            return [len(self.letters)] + sum([tell_letter(letter) for letter in self.letters], [])
        if i == 0 or i > len(self.actors):
            return [-3]
        actor = self.actors[i - 1]
        if kind == 6:
            return actor.told()
        values = actor.box if kind == 7 else actor.said
        return [len(values)] + sum([tell(value) for value in values], [])

    def full(self):
        return len(self.actors) > 20 or len(self.letters) > 200

    def run(self, i, n):
        if n > 300:
            return [-1]
        if i == 0 or i > len(self.actors):
            return [-3]
        steps = 0
        while steps < n and self.actors[i - 1].step():
            steps += 1
        return [-6] if self.full() else [steps]

    def deliver(self, i, j):
        if min(i, j) == 0 or max(i, j) > len(self.actors):
            return [-3]
        ends = (self.actors[i - 1].name, self.actors[j - 1].name)
        between = [letter for letter in self.letters if letter[:2] == ends]
        if not between:
            return [-5]
        self.letters.remove(between[0])
        self.arrive(between[0])
        return [0] if between[0][2] is None else [1] + tell(between[0][2])

    def ticks(self, n):
        if n > 1000:
            return [-1]
        self.time += n
        return [self.time]

    def turns(self, n):
        if n > 30:
            return [-1]
        for turn in range(n):
            for actor in self.actors[:]:
                for step in range(10):
                    actor.step()
            if len(self.actors) > 20:
                return [-6]
            arriving, self.letters = self.letters, []
            for letter in arriving:
                self.arrive(letter)
        return [-6] if self.full() else [len(self.actors), len(self.letters)]


class TooLong(Exception):
    """A value made of itself, over and over, is more numbers than a line may answer."""


def tell(value):
    told = []
    ahead = [value]
    while ahead:
        part = ahead.pop()
        if part[0] == "number":
            told += [0, part[1]]
        elif part[0] == "name":
            told += [1, len(part[1])] + list(part[1])
        else:
            told.append(2)
            ahead += [part[2], part[1]]
        if len(told) > MOST_NUMBERS:
            raise TooLong()
    return told


def tell_letter(letter):
    ends = [n for who in letter[:2] for n in (len(who),) + who]
    return ends + ([0] if letter[2] is None else [1] + tell(letter[2]))


class Writer:
    """Writes programs that send, start, watch and await far more often than mere chance would."""

    def __init__(self, chance):
        self.chance = chance
        self.functions = chance.randint(1, 4)

    def program(self):
        while True:
            functions = [self.body([self.chance.random() < 0.7], self.chance.randint(1, 5))
                         for f in range(self.functions)]
            if len(sum(functions, [])) <= 300:
                return functions

    def seldom(self):
        return self.chance.random() < 0.03

    def f(self):
        return self.chance.randint(0, 9) if self.seldom() else self.chance.randrange(self.functions)

    def pattern(self, depth=1):
        if depth < 4 and self.chance.random() < 0.3:
            return both(self.pattern(depth + 1), self.pattern(depth + 1))
        return self.chance.choice([ANY, KEEP, KEEP, is_num(self.chance.randint(0, 3)),
                                   is_var(self.chance.randint(0, 3))])

    def name(self, known):
        """Mostly something that is a name; known tells of each variable whether it likely is one."""
        names = [i for i, likely in enumerate(known) if likely]
        if self.seldom():
            return self.written(known, 1)
        if names and self.chance.random() < 0.7:
            return var(self.chance.choice(names))
        return ME

    def handed(self, known):
        return self.chance.choice([ME, self.name(known), two(ME, num(self.chance.randint(0, 3))),
                                   self.written(known, 2)])

    def body(self, known, size):
        if size == 0:
            return self.chance.choice([lambda: call(self.f(), self.handed(known)), lambda: self.written(known, 2),
                                       lambda: self.awaits(known), lambda: throw(self.written(known, 1))])()
        deed = self.chance.randrange(10)
        if deed < 3:
            return let(start(self.f(), self.handed(known)), self.body([True] + known, size - 1))
        if deed < 6:
            return let(send(self.name(known), self.written(known, 2)), self.body([False] + known, size - 1))
        if deed < 8:
            return let(watch(self.name(known)), self.body([True] + known, size - 1))
        if deed < 9:
            return let(self.awaits(known), self.body([False] + known, size - 1))
        return let(self.written(known, 3), self.body([False] + known, size - 1))

    def awaits(self, known):
        inner = lambda: self.written([False] + known, 2)
        if self.chance.random() < 0.5:
            return take(self.pattern(), inner(), self.pattern(), inner())
        return take_till(self.chance.randint(0, 3), self.pattern(), inner(), self.written(known, 2))

    def leaf(self, known):
        i = self.chance.randint(0, 6) if self.seldom() else self.chance.randrange(len(known))
        return self.chance.choice([num(self.chance.randint(0, 4)), var(i), var(i), ME])

    def written(self, known, deep):
        if deep <= 0:
            return self.leaf(known)
        inner = lambda: self.written(known, deep - 1)
        under = lambda: self.written([False] + known, deep - 1)
        return self.chance.choice([
            lambda: self.leaf(known), lambda: two(inner(), inner()), lambda: two(inner(), inner()),
            lambda: op(self.chance.randint(0, 6), inner(), inner()), lambda: let(inner(), under()),
            lambda: when(inner(), self.pattern(), under(), inner()), lambda: call(self.f(), inner()),
            lambda: send(self.name(known), inner()), lambda: start(self.f(), inner()),
            lambda: watch(self.name(known)), lambda: throw(inner()), lambda: catch(inner(), under()),
            lambda: catch(throw(inner()), under()), lambda: say(inner())])()


def some_call(chance, model):
    """A call that mostly does something: it looks at who there is and what is on its way."""
    count = max(1, len(model.actors))
    kind = chance.random()
    if not model.actors and kind < 0.8:
        return begin(0, chance.randint(0, 3))
    if kind < 0.4 or kind < 0.8 and not model.letters:
        return run(chance.randint(1, count), chance.choice([1, 2, 3, 5, 9, 20, 60, 300]))
    if kind < 0.8:
        names = [actor.name for actor in model.actors]
        letter = chance.choice(model.letters)
        return deliver(names.index(letter[0]) + 1, names.index(letter[1]) + 1)
    if kind < 0.86:
        return turns(chance.choice([0, 0, 0, 1, 1, 2, 3, 7, 30]))
    if kind < 0.93:
        return ticks(chance.randint(0, 2))
    if kind < 0.94:
        return program(*Writer(chance).program())
    return chance.choice([begin(0, 1), begin(1, 1), run(0, 1), run(1, 301), deliver(0, 1), turns(31), ticks(1001),
                          begin(3, 1000001), deliver(chance.randint(1, count), chance.randint(1, count + 1)),
                          run(count + 1, 1)])


def some_question(chance, model):
    i = chance.randint(0, len(model.actors) + 1) if chance.random() < 0.1 else chance.randint(1, len(model.actors) or 1)
    return chance.choice([process(i), process(i), process(i), box(i), said(i), air(), counts()])


class Line:
    """Calls, and what the model answers to each: as many calls as it has the room to nest for."""

    def __init__(self, seed, most, asks):
        self.chance = random.Random(seed)
        self.model = Model()
        self.calls = []
        self.told = []
        self.put(program(*Writer(self.chance).program()))
        self.put(begin(0, self.chance.randint(0, 3)))
        while len(self.calls) < most and sum(len(answer) for answer in self.told) < MOST_NUMBERS:
            try:
                self.put((some_question if self.chance.random() < asks else some_call)(self.chance, self.model))
            except (RecursionError, TooLong):
                self.model.again()
                break

    def seen(self):
        """All that can be asked behind the line, with the answers; None if that's too long."""
        try:
            return [(one, self.model.answer(one)) for one in questions(len(self.model.actors))]
        except TooLong:
            return None

    def put(self, one):
        self.told.append(self.model.answer(one))
        self.calls.append(one)


class Same(unittest.TestCase):
    @classmethod
    def setUpClass(cls):
        cls.lines = [Line(seed, 40, 0.4) for seed in range(LINES)]

    def test_the_model_answers_the_same(self):
        for seed, line in enumerate(self.lines):
            answered = ask(*line.calls)
            for place, one in enumerate(line.calls):
                self.assertEqual(answered[place], line.told[place], "line %d, call %d: %r" % (seed, place, one))

    def test_the_lines_are_worth_asking(self):
        seen = {}
        for line in self.lines:
            for one, answer in zip(line.calls, line.told):
                kind = (one[0], min(answer[0], 0))
                seen[kind] = seen.get(kind, 0) + 1
        for kind in ((2, 0), (2, -3), (2, -6), (3, 0), (3, -5), (5, 0), (5, -6), (6, 0), (6, -3), (7, 0), (7, -3),
                     (8, 0), (8, -3), (9, 0), (10, 0)):
            self.assertGreater(seen.get(kind, 0), 20, kind)

    def test_what_is_refused_or_only_looks_may_as_well_not_be_asked(self):
        for line in self.lines:
            kept = [place for place, answer in enumerate(line.told) if answer[0] >= 0]
            self.assertEqual(ask(*[line.calls[place] for place in kept]), [line.told[place] for place in kept])
            done = [place for place in kept if line.calls[place][0] < 6]
            self.assertEqual(ask(*[line.calls[place] for place in done]), [line.told[place] for place in done])

    def test_steps_in_pieces_are_the_same(self):
        for line in self.lines:
            pieces = []
            for one, answer in zip(line.calls, line.told):
                half = one[2] // 2 if is_steps(one, answer) else 0
                pieces.append([run(one[1], half), run(one[1], one[2] - half)] if is_steps(one, answer) else [one])
            while sum(len(piece) for piece in pieces) > 40:
                pieces.pop()
            answered = iter(ask(*[one for piece in pieces for one in piece]))
            for piece, answer in zip(pieces, line.told):
                first = next(answered)
                self.assertEqual([first[0] + next(answered)[0]] if len(piece) == 2 else first, answer)


def is_steps(one, answer):
    return one[0] == 2 and answer[0] > 0


class AllSeen(unittest.TestCase):
    """Behind the last call of each line all is looked at, of each process."""

    @classmethod
    def setUpClass(cls):
        lines = [Line(seed, 24, 0) for seed in range(LINES, LINES + LOOKED_AT)]
        cls.lines = [line for line in lines if line.seen() is not None]

    def test_the_model_looks_the_same(self):
        self.assertGreater(len(self.lines), LOOKED_AT * 9 // 10)
        for line in self.lines:
            self.assertEqual(seen_behind(*line.calls), line.seen(), line.calls)

    def test_whose_turn_it_was_first_makes_no_difference(self):
        swapped = 0
        for line in self.lines:
            for place in range(2, len(line.calls) - 1):
                if self.are_free(line, place):
                    calls = line.calls[:place + 2]
                    turned = calls[:place] + [calls[place + 1], calls[place]]
                    self.assertEqual(apart_from_order(seen_behind(*turned)), apart_from_order(seen_behind(*calls)))
                    swapped += 1
        self.assertGreater(swapped, 100)

    def are_free(self, line, place):
        """Two steps by different processes that there were before: one at most starts others, so all keep their
        places."""
        both_run = [one for one in (place, place + 1) if is_steps(line.calls[one], line.told[one])]
        if len(both_run) < 2 or line.calls[place][1] == line.calls[place + 1][1]:
            return False
        there = [ask(*line.calls[:end], counts())[-1][1] for end in (place, place + 1, place + 2)]
        return line.calls[place + 1][1] <= there[0] and there[1] in (there[0], there[2])


def apart_from_order(seen):
    """Only from one to another is the order of letters settled: they are put one pair behind another."""
    return [(one, sorted(letters_of(answer), key=lambda letter: letter[:2]) if one == air() else answer)
            for one, answer in seen]


LINES = 500
LOOKED_AT = 200


if __name__ == "__main__":
    unittest.main()
