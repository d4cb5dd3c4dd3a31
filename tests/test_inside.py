"""What no call of the interface tells yet: what was said, the order of letters, how much is to be done."""

import unittest

from boxturns.line import Line
from tests.helper import (ANY, ME, add, call, catch, less, num, say, send, start, take_till, throw, two, var, watch,
                          when)

NINE = (0, 9)


def line_of(*functions):
    line = Line()
    line.program([n for function in functions for n in function])
    return line


def begun(*functions, n=9):
    line = line_of(*functions)
    line.begin(0, n)
    return line


class SaidValues(unittest.TestCase):
    def test_each_is_said_in_order_by_whom_it_is_said(self):
        line = begun(two(say(num(1)), two(say(say(var(0))), start(1, num(4)))), say(var(0)))
        line.run(1, 300)
        line.run(2, 300)
        self.assertEqual(line.world.process_of(1).said, [(0, 1), NINE, NINE])
        self.assertEqual(line.world.process_of(2).said, [(0, 4)])

    def test_it_is_said_by_the_step_that_its_value_comes_to_it(self):
        line = begun(say(num(1)))
        line.run(1, 2)
        self.assertEqual(line.world.process_of(1).said, [])
        line.run(1, 1)
        self.assertEqual(line.world.process_of(1).said, [(0, 1)])

    def test_what_is_raised_is_not_said(self):
        line = begun(catch(say(throw(num(1))), num(2)))
        line.run(1, 300)
        self.assertEqual(line.world.process_of(1).said, [])

    def test_what_is_refused_is_not_said(self):
        line = begun(two(say(num(1)), call(1, num(0))), call(1, start(1, num(0))))
        self.assertEqual(line.run(1, 300), [-6])
        self.assertEqual(line.turns(30), [-6])
        self.assertEqual(line.world.process_of(1).said, [])


class LettersInOrder(unittest.TestCase):
    def test_who_watched_first_is_told_first(self):
        for order in ((2, 3), (3, 2)):
            line = begun(two(start(1, ME), two(start(1, ME), take_till(5, ANY, num(0), num(6)))), watch(var(0)))
            for i in (1, 2, 3):
                line.run(i, 300)
            for i in order:
                line.deliver(i, 1)
            line.ticks(5)
            line.run(1, 300)
            self.assertEqual([letter[:2] for letter in line.world.letters], [(1, i) for i in order])

    def test_one_that_ends_leaves_nothing(self):
        line = begun(two(send(ME, num(1)), two(watch(ME), num(2))))
        line.run(1, 13)
        line.deliver(1, 1)
        line.deliver(1, 1)
        process = line.world.process_of(1)
        self.assertEqual((len(process.box), process.watchers), (1, [1]))
        line.run(1, 300)
        process = line.world.process_of(1)
        self.assertEqual((process.box, process.watchers, process.todo), ([], [], []))


class Beginning(unittest.TestCase):
    def test_the_program_is_the_number_0(self):
        line = Line()
        line.begin(0, 9)
        line.run(1, 300)
        self.assertEqual(line.world.process_of(1).value, (0, 0))


class Room(unittest.TestCase):
    def most_to_be_done(self, function):
        line = begun(function)
        most = 0
        for step in range(2000):
            line.run(1, 1)
            most = max(most, len(line.world.process_of(1).todo))
        return most

    def test_a_loop_needs_no_more_the_longer_it_goes(self):
        self.assertEqual(self.most_to_be_done(call(0, add(var(0), num(1)))), 2)
        loop = when(var(0), [2, 0], call(0, num(9)), call(0, less(var(0), num(1))))
        self.assertEqual(self.most_to_be_done(loop), 2)

    def test_what_is_not_at_its_end_has_more_to_be_done(self):
        self.assertGreater(self.most_to_be_done(add(num(1), call(0, var(0)))), 100)


if __name__ == "__main__":
    unittest.main()
