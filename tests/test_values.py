"""Values that grow in a loop: nested very deep, or made of the same value twice, over and over."""

import unittest

from tests.helper import (ANY, KEEP, ME, WRONG, Case, add, air, alike, ask, begin, below, both, box, call, catch,
                          deliver, ends_by, ends_with, is_num, is_var, less, let, letter, minus, name, num, number, op,
                          pair, process, program, row, run, said, say, send, start, state, take, take_till, throw,
                          ticks, turns, two, var, watch, when)

LEVELS = 15
ROUNDS_OF_LEVELS = 120
DOUBLINGS = 10
ROUNDS_OF_DOUBLINGS = 30


def growing(grown, depth):
    """Function 1: handed a count and a value it grows the value so often; so many variables are new by then."""
    goes_on = grown(call(1, two(less(var(1 + depth), num(1)), var(0))))
    return when(var(0), both(is_num(0), KEEP), var(0), when(var(0), both(KEEP, KEEP), goes_on, num(0)))


def nesting(wrap):
    deeper = var(0)
    for level in range(LEVELS):
        deeper = wrap(deeper)
    return growing(lambda rest: let(deeper, rest), 1)


def doubling():
    def grown(rest):
        for level in range(DOUBLINGS):
            rest = let(two(var(0), var(0)), rest)
        return rest
    return growing(grown, DOUBLINGS)


RIGHT = nesting(lambda value: two(num(1), value))
LEFT = nesting(lambda value: two(value, num(1)))
DOUBLE = doubling()
GROWN = ((RIGHT, ROUNDS_OF_LEVELS), (LEFT, ROUNDS_OF_LEVELS), (DOUBLE, ROUNDS_OF_DOUBLINGS))


def grown(rounds, leaf):
    return call(1, two(num(rounds), leaf))


def later(rest):
    """Goes on when the time is one later: till then it lets all words come."""
    return take_till(1, is_num(999), num(0), rest)


def takes(rest):
    return take(KEEP, rest, ANY, num(0))


def sent_back(grow, rounds, rest):
    """Three children grow 7, 7 and 8 and send that to the first process: its variables 2, 1, 0, as it goes on."""
    child = send(op(5, var(0), num(0)), grown(rounds, op(6, var(0), num(0))))
    parent = later(takes(takes(takes(send(ME, rest)))))
    for leaf in (8, 7, 7):
        parent = let(start(2, two(ME, num(leaf))), parent)
    told = ask(*([program(parent, grow, child), begin()] + [turns(30)] * 34 + [ticks(1), run(), deliver()]))
    return told[-1]


def yes(value, pattern):
    return when(value, pattern, num(1), num(0))


class Grown(Case):
    def all_answer(self, rest, expected):
        for grow, rounds in GROWN:
            self.assertEqual(sent_back(grow, rounds, rest), [1] + expected)

    def test_compared(self):
        self.all_answer(two(alike(var(2), var(1)), two(alike(var(2), var(0)), alike(var(0), var(0)))),
                        pair(number(1), pair(number(0), number(1))))

    def test_compared_by_a_pattern(self):
        self.all_answer(two(yes(var(2), is_var(1)), yes(var(2), is_var(0))), pair(number(1), number(0)))
        self.all_answer(two(yes(two(var(2), var(1)), both(KEEP, is_var(0))),
                            yes(two(var(2), var(0)), both(KEEP, is_var(0)))), pair(number(1), number(0)))

    def test_compared_with_one_that_is_a_level_deeper(self):
        self.all_answer(two(alike(two(num(1), var(2)), var(1)), alike(two(var(2), var(2)), two(var(1), var(1)))),
                        pair(number(0), number(1)))

    def test_taken_apart_and_put_together(self):
        whole = two(op(5, var(2), num(0)), op(6, var(2), num(0)))
        self.all_answer(two(alike(whole, var(1)), alike(op(5, two(var(1), num(3)), num(0)), var(2))),
                        pair(number(1), number(1)))
        self.all_answer(when(var(2), both(KEEP, KEEP), alike(two(var(1), var(0)), var(3)), num(0)), number(1))

    def test_raised_and_caught(self):
        self.all_answer(two(alike(catch(throw(var(2)), var(0)), var(1)), alike(catch(throw(var(2)), var(0)), var(0))),
                        pair(number(1), number(0)))

    def test_it_is_no_number_and_no_name(self):
        wrong = [add(var(2), num(1)), below(var(2), var(1)), send(var(2), num(1)), watch(var(2))]
        for written in wrong:
            self.assertEqual(sent_back(DOUBLE, ROUNDS_OF_DOUBLINGS, catch(written, var(0))), [1] + number(WRONG))
            self.assertEqual(sent_back(RIGHT, ROUNDS_OF_LEVELS, catch(written, var(0))), [1] + number(WRONG))

    def test_said_and_handed_on(self):
        self.all_answer(alike(let([15] + var(2), var(0)), var(1)), number(1))

    def test_a_word_like_it_is_awaited(self):
        # The child ends with what it has grown; the first process has grown the same, or another, itself.
        for leaf, expected in ((7, number(1)), (8, number(2))):
            for grow, rounds in GROWN:
                waits = take(both(ANY, both(is_num(0), is_var(0))), send(ME, num(1)), ANY, send(ME, num(2)))
                parent = let(watch(start(2, num(7))), let(grown(rounds, num(leaf)), later(waits)))
                told = ask(*([program(parent, grow, grown(rounds, var(0))), begin()] + [turns(30)] * 34 +
                             [ticks(1), run(), deliver()]))
                self.assertEqual(told[-1], [1] + expected)

    def test_it_lies_in_the_box_of_one_that_awaits_another(self):
        for grow, rounds in GROWN:
            waits = take(is_var(0), num(3), is_num(5), num(4))
            told = ask(*([program(let(start(2, ME), waits), grow, send(var(0), grown(rounds, num(7)))), begin(0, 6)] +
                         [turns(30)] * 35 + [run(1), run(2)]))
            self.assertEqual(told[-3:], [[2, 0], [0], [0]])


class Told(Case):
    def seen(self, value, function, expected):
        """The value is said, sent to itself, at an end, and raised by the first process."""
        sends = let(say(value), let(send(ME, var(0)), take(is_num(999), num(0), is_num(998), num(0))))
        told = ask(program(sends, function), begin(), *[run()] * 34, air(), said(), deliver(), box())
        self.assertEqual(told[-4:], [row(letter((), (), expected)), row(expected), [1] + expected, row(expected)])
        told = ask(program(value, function), begin(), *[run()] * 34, process())
        self.assertEqual(told[-1], state(ends_with(expected)))
        told = ask(program(throw(value), function), begin(), *[run()] * 34, process())
        self.assertEqual(told[-1], state(ends_by(expected)))

    def test_nested_some_thousand_deep(self):
        levels = LEVELS * ROUNDS_OF_LEVELS
        value = grown(ROUNDS_OF_LEVELS, num(7))
        self.seen(value, RIGHT, [2, 0, 1] * levels + number(7))
        self.seen(value, LEFT, [2] * levels + number(7) + number(1) * levels)

    def test_made_of_the_same_twice(self):
        self.seen(grown(1, num(7)), DOUBLE, doubled(number(7), DOUBLINGS))

    def test_some_hundred_thousand_numbers(self):
        function = var(0)
        for level in range(15):
            function = let(two(var(0), var(0)), function)
        expected = doubled(pair(name(), number(-1)), 15)
        self.assertEqual(len(expected), 196607)
        self.seen(call(1, num(0)), let(two(ME, minus(1)), function), expected)

    def test_several_of_the_same(self):
        value = doubled(number(7), DOUBLINGS)
        says = let(grown(1, num(7)), let(say(var(0)), let(say(two(var(1), var(1))), say(num(3)))))
        told = ask(program(says, DOUBLE), begin(), run(), said())
        self.assertEqual(told[-1], row(value, pair(value, value), number(3)))

    def test_the_end_of_one_that_is_watched(self):
        value = doubled(number(7), DOUBLINGS)
        self.assertEqual(ask(program(watch(start(2, num(0))), DOUBLE, grown(1, num(7))), begin(), run(), run(2),
                             turns(1), air())[-1],
                         row(letter((1,), (), pair(name(1), pair(number(0), value)))))

    def test_small_ones_of_the_same_twice(self):
        written = let(two(ME, num(1)), let(two(var(0), var(0)), send(ME, two(var(0), var(0)))))
        told = ask(program(written), begin(), run(), deliver())
        self.assertEqual(told[-1], [1] + doubled(pair(name(), number(1)), 2))


def doubled(value, times):
    for level in range(times):
        value = pair(value, value)
    return value


if __name__ == "__main__":
    unittest.main()
