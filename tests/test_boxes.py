"""The calls box and said: what they refuse, and which values they tell in which order."""

import unittest

from tests.helper import (ANY, HIGHEST, KEEP, LOWEST, ME, Case, ask, begin, both, box, call, catch, deliver, highest,
                          is_num, is_var, less, let, lowest, minus, name, num, number, pair, process, program, row, run,
                          said, say, send, start, take, take_till, throw, ticks, turns, two, var, watch, when)

HIGH = 4294967295
EACH_KIND = ((num(1000000), number(1000000)), (minus(1), number(-1)), (lowest(), number(LOWEST)),
             (highest(), number(HIGHEST)), (ME, name()), (two(ME, num(1)), pair(name(), number(1))),
             (two(two(num(1), num(2)), two(num(3), ME)),
              pair(pair(number(1), number(2)), pair(number(3), name()))))


def sends(words, rest):
    for word in reversed(words):
        rest = let(send(ME, word), rest)
    return rest


def says(words, rest):
    for word in reversed(words):
        rest = let(say(word), rest)
    return rest


class Refused(Case):
    def test_there_are_none(self):
        for kind in (box, said):
            self.check(*[(kind(i), [-3]) for i in (0, 1, 2, 20, HIGH)])

    def test_the_last_and_one_beyond(self):
        for kind in (box, said):
            self.check((program(start(1, num(1)), num(1)), [2]), (begin(), [1]), (kind(1), [0]), (kind(2), [-3]),
                       (run(), [4]), (kind(1), [0]), (kind(2), [0]), (kind(3), [-3]), (kind(0), [-3]),
                       (kind(HIGH), [-3]))

    def test_behind_program_there_are_none_again(self):
        for kind in (box, said):
            self.check((begin(), [1]), (kind(), [0]), (program(num(1)), [1]), (kind(), [-3]), (begin(), [1]),
                       (kind(), [0]))


class Box(Case):
    def arrived(self, words, rest):
        """The calls by which these words are in the box of the first process, which does its next step then."""
        return [program(sends(words, rest)), begin(), run(1, self.steps(words))] + [deliver()] * len(words)

    def steps(self, words):
        """As it stops short of awaiting, all its steps but that one are done."""
        return ask(program(sends(words, take_till(0, is_num(999), num(0), num(0)))), begin(), run())[-1][0] - 4

    def test_words_come_in_order(self):
        self.check((program(sends([num(5), num(6), num(5)], num(0))), [1]), (begin(), [1]), (run(1, 20), [20]),
                   (box(), row()), (deliver(), [1] + number(5)), (box(), row(number(5))), (deliver(), [1] + number(6)),
                   (box(), row(number(5), number(6))), (deliver(), [1] + number(5)),
                   (box(), row(number(5), number(6), number(5))))

    def test_words_that_are_not_wanted_stay_in_their_order(self):
        rest = take(is_num(3), num(0), is_num(4), num(0))
        for at in range(5):
            words = [1, 2, 1, 2]
            words.insert(at, 3)
            told = ask(*self.arrived([num(n) for n in words], rest), run(1, 1), box(), run(1, 1), box(), run(1, 1))
            left = row(number(1), number(2), number(1), number(2))
            self.assertEqual(told[-5:], [[1], row(*[number(n) for n in words]), [1], left, [1]])

    def test_the_oldest_of_several_that_are_alike(self):
        rest = take(both(is_num(7), ANY), num(0), is_num(4), num(0))
        words = [num(1), two(num(7), num(2)), num(3), two(num(7), num(4))]
        told = ask(*self.arrived(words, rest), run(1, 2), box())
        self.assertEqual(told[-1], row(number(1), number(3), pair(number(7), number(4))))

    def test_one_behind_another(self):
        third = take(is_num(9), num(0), is_num(8), num(0))
        rest = take(is_num(3), take(is_num(8), num(0), is_num(2), third), is_num(9), num(0))
        told = ask(*self.arrived([num(3), num(1), num(2), num(4)], rest), run(1, 2), box(), run(1, 2), box(), run(1, 2),
                   box())
        self.assertEqual(told[-6:], [[2], row(number(1), number(2), number(4)), [2], row(number(1), number(4)), [1],
                                     row(number(1), number(4))])

    def test_it_is_looked_at_without_being_changed(self):
        calls = self.arrived([num(1), num(2)], take(is_num(2), num(0), is_num(9), num(0)))
        told = ask(*calls, box(), box(), run(1, 2), box(), box())
        self.assertEqual(told[-5:], [row(number(1), number(2))] * 2 + [[2]] + [row(number(1))] * 2)

    def test_the_time_takes_no_word_out(self):
        calls = self.arrived([num(1), num(2)], take_till(5, is_num(3), num(0), num(7)))
        told = ask(*calls, run(1, 1), ticks(5), box(), run(1, 1), box(), run(1, 1), box(), run(), box())
        left = row(number(1), number(2))
        self.assertEqual(told[-7:], [left, [1], left, [1], left, [1], [0]])

    def test_values_of_each_kind(self):
        for written, value in EACH_KIND:
            told = ask(program(let(send(ME, written), take(is_num(77), num(0), is_num(78), num(0)))), begin(), run(),
                       deliver(), box())
            self.assertEqual(told[-1], row(value))

    def test_behind_the_end_it_is_empty(self):
        told = ask(*self.arrived([num(1), num(2)], num(0)), run(1, 1), box(), run(1, 1), box(), process())
        self.assertEqual(told[-5:], [[1], row(number(1), number(2)), [1], row(), [0, 0, 0, 0, 0, 2, 0, 0]])

    def test_behind_an_end_by_what_is_raised_it_is_empty(self):
        told = ask(*self.arrived([num(1), num(2)], throw(num(5))), run(1, 3), box(), run(1, 1), box())
        self.assertEqual(told[-4:], [[3], row(number(1), number(2)), [1], row()])

    def test_a_word_that_comes_behind_the_end_is_lost(self):
        for rest in (num(0), throw(num(0))):
            told = ask(program(sends([num(1), num(2)], rest)), begin(), run(), deliver(), box(), turns(1), box(),
                       process())
            self.assertEqual(told[3:7], [[1] + number(1), row(), [1, 0], row()])
            self.assertEqual(told[7][:5], [0, 0, 0, 0, 0])

    def test_by_turns_they_come_as_they_were_sent(self):
        self.check((program(sends([num(1)], sends([num(2)], take(is_num(9), num(0), is_num(8), num(0))))), [1]),
                   (begin(), [1]), (turns(30), [1, 0]), (box(), row(number(1), number(2))))

    def test_each_has_its_own(self):
        child = let(send(var(0), ME), take(is_num(9), num(0), is_num(8), num(0)))
        parent = let(start(1, ME), let(start(1, ME), let(send(var(0), num(5)), take(is_num(9), num(0), is_num(8),
                                                                                  num(0)))))
        self.check((program(parent, child), [2]), (begin(), [1]), (run(), [18]), (run(3), [8]), (run(2), [8]),
                   (turns(1), [3, 0]), (box(1), row(name(2), name(1))), (box(2), row()), (box(3), row(number(5))))

    def test_the_word_with_an_end_is_a_word_like_others(self):
        parent = let(watch(start(1, num(4))), take(is_num(9), num(0), is_num(8), num(0)))
        self.check((program(parent, throw(two(var(0), ME))), [2]), (begin(), [1]), (turns(4), [2, 0]),
                   (box(), row(pair(name(1), pair(number(1), pair(number(4), name(1)))))), (box(2), row()))

    def test_a_refused_call_takes_nothing_out_and_puts_nothing_in(self):
        breeds = call(1, start(1, num(1)))
        rows = [(program(sends([num(4)], take(KEEP, let(send(ME, var(0)), breeds), ANY, num(0))), breeds), [2]),
                (begin(), [1]), (run(), [8]), (deliver(), [1] + number(4))]
        seen = (box(), row(number(4)))
        self.check(*rows, seen, (run(), [-6]), seen, (turns(30), [-6]), seen, (run(2, 1), [-3]), seen,
                   (deliver(), [-5]), seen, (run(1, 1), [1]), (box(), row()))

    def test_many_words(self):
        # Each is one less than the one before.
        counts = when(var(0), is_num(0), take(is_num(9), num(0), is_num(8), num(0)),
                      let(send(ME, var(0)), call(0, less(var(1), num(1)))))
        told = ask(program(counts), begin(0, 100100), *[turns(30)] * 20, box())[-1]
        self.assertGreater(told[0], 250)
        self.assertEqual(told, row(*[number(n) for n in range(100100, 100100 - told[0], -1)]))


class Said(Case):
    def test_in_the_order_in_which_they_were_said(self):
        self.check((program(says([num(5), num(6), num(5)], num(0))), [1]), (begin(), [1]), (run(1, 3), [3]),
                   (said(), row()), (run(1, 1), [1]), (said(), row(number(5))), (run(1, 5), [5]),
                   (said(), row(number(5), number(6))), (run(1, 5), [5]),
                   (said(), row(number(5), number(6), number(5))), (run(), [3]),
                   (said(), row(number(5), number(6), number(5))))

    def test_one_within_another_is_said_first(self):
        self.check((program(say(two(say(num(1)), say(say(num(2)))))), [1]), (begin(), [1]), (run(), [14]),
                   (said(), row(number(1), number(2), number(2), pair(number(1), number(2)))))

    def test_its_value_is_what_was_said(self):
        self.check((program(two(say(var(0)), num(1))), [1]), (begin(0, 4), [1]), (run(), [8]),
                   (process(), [0, 0, 0, 0, 0, 2] + pair(number(4), number(1))), (said(), row(number(4))))

    def test_values_of_each_kind(self):
        told = ask(program(says([written for written, value in EACH_KIND], num(0))), begin(), run(), said())
        self.assertEqual(told[-1], row(*[value for written, value in EACH_KIND]))

    def test_they_stay_behind_the_end(self):
        self.check((program(say(num(3))), [1]), (begin(), [1]), (run(), [4]), (said(), row(number(3))),
                   (turns(30), [1, 0]), (run(), [0]), (said(), row(number(3))))
        self.check((program(throw(say(num(3)))), [1]), (begin(), [1]), (run(), [6]), (said(), row(number(3))),
                   (turns(30), [1, 0]), (run(), [0]), (said(), row(number(3))))

    def test_what_is_raised_is_not_said(self):
        self.check((program(catch(say(throw(num(1))), say(num(2)))), [1]), (begin(), [1]), (run(), [11]),
                   (said(), row(number(2))))

    def test_what_was_said_ahead_of_what_is_raised_stays_said(self):
        self.check((program(catch(two(say(num(1)), var(7)), num(2))), [1]), (begin(), [1]), (run(), [11]),
                   (said(), row(number(1))))

    def test_each_says_for_itself(self):
        self.check((program(two(say(num(1)), start(1, num(4))), two(say(ME), say(var(0)))), [2]), (begin(), [1]),
                   (run(), [10]), (said(1), row(number(1))), (said(2), row()), (run(2), [10]),
                   (said(1), row(number(1))), (said(2), row(name(1), number(4))))

    def test_what_is_refused_is_not_said(self):
        breeds = call(1, start(1, num(1)))
        seen = (said(), row(number(1)))
        self.check((program(says([num(1), num(2)], breeds), breeds), [2]), (begin(), [1]), (run(1, 5), [5]), seen,
                   (run(), [-6]), seen, (turns(30), [-6]), seen, (run(1, 4), [4]), (said(), row(number(1), number(2))))

    def test_what_words_it_took(self):
        # It says the words in the order in which they came, whoever sent them first.
        waits = take(KEEP, let(say(var(0)), call(1, num(0))), ANY, num(0))
        parent = let(start(2, ME), let(start(2, ME), call(1, num(0))))
        calls = [program(parent, waits, send(var(0), ME)), begin(), run(), run(2), run(3)]
        for order in ((2, 3), (3, 2)):
            told = ask(*calls, *[deliver(i, 1) for i in order], run(), said())
            self.assertEqual(told[-1], row(*[name(i - 1) for i in order]))

    def test_a_loop_says_much(self):
        loop = when(var(0), is_var(7), num(0), let(say(var(0)), call(0, less(var(1), num(1)))))
        told = ask(program(loop), begin(0, 50), *[run()] * 30, said())[-1]
        self.assertEqual(told[0], 600)
        self.assertEqual(told, row(*[number(n) for n in range(50, 50 - told[0], -1)]))


if __name__ == "__main__":
    unittest.main()
