"""Awaiting: which word is taken out, what stays in the box, and what time does."""

import unittest

from tests.helper import (ANY, KEEP, ME, WRONG, Case, ask, begin, both, catch, deliver, is_num, is_var, let, num,
                          number, pair, program, run, send, take, take_any, take_till, throw, ticks, turns, two, var)


def behind_words(words, rest):
    """Sends itself these words and goes on with the rest."""
    written = rest
    for word in reversed(words):
        written = let(send(ME, word), written)
    return written


def arrived(words, rest, n=0):
    """The calls by which the first process awaits and has these words in its box, but hasn't looked at them."""
    return [program(behind_words(words, rest)), begin(0, n), run()] + [deliver()] * len(words)


class Taking(Case):
    def taken(self, words, rest, n=0):
        """What it sends itself in the end."""
        told = ask(*(arrived(words, rest, n) + [run(), deliver()]))
        return told[-1]

    def test_its_steps(self):
        # It awaits, the word is taken out, its value, the end.
        calls = arrived([num(5)], take(KEEP, var(0), ANY, num(0)))
        self.assertEqual(ask(*(calls + [run(1, 300)]))[2:], [[8], [1] + number(5), [3]])
        calls = arrived([num(5)], take(is_num(1), num(0), KEEP, var(0)))
        self.assertEqual(ask(*(calls + [run(1, 300)]))[2:], [[8], [1] + number(5), [3]])
        calls = arrived([num(5)], take_till(9, KEEP, var(0), num(0)))
        self.assertEqual(ask(*(calls + [run(1, 300)]))[2:], [[8], [1] + number(5), [3]])
        self.assertEqual(ask(program(take_any()), begin(), run(1, 1), run(1, 1))[2:], [[1], [0]])

    def test_the_oldest(self):
        self.assertEqual(self.taken([num(5), num(6)], take(KEEP, send(ME, var(0)), ANY, num(0))), [1] + number(5))

    def test_the_first_that_is_like_it(self):
        rest = take(both(is_num(1), KEEP), send(ME, var(0)), both(is_num(2), KEEP), send(ME, two(num(9), var(0))))
        self.assertEqual(self.taken([num(1), two(num(3), num(1)), two(num(1), num(7)), two(num(1), num(8))], rest),
                         [1] + number(7))
        self.assertEqual(self.taken([num(1), two(num(2), num(1)), two(num(1), num(7))], rest),
                         [1] + pair(number(9), number(1)))
        self.assertEqual(self.taken([two(num(1), num(7)), two(num(2), num(1))], rest), [1] + number(7))

    def test_like_both_it_is_the_first(self):
        self.assertEqual(self.taken([num(5)], take(KEEP, send(ME, num(1)), KEEP, send(ME, num(2)))), [1] + number(1))
        self.assertEqual(self.taken([num(5)], take(is_num(5), send(ME, num(1)), ANY, send(ME, num(2)))),
                         [1] + number(1))
        self.assertEqual(self.taken([num(4)], take(is_num(5), send(ME, num(1)), ANY, send(ME, num(2)))),
                         [1] + number(2))

    def test_an_older_word_goes_before_the_first_pattern(self):
        rest = take(is_num(1), send(ME, num(11)), is_num(2), send(ME, num(12)))
        self.assertEqual(self.taken([num(2), num(1)], rest), [1] + number(12))
        self.assertEqual(self.taken([num(1), num(2)], rest), [1] + number(11))
        self.assertEqual(self.taken([num(3), num(2), num(1)], rest), [1] + number(12))

    def test_what_each_keeps(self):
        rest = take(both(KEEP, is_num(1)), send(ME, two(var(0), var(2))), both(KEEP, KEEP),
                    send(ME, two(var(0), two(var(1), var(3)))))
        self.assertEqual(self.taken([two(num(5), num(1))], rest, 9), [1] + pair(number(5), number(9)))
        self.assertEqual(self.taken([two(num(5), num(2))], rest, 9),
                         [1] + pair(number(2), pair(number(5), number(9))))

    def test_it_keeps_nothing_of_the_words_that_are_not_like_it(self):
        rest = take(both(KEEP, is_num(1)), send(ME, two(var(0), var(1))), is_num(77), num(0))
        told = self.taken([two(num(5), num(2)), two(num(6), num(1))], rest, 9)
        self.assertEqual(told, [1] + pair(number(6), pair(number(6), number(1))))

    def test_like_a_variable(self):
        rest = take(is_var(2), send(ME, num(1)), is_num(77), num(0))
        self.assertEqual(self.taken([num(5), num(9)], rest, 9), [1] + number(1))
        rest = take(both(KEEP, is_var(0)), send(ME, var(0)), is_num(77), num(0))
        self.assertEqual(self.taken([two(num(5), num(6)), two(num(7), num(7))], rest), [1] + number(7))

    def test_the_others_stay_in_their_order(self):
        rest = take(is_num(3), take(KEEP, take(KEEP, take(KEEP, ALL_THREE, ANY, num(0)), ANY, num(0)), ANY, num(0)),
                    is_num(77), num(0))
        for at in range(4):
            words = [num(1), num(2), num(4)]
            words.insert(at, num(3))
            self.assertEqual(self.taken(words, rest), [1] + pair(number(1), pair(number(2), number(4))))

    def test_a_word_is_taken_once(self):
        calls = arrived([num(5)], take(ANY, take(ANY, num(1), ANY, num(2)), ANY, num(3)))
        self.assertEqual(ask(*(calls + [run(), run()]))[-2:], [[2], [0]])

    def test_words_like_it_a_second_time(self):
        calls = arrived([num(5), num(5)], take(is_num(5), take(is_num(5), num(1), ANY, num(2)), ANY, num(3)))
        self.assertEqual(ask(*(calls + [run()]))[-1:], [[5]])

    def test_what_is_raised_behind_it(self):
        calls = arrived([num(5)], catch(take(KEEP, throw(var(0)), ANY, num(0)), send(ME, two(num(8), var(0)))))
        self.assertEqual(ask(*(calls + [run(), deliver()]))[-1], [1] + pair(number(8), number(5)))
        calls = arrived([num(5)], catch(take(KEEP, var(9), ANY, num(0)), send(ME, two(num(8), var(0)))))
        self.assertEqual(ask(*(calls + [run(), deliver()]))[-1], [1] + pair(number(8), number(WRONG)))


ALL_THREE = send(ME, two(var(2), two(var(1), var(0))))


class Waiting(Case):
    def test_till_there_is_one(self):
        self.check((program(behind_words([num(5)], take(KEEP, send(ME, var(0)), ANY, num(0)))), [1]), (begin(), [1]),
                   (run(), [8]), (run(), [0]), (turns(0), [1, 1]), (deliver(), [1] + number(5)), (run(), [7]),
                   (deliver(), [1] + number(5)))

    def test_words_that_are_not_like_it_do_not_help(self):
        rest = take(is_num(7), take(KEEP, send(ME, var(0)), ANY, num(0)), is_num(8), num(0))
        calls = [program(behind_words([num(1), num(2), num(7), num(3)], rest)), begin(), run()]
        told = ask(*(calls + [run(), deliver(), run(), deliver(), run(), deliver(), run(), deliver(), run()]))
        self.assertEqual(told[2:], [[29], [0], [1] + number(1), [0], [1] + number(2), [0], [1] + number(7),
                                    [1 + 1 + 1 + 5 + 1], [1] + number(3), [0]])

    def test_a_word_behind_many_that_were_looked_at(self):
        rest = take(is_num(7), take(is_num(1), take(is_num(2), send(ME, num(9)), is_num(8), num(0)), is_num(8), num(0)),
                    is_num(8), num(0))
        words = [num(1), num(2), num(7)]
        told = ask(program(behind_words(words, rest)), begin(), run(), deliver(), deliver(), run(), run(), deliver(),
                   run(), deliver())
        self.assertEqual(told[2:], [[22], [1] + number(1), [1] + number(2), [0], [0], [1] + number(7),
                                    [1 + 1 + 1 + 1 + 1 + 5 + 1], [1] + number(9)])

    def test_by_turns(self):
        rest = take(is_num(7), send(ME, num(9)), is_num(8), num(0))
        self.check((program(behind_words([num(1), num(7)], rest)), [1]), (begin(), [1]), (turns(30), [1, 0]),
                   (run(), [0]))
        self.check((program(behind_words([num(1), num(6)], rest)), [1]), (begin(), [1]), (turns(30), [1, 0]),
                   (run(), [0]), (turns(30), [1, 0]))

    def test_time_does_not_help(self):
        self.check((program(take_any()), [1]), (begin(), [1]), (run(), [1]), (ticks(1000), [1000]), (run(), [0]))

    def test_a_refused_run_takes_no_word_out(self):
        # Behind its word it would start processes without end.
        breeds = [6, 1, 10, 1] + num(1)
        told = ask(program(behind_words([num(4)], take(KEEP, let(send(ME, var(0)), breeds), ANY, num(0))), breeds),
                   begin(), run(1, 8), deliver(), run(), run(1, 8), deliver(), run())
        self.assertEqual(told[2:], [[8], [1] + number(4), [-6], [8], [1] + number(4), [-6]])


class Time(Case):
    def test_just_there_and_one_short(self):
        for t in (1, 2, 5, 1000):
            rows = [(program(take_till(t, ANY, num(1), num(2))), [1]), (begin(), [1]), (run(), [1])]
            self.check(*(rows + [(ticks(t - 1), [t - 1]), (run(), [0]), (ticks(1), [t]), (run(), [3])]))
            self.check(*(rows + [(ticks(t), [t]), (run(), [3])]))

    def test_later(self):
        self.check((program(take_till(5, ANY, num(1), num(2))), [1]), (begin(), [1]), (run(), [1]),
                   (ticks(1000), [1000]), (run(), [3]))

    def test_none_at_all(self):
        self.check((program(take_till(0, ANY, num(1), num(2))), [1]), (begin(), [1]), (run(1, 1), [1]), (run(), [3]))

    def test_it_counts_from_when_it_began(self):
        self.check((ticks(50), [50]), (program(let(num(1), take_till(5, ANY, num(1), num(2)))), [1]), (begin(), [1]),
                   (ticks(7), [7]), (run(1, 3), [3]), (ticks(9), [16]), (run(1, 300), [1]), (run(), [0]),
                   (ticks(4), [20]), (run(), [0]), (ticks(1), [21]), (run(), [3]))

    def test_each_counts_anew(self):
        twice = take_till(5, ANY, num(1), take_till(5, ANY, num(1), num(2)))
        self.check((program(twice), [1]), (begin(), [1]), (run(), [1]), (ticks(8), [8]), (run(), [2]), (ticks(4), [12]),
                   (run(), [0]), (ticks(1), [13]), (run(), [3]))

    def test_what_comes_then(self):
        told = ask(program(take_till(5, KEEP, send(ME, two(num(1), var(0))), send(ME, two(num(2), var(0))))),
                   begin(0, 9), run(), ticks(5), run(), deliver())
        self.assertEqual(told[-1], [1] + pair(number(2), number(9)))

    def test_a_word_before_the_time(self):
        rest = take_till(5, KEEP, send(ME, two(num(1), var(0))), send(ME, num(2)))
        told = ask(*(arrived([num(4)], rest) + [run(), deliver()]))
        self.assertEqual(told[-1], [1] + pair(number(1), number(4)))

    def test_a_word_goes_before_the_time(self):
        rest = take_till(5, is_num(4), send(ME, num(1)), send(ME, num(2)))
        for wait in (5, 6, 1000):
            told = ask(*(arrived([num(3), num(4)], rest) + [ticks(wait), run(), deliver()]))
            self.assertEqual(told[-1], [1] + number(1))
        rest = take_till(0, ANY, send(ME, num(1)), send(ME, num(2)))
        told = ask(program(behind_words([num(4)], rest)), begin(), run(1, 8), deliver(), run(), deliver())
        self.assertEqual(told[3:], [[1] + number(4), [7], [1] + number(1)])

    def test_words_that_are_not_like_it_stay(self):
        rest = take_till(5, is_num(4), num(1), take(KEEP, send(ME, var(0)), ANY, num(0)))
        told = ask(*(arrived([num(3), num(6)], rest) + [run(), ticks(4), run(), ticks(1), run(), deliver()]))
        self.assertEqual(told[-6:], [[0], [4], [0], [5], [1 + 1 + 1 + 5 + 1], [1] + number(3)])

    def test_a_word_that_comes_while_it_waits(self):
        rest = take_till(5, is_num(4), send(ME, num(1)), send(ME, num(2)))
        calls = [program(behind_words([num(3), num(4)], rest)), begin(), run(), deliver(), run(), ticks(4), run()]
        self.assertEqual(ask(*(calls + [deliver(), run(), deliver()]))[2:],
                         [[15], [1] + number(3), [0], [4], [0], [1] + number(4), [7], [1] + number(1)])
        told = ask(*(calls + [ticks(1), run(), deliver(), deliver()]))
        self.assertEqual(told[-2:], [[1] + number(4), [1] + number(2)])

    def test_in_turns_time_stands(self):
        self.check((program(take_till(1, ANY, num(1), num(2))), [1]), (begin(), [1]), (turns(30), [1, 0]), (run(), [0]),
                   (ticks(1), [1]), (turns(1), [1, 0]), (run(), [0]))

    def test_a_refused_tick_is_no_time(self):
        self.check((program(take_till(5, ANY, num(1), num(2))), [1]), (begin(), [1]), (run(), [1]), (ticks(1001), [-1]),
                   (run(), [0]))

    def test_time_is_kept_behind_a_refusal(self):
        # It awaits since time 3; what is refused behind it leaves that.
        breeds = [6, 1, 10, 1] + num(1)
        told = ask(program(take_till(5, ANY, num(1), breeds), breeds), begin(), ticks(3), run(1, 1), ticks(4), run(),
                   ticks(1), run(), run(1, 2), turns(0), run())
        self.assertEqual(told[2:], [[3], [1], [7], [0], [8], [-6], [2], [1, 0], [-6]])


if __name__ == "__main__":
    unittest.main()
