"""Promise 1: program and begin, and the program that is there at the beginning."""

import unittest

from tests.helper import (ANY, KEEP, ME, Case, begin, both, call, catch, deliver, is_num, is_var, let, nested, num,
                          number, op, program, program_of, run, say, send, start, take, take_till, throw, ticks, turns,
                          two, var, watch, when)

HIGH = 4294967295

WHOLE = (num(5), var(0), two(num(1), num(2)), op(6, num(1), num(2)), let(num(1), var(0)),
         when(num(1), is_num(1), num(2), num(3)), call(0, num(1)), take(is_var(0), num(1), both(KEEP, ANY), num(2)),
         take_till(3, KEEP, num(1), num(2)), send(ME, num(1)), start(0, num(1)), ME, watch(ME), throw(num(1)),
         catch(num(1), num(2)), say(num(1)))


def sized(size):
    """Something written that has so many numbers."""
    written = (say(num(1)), say(say(num(1))), num(1))[size % 3]
    while len(written) < size:
        written = two(num(1), written)
    return written


def pattern_of(depth, innermost=ANY, first=False):
    pattern = innermost
    for level in range(depth - 1):
        pattern = both(pattern, ANY) if first else both(ANY, pattern)
    return pattern


def holders_of(pattern):
    """Wherever a pattern may stand."""
    return (when(num(1), pattern, num(1), num(1)), take(pattern, num(1), ANY, num(1)),
            take(ANY, num(1), pattern, num(1)), take_till(0, pattern, num(1), num(1)))


class Read(Case):
    def test_how_many_functions(self):
        for count in range(1, 11):
            self.check((program(*[num(count)] * count), [count]))

    def test_eleven_functions(self):
        self.check((program(*[num(1)] * 11), [-1]), (program(*[num(1)] * 150), [-1]))

    def test_each_that_can_be_written(self):
        for written in WHOLE:
            self.check((program(written), [1]), (program(written, num(1)), [2]))

    def test_one_behind_another(self):
        self.check((program(*WHOLE[:10]), [10]), (program(*WHOLE[6:]), [10]))

    def test_none(self):
        self.check((program_of([]), [-1]))

    def test_300_numbers_and_301(self):
        full = [sized(30)] * 10
        beyond = [sized(30)] * 9 + [sized(31)]
        self.assertEqual(len(sum(full, [])), 300)
        self.assertEqual(len(sum(beyond, [])), 301)
        self.check((program(*full), [10]), (program(*beyond), [-1]), (program(*full), [10]))

    def test_301_in_few_functions(self):
        self.check((program(sized(47), sized(47), sized(47), sized(47), sized(47), sized(47), sized(18)), [7]),
                   (program(sized(47), sized(47), sized(47), sized(47), sized(47), sized(47), sized(19)), [-1]))

    def test_320_numbers(self):
        self.check((program(*[sized(32)] * 10), [-1]), (program_of([0] * 320), [-1]))

    def test_a_row_that_breaks_off(self):
        for written in WHOLE:
            for size in range(1, len(written)):
                self.check((program_of(written[:size]), [-1]), (program_of(num(1) + written[:size]), [-1]))

    def test_numbers_left_that_are_no_function(self):
        for left in ([0], [2], [16], [16, 1], [HIGH], [2, 0, 1], [3, 7, 0, 1, 0, 1], [1, 21], [5, 0, 1, 5, 0, 1]):
            self.check((program_of(num(1) + left), [-1]))

    def test_what_is_none_of_the_sixteen(self):
        for kind in (16, 17, 255, 65536, HIGH):
            self.check((program_of([kind]), [-1]), (program_of([kind, 0, 1]), [-1]),
                       (program(say([kind, 0, 1])), [-1]))

    def test_what_is_none_of_the_five_patterns(self):
        for kind in (5, 6, 15, HIGH):
            for holder in holders_of([kind]) + holders_of(both(ANY, [kind])) + holders_of([kind, 1]):
                self.check((program(holder), [-1]))


class Granted(Case):
    def each(self, most, write):
        for n in (0, 1, most - 1, most):
            self.check((program(*write(n)), [len(write(n))]))
        for n in (most + 1, most + 2, 2 * most, HIGH):
            self.check((program(*write(n)), [-1]))

    def test_n(self):
        self.each(1000000, lambda n: (num(n),))
        self.each(1000000, lambda n: (num(1), say(two(num(1), num(n)))))

    def test_i(self):
        self.each(20, lambda i: (var(i),))
        self.each(20, lambda i: (num(1), say(two(num(1), var(i)))))

    def test_f(self):
        self.each(9, lambda f: (call(f, num(1)),))
        self.each(9, lambda f: (start(f, num(1)),))

    def test_k(self):
        self.each(6, lambda k: (op(k, num(1), num(1)),))

    def test_t(self):
        self.each(1000, lambda t: (take_till(t, ANY, num(1), num(1)),))

    def test_n_of_a_pattern(self):
        for place in range(4):
            self.each(1000000, lambda n: (holders_of(is_num(n))[place],))
            self.each(1000000, lambda n: (holders_of(both(ANY, is_num(n)))[place],))

    def test_i_of_a_pattern(self):
        for place in range(4):
            self.each(20, lambda i: (holders_of(is_var(i))[place],))
            self.each(20, lambda i: (holders_of(both(is_var(i), ANY))[place],))


class Nested(Case):
    def test_20_and_21_deep(self):
        self.check((program(nested(20)), [1]), (program(nested(21)), [-1]), (program(nested(150)), [-1]),
                   (program(nested(19), nested(20)), [2]), (program(nested(1), nested(21)), [-1]))

    def deep_in(self, wrap, depth=20):
        self.check((program(wrap(nested(depth - 1))), [1]), (program(wrap(nested(depth))), [-1]))

    def test_deep_in_each_part(self):
        one = num(1)
        for wrap in (lambda a: two(a, one), lambda a: two(one, a), lambda a: op(0, a, one), lambda a: op(0, one, a),
                     lambda a: let(a, one), lambda a: let(one, a), lambda a: when(a, ANY, one, one),
                     lambda a: when(one, ANY, a, one), lambda a: when(one, ANY, one, a), lambda a: call(0, a),
                     lambda a: take(ANY, a, ANY, one), lambda a: take(ANY, one, ANY, a),
                     lambda a: take_till(0, ANY, a, one), lambda a: take_till(0, ANY, one, a), lambda a: send(a, one),
                     lambda a: send(one, a), lambda a: start(0, a), watch, throw, lambda a: catch(a, one),
                     lambda a: catch(one, a), say):
            self.deep_in(wrap)

    def test_each_that_is_1_deep(self):
        for leaf in (num(1), var(0), ME):
            written = leaf
            for level in range(19):
                written = say(written)
            self.check((program(written), [1]), (program(say(written)), [-1]))

    def test_patterns_add_nothing(self):
        written = num(1)
        for level in range(19):
            written = when(num(1), pattern_of(5), num(1), written)
        self.assertLess(len(written), 301)
        self.check((program(written), [1]))

    def test_patterns_5_and_6_deep(self):
        for innermost in (ANY, KEEP, is_num(1), is_var(0)):
            for first in (False, True):
                for holder in holders_of(pattern_of(5, innermost, first)):
                    self.check((program(holder), [1]))
                for holder in holders_of(pattern_of(6, innermost, first)):
                    self.check((program(holder), [-1]))

    def test_patterns_far_deeper(self):
        for holder in holders_of(pattern_of(120)):
            self.check((program(holder), [-1]))


class WhatProgramLeaves(Case):
    def test_at_the_beginning_it_is_the_number_0(self):
        self.check((begin(0, 5), [1]), (run(), [2]), (turns(1), [1, 0]))
        self.check((begin(1, 5), [-1]))

    def test_nothing_is_there_any_more(self):
        self.check((program(send(ME, num(1))), [1]), (begin(), [1]), (run(), [6]), (ticks(5), [5]),
                   (turns(0), [1, 1]), (program(num(3)), [1]), (turns(0), [0, 0]), (ticks(0), [0]),
                   (run(), [-3]), (deliver(), [-3]), (begin(), [1]), (run(), [2]))

    def test_the_same_program_again(self):
        self.check((program(num(3)), [1]), (begin(), [1]), (program(num(3)), [1]), (turns(0), [0, 0]), (begin(), [1]))

    def test_names_begin_anew(self):
        twice = (program(send(ME, start(1, num(1))), num(0)), [2])
        rows = [twice, (begin(), [1]), (run(), [8]), (deliver(), [1, 1, 1, 1])]
        self.check(*(rows + rows))

    def test_a_refusal_leaves_all_as_it_was(self):
        for refused in (program_of([]), program_of([0]), program(nested(21)), program_of([0] * 301)):
            self.check((program(send(ME, num(4)), num(1)), [2]), (refused, [-1]), (begin(0, 1), [1]),
                       (ticks(7), [7]), (run(1, 3), [3]), (refused, [-1]), (run(1, 300), [3]), (refused, [-1]),
                       (turns(0), [1, 1]), (ticks(0), [7]), (begin(0, 1), [-8]), (deliver(), [1] + number(4)))

    def test_a_refusal_at_the_beginning(self):
        self.check((program_of([]), [-1]), (begin(1, 0), [-1]), (begin(0, 0), [1]), (run(), [2]))


class Begin(Case):
    def test_function_and_number(self):
        two_of_them = program(send(ME, two(num(1), var(0))), send(ME, two(num(2), var(0))))
        for f in (0, 1):
            for n in (0, 1, 999999, 1000000):
                self.check((two_of_them, [2]), (begin(f, n), [1]), (turns(0), [1, 0]), (run(), [10]),
                           (deliver(), [1, 2] + number(f + 1) + number(n)))

    def test_that_is_its_only_variable(self):
        self.check((program(send(ME, catch(var(1), var(0)))), [1]), (begin(0, 9), [1]), (run(), [9]),
                   (deliver(), [1] + number(101)))

    def test_no_such_function(self):
        for count in (1, 2, 9, 10):
            rows = [(program(*[num(1)] * count), [count])]
            for f in (count, count + 1, 10, HIGH):
                rows.append((begin(f, 0), [-1]))
            self.check(*(rows + [(turns(0), [0, 0]), (begin(count - 1, 0), [1])]))

    def test_number_too_high(self):
        self.check((begin(0, 1000001), [-1]), (begin(0, HIGH), [-1]), (turns(0), [0, 0]), (run(), [-3]),
                   (begin(0, 1000000), [1]))

    def test_both_are_wrong(self):
        self.check((begin(1, 1000001), [-1]), (turns(0), [0, 0]))

    def test_there_are_processes(self):
        self.check((begin(0, 0), [1]), (begin(0, 0), [-8]), (run(), [2]), (begin(0, 0), [-8]), (turns(0), [1, 0]))

    def test_there_are_processes_is_told_first(self):
        self.check((begin(0, 0), [1]), (begin(1, 0), [-8]), (begin(0, 1000001), [-8]), (begin(HIGH, HIGH), [-8]))

    def test_a_refusal_leaves_all_as_it_was(self):
        self.check((program(send(ME, var(0))), [1]), (ticks(3), [3]), (begin(1, 5), [-1]), (begin(0, 1000001), [-1]),
                   (begin(0, 5), [1]), (run(1, 2), [2]), (begin(0, 6), [-8]), (run(1, 300), [4]), (begin(0, 6), [-8]),
                   (turns(0), [1, 1]), (deliver(), [1] + number(5)), (ticks(0), [3]))

    def test_begin_leaves_the_time(self):
        self.check((ticks(30), [30]), (begin(), [1]), (ticks(0), [30]))


if __name__ == "__main__":
    unittest.main()
