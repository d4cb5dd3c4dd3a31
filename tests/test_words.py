"""The words: what each that is written takes in steps, and what it brings about."""

import unittest

from tests.helper import (ANY, HIGHEST, KEEP, LOWEST, ME, WRONG, Case, add, alike, ask, begin, below, both, call, catch,
                          deliver, highest, less, let, lowest, minus, name, num, number, op, pair, program,
                          raised_by, run, say, send, start, steps_of, take_any, throw, times, turns, two, value_of,
                          var, watch, when)


class Plain(Case):
    def test_a_number(self):
        for n in (0, 1, 101, 1000000):
            self.assertEqual(value_of(num(n)), number(n))
        self.assertEqual(steps_of(num(5)), 1)

    def test_a_variable(self):
        self.assertEqual(value_of(var(0), 8), number(8))
        self.assertEqual(steps_of(var(0)), 1)

    def test_the_newest_variable_is_first(self):
        for i, n in ((0, 30), (1, 20), (2, 10), (3, 8)):
            self.assertEqual(value_of(let(num(10), let(num(20), let(num(30), var(i)))), 8), number(n))

    def test_a_variable_that_there_is_not(self):
        for i in (1, 2, 20):
            self.assertEqual(raised_by(var(i)), number(WRONG))
        self.assertEqual(raised_by(let(num(1), var(1)), 4), None)
        self.assertEqual(raised_by(let(num(1), var(2)), 4), number(WRONG))

    def test_the_twentieth_behind_the_newest(self):
        # Patterns keep 4, 8 and 8: with the number handed in there are 21 variables.
        twins = two(var(0), var(0))
        eight = let(num(9), let(twins, let(twins, twins)))
        four = let(num(9), let(twins, twins))
        keeps_four = both(both(KEEP, KEEP), both(KEEP, KEEP))
        keeps_eight = both(keeps_four, keeps_four)
        kept = when(eight, keeps_eight, when(eight, keeps_eight, var(20), num(0)), num(0))
        written = when(four, keeps_four, kept, num(0))
        self.assertEqual(value_of(written, 77), number(77))
        self.assertEqual(value_of(let(num(5), written), 77), number(5))
        self.assertEqual(raised_by(kept, 77), number(WRONG))

    def test_ones_own_name(self):
        self.assertEqual(value_of(ME), name())
        self.assertEqual(steps_of(ME), 1)

    def test_both(self):
        self.assertEqual(value_of(two(num(1), num(2))), pair(number(1), number(2)))
        self.assertEqual(value_of(two(two(num(1), ME), num(2))), pair(pair(number(1), name()), number(2)))
        self.assertEqual(value_of(two(num(2), two(num(1), ME))), pair(number(2), pair(number(1), name())))
        self.assertEqual(steps_of(two(num(1), num(2))), 5)
        self.assertEqual(steps_of(two(two(num(1), num(2)), num(2))), 9)

    def test_the_first_is_worked_out_first(self):
        for write in (two, add):
            self.check((program(write(send(ME, num(1)), send(ME, num(2)))), [1]), (begin(), [1]), (run(1, 300), [14]),
                       (deliver(), [1] + number(1)), (deliver(), [1] + number(2)))
        self.assertEqual(raised_by(two(throw(num(1)), throw(num(2)))), number(1))
        self.assertEqual(raised_by(add(throw(num(1)), throw(num(2)))), number(1))
        self.assertEqual(raised_by(send(throw(num(1)), throw(num(2)))), number(1))


class Operations(Case):
    def test_they_take_5_steps(self):
        for k in range(5):
            self.assertEqual(steps_of(op(k, num(1), num(2))), 5)
        self.assertEqual(steps_of(op(5, two(num(1), num(2)), num(1))), 9)
        self.assertEqual(steps_of(op(6, two(num(1), num(2)), num(1))), 9)

    def test_the_step_of_each_part(self):
        # It's begun, 1 is, it has come, 2 is, it has come; then the process ends.
        self.check((program(add(num(1), num(2))), [1]), (begin(), [1]), (run(1, 5), [5]), (run(1, 300), [1]))

    def test_sums(self):
        for a, b, n in ((num(1), num(2), 3), (num(0), num(0), 0), (minus(5), num(3), -2), (highest(), num(0), HIGHEST),
                        (highest(), num(1), LOWEST), (highest(), highest(), -2), (lowest(), num(0), LOWEST),
                        (lowest(), minus(1), HIGHEST), (lowest(), lowest(), 0), (lowest(), highest(), -1),
                        (highest(), lowest(), -1), (num(1000000), num(1000000), 2000000)):
            self.assertEqual(value_of(add(a, b)), number(n))

    def test_differences(self):
        for a, b, n in ((num(1), num(2), -1), (num(2), num(1), 1), (num(0), num(0), 0), (lowest(), num(1), HIGHEST),
                        (lowest(), num(0), LOWEST), (num(0), lowest(), LOWEST), (highest(), minus(1), LOWEST),
                        (num(0), highest(), -HIGHEST), (lowest(), highest(), 1), (highest(), lowest(), -1),
                        (minus(1), lowest(), HIGHEST)):
            self.assertEqual(value_of(less(a, b)), number(n))

    def test_products(self):
        for a, b, n in ((num(6), num(7), 42), (num(0), highest(), 0), (minus(6), num(7), -42),
                        (minus(6), minus(7), 42), (num(65536), num(65536), 0), (num(65536), num(32768), LOWEST),
                        (num(65535), num(32768), 2147450880), (highest(), num(2), -2), (highest(), highest(), 1),
                        (lowest(), lowest(), 0), (lowest(), minus(1), LOWEST), (lowest(), num(3), LOWEST),
                        (num(1000000), num(1000000), -727379968), (highest(), minus(1), -HIGHEST)):
            self.assertEqual(value_of(times(a, b)), number(n))

    def test_below(self):
        for a, b, n in ((num(1), num(2), 1), (num(2), num(2), 0), (num(3), num(2), 0), (minus(1), num(0), 1),
                        (lowest(), highest(), 1), (highest(), lowest(), 0), (highest(), highest(), 0),
                        (lowest(), lowest(), 0), (minus(2), minus(1), 1), (minus(1), minus(2), 0)):
            self.assertEqual(value_of(below(a, b)), number(n))

    def test_alike(self):
        for a, b, n in ((num(1), num(1), 1), (num(1), num(2), 0), (highest(), highest(), 1), (highest(), lowest(), 0),
                        (ME, ME, 1), (ME, num(0), 0), (num(0), ME, 0), (two(num(1), ME), two(num(1), ME), 1),
                        (two(num(1), ME), two(ME, num(1)), 0), (two(num(1), num(2)), two(num(1), num(3)), 0),
                        (two(num(1), num(2)), two(num(3), num(2)), 0), (two(num(1), num(1)), num(1), 0),
                        (num(1), two(num(1), num(1)), 0), (two(ME, ME), ME, 0),
                        (two(two(num(1), num(2)), num(3)), two(num(1), two(num(2), num(3))), 0),
                        (two(two(num(1), num(2)), num(3)), two(two(num(1), num(2)), num(3)), 1)):
            self.assertEqual(value_of(alike(a, b)), number(n))

    def test_names_are_alike_only_if_they_are_one(self):
        children = let(start(1, num(0)), let(start(1, num(0)), BOTH_ASKED))
        self.assertEqual(value_of(children, 0, (num(0),)), pair(number(0), number(1)))

    def test_the_first_and_the_second(self):
        for y in (num(1), ME, two(num(1), num(2)), minus(1)):
            self.assertEqual(value_of(op(5, two(num(8), ME), y)), number(8))
            self.assertEqual(value_of(op(6, two(num(8), ME), y)), name())
        self.assertEqual(value_of(op(5, two(two(num(1), num(2)), num(3)), ME)), pair(number(1), number(2)))
        self.assertEqual(value_of(op(6, two(num(3), two(num(1), num(2))), ME)), pair(number(1), number(2)))

    def test_of_what_is_no_number(self):
        for k in range(4):
            for other in (ME, two(num(1), num(2))):
                self.assertEqual(raised_by(op(k, other, num(1))), number(WRONG))
                self.assertEqual(raised_by(op(k, num(1), other)), number(WRONG))
                self.assertEqual(raised_by(op(k, other, other)), number(WRONG))

    def test_of_what_is_not_two(self):
        for k in (5, 6):
            for other in (ME, num(1)):
                self.assertEqual(raised_by(op(k, other, num(1))), number(WRONG))
                self.assertEqual(raised_by(op(k, other, two(num(1), num(2)))), number(WRONG))

    def test_it_is_raised_when_both_have_come(self):
        # Begun, a name, it has come, a number, it has come: raised; then nothing is to be done.
        for k, a in ((0, ME), (3, ME), (5, num(1)), (6, ME)):
            self.check((program(op(k, a, send(ME, num(4)))), [1]), (begin(), [1]), (run(1, 300), [10]),
                       (deliver(), [1] + number(4)))

    def test_y_is_worked_out_where_it_may_be_anything(self):
        self.assertEqual(raised_by(op(5, two(num(1), num(2)), throw(num(9)))), number(9))


BOTH_ASKED = two(alike(var(0), var(1)), alike(var(1), var(1)))


class LetAndChoice(Case):
    def test_let(self):
        self.assertEqual(value_of(let(num(4), two(var(0), var(1))), 9), pair(number(4), number(9)))
        self.assertEqual(steps_of(let(num(4), var(0))), 4)

    def test_a_new_variable_is_there_in_its_own_part_alone(self):
        self.assertEqual(value_of(two(let(num(4), var(0)), var(0)), 9), pair(number(4), number(9)))
        self.assertEqual(value_of(let(let(num(4), num(5)), two(var(0), var(1))), 9), pair(number(5), number(9)))
        self.assertEqual(raised_by(two(let(num(4), var(0)), var(1)), 9), number(WRONG))

    def test_choice(self):
        self.assertEqual(value_of(when(num(1), [2, 1], num(5), num(6))), number(5))
        self.assertEqual(value_of(when(num(2), [2, 1], num(5), num(6))), number(6))
        self.assertEqual(steps_of(when(num(1), [2, 1], num(5), num(6))), 4)
        self.assertEqual(steps_of(when(num(2), [2, 1], num(5), num(6))), 4)

    def test_only_what_is_chosen_is_worked_out(self):
        self.assertEqual(raised_by(when(num(1), [2, 1], num(5), throw(num(6)))), None)
        self.assertEqual(raised_by(when(num(2), [2, 1], throw(num(5)), num(6))), None)

    def test_what_is_kept_is_in_the_first_alone(self):
        choice = when(var(0), [4, 1, 2, 5], two(var(0), var(1)), var(0))
        self.assertEqual(value_of(let(two(num(3), num(5)), choice)), pair(number(3), pair(number(3), number(5))))
        self.assertEqual(value_of(let(two(num(3), num(6)), choice)), pair(number(3), number(6)))
        self.assertEqual(raised_by(let(num(3), when(var(0), [4, 1, 1], num(0), var(2)))), number(WRONG))


class Calls(Case):
    def test_a_call(self):
        self.assertEqual(value_of(call(1, num(6)), 9, (add(var(0), num(1)),)), number(7))
        self.assertEqual(steps_of(call(1, num(6)), 0, (var(0),)), 4)

    def test_the_argument_is_the_only_variable(self):
        self.assertEqual(raised_by(let(num(5), call(1, num(6))), 9, (var(1),)), number(WRONG))

    def test_behind_a_call_its_variables_are_there_again(self):
        self.assertEqual(value_of(two(call(1, num(6)), var(0)), 9, (var(0),)), pair(number(6), number(9)))

    def test_a_function_that_there_is_not(self):
        for f in (2, 3, 9):
            self.assertEqual(raised_by(call(f, num(1)), 0, (num(1),)), number(WRONG))
        self.assertEqual(raised_by(call(1, num(1)), 0, (num(1),)), None)

    def test_its_argument_is_worked_out_first(self):
        self.check((program(call(1, send(ME, num(3)))), [1]), (begin(), [1]), (run(), [8]),
                   (deliver(), [1] + number(3)))
        self.assertEqual(raised_by(call(5, throw(num(3)))), number(3))

    def test_nothing_of_the_call_is_to_be_done_any_more(self):
        # The loop calls itself at its end: when it raises, there is nothing but the end to be done.
        loop = when(var(0), [2, 0], throw(num(3)), call(0, less(var(0), num(1))))
        for n in range(5):
            self.check((program(loop), [1]), (begin(0, n), [1]), (run(), [10 * n + 3 + 3 + 1]))

    def test_a_call_that_is_a_part_stays_to_be_done_with(self):
        # Each of these has a sum to be done when it is raised: one step more each.
        loop = when(var(0), [2, 0], throw(num(3)), add(num(1), call(0, less(var(0), num(1)))))
        for n in range(5):
            self.check((program(loop), [1]), (begin(0, n), [1]), (run(), [(10 + 3) * n + 3 + 3 + n + 1]))

    def test_functions_call_one_another(self):
        even = when(var(0), [2, 0], num(1), call(2, less(var(0), num(1))))
        odd = when(var(0), [2, 0], num(0), call(1, less(var(0), num(1))))
        for n in range(6):
            self.assertEqual(value_of(call(1, num(n)), 0, (even, odd)), number(1 - n % 2))

    def test_a_loop_that_goes_on_long(self):
        rows = [(program(call(0, add(var(0), num(1)))), [1]), (begin(), [1])]
        self.check(*(rows + [(turns(30), [1, 0])] * 38))


class SendsAndStarts(Case):
    def test_sending(self):
        self.check((program(two(num(1), send(ME, num(2)))), [1]), (begin(), [1]), (run(1, 7), [7]), (turns(0), [1, 0]),
                   (run(1, 1), [1]), (turns(0), [1, 1]), (deliver(), [1] + number(2)))
        self.assertEqual(steps_of(send(ME, num(2))), 5)

    def test_its_value_is_the_words(self):
        self.assertEqual(value_of(send(ME, num(2))), number(2))
        self.check((program(send(ME, two(send(ME, num(2)), num(3)))), [1]), (begin(), [1]), (run(), [14]),
                   (deliver(), [1] + number(2)), (deliver(), [1] + pair(number(2), number(3))))

    def test_sending_to_no_name(self):
        for other in (num(0), num(1), two(ME, ME)):
            self.assertEqual(raised_by(send(other, num(1))), number(WRONG))
            told = ask(program(send(other, num(1))), begin(), run(), turns(0))
            self.assertEqual(told[-1], [1, 0])

    def test_what_is_sent_is_worked_out_even_so(self):
        self.check((program(send(num(1), send(ME, num(5)))), [1]), (begin(), [1]), (run(), [10]), (turns(0), [1, 1]),
                   (deliver(), [1] + number(5)))
        self.assertEqual(raised_by(send(num(1), throw(num(5)))), number(5))

    def test_starting(self):
        self.check((program(start(1, num(4)), send(ME, two(ME, var(0)))), [2]), (begin(), [1]), (run(1, 2), [2]),
                   (turns(0), [1, 0]), (run(1, 1), [1]), (turns(0), [2, 0]), (run(1, 300), [1]), (run(2), [10]),
                   (deliver(2, 2), [1] + pair(name(1), number(4))))
        self.assertEqual(steps_of(start(1, num(4)), 0, (num(1),)), 3)

    def test_its_value_is_the_childs_name(self):
        self.assertEqual(value_of(two(start(1, num(1)), start(1, num(2))), 0, (num(1),)), pair(name(1), name(2)))

    def test_names_of_children_and_their_children(self):
        # Each says its name to itself and starts two, down to the fourth in a row.
        tree = let(send(ME, ME), when(var(1), [2, 0], num(0), two(start(0, less(var(1), num(1))),
                                                                start(0, less(var(1), num(1))))))
        rows = [program(tree), begin(0, 2)] + [run(i) for i in range(1, 8)] + [deliver(i, i) for i in range(1, 8)]
        told = ask(*rows)
        self.assertEqual(told[9:], [[1] + name(), [1] + name(1), [1] + name(2), [1] + name(1, 1), [1] + name(1, 2),
                                    [1] + name(2, 1), [1] + name(2, 2)])

    def test_a_long_name(self):
        chain = when(var(0), [2, 0], send(ME, ME), start(0, less(var(0), num(1))))
        self.check((program(chain), [1]), (begin(0, 19), [1]), (turns(30), [20, 0]))
        told = ask(program(chain), begin(0, 19), turns(20), run(20), deliver(20, 20))
        self.assertEqual(told[2:], [[20, 0], [0], [-5]])
        told = ask(program(chain), begin(0, 19), turns(19), run(20), deliver(20, 20))
        self.assertEqual(told[2:], [[20, 0], [9], [1] + name(*[1] * 19)])

    def test_a_childs_only_variable(self):
        self.check((program(let(num(3), start(1, var(0))), send(ME, catch(var(1), var(1)))), [2]), (begin(0, 9), [1]),
                   (run(), [7]), (run(2), [9]), (deliver(2, 2), [1] + number(3)))

    def test_starting_a_function_that_there_is_not(self):
        for f in (1, 9):
            self.assertEqual(raised_by(start(f, num(1))), number(WRONG))
            self.check((program(start(f, num(1))), [1]), (begin(), [1]), (run(), [4]), (turns(0), [1, 0]))

    def test_one_that_could_not_be_started_takes_no_name(self):
        written = let(catch(start(5, num(1)), num(0)), start(1, num(1)))
        self.assertEqual(value_of(written, 0, (num(1),)), name(1))

    def test_it_is_raised_when_its_value_has_come(self):
        self.check((program(start(5, send(ME, num(2)))), [1]), (begin(), [1]), (run(), [8]),
                   (deliver(), [1] + number(2)))


class RaisedAndCaught(Case):
    def test_raising(self):
        for value, told in ((num(3), number(3)), (ME, name()), (two(num(1), ME), pair(number(1), name()))):
            self.assertEqual(raised_by(throw(value)), told)
        # Begun, 3 is, it is raised; then the process has ended by it.
        self.check((program(throw(num(3))), [1]), (begin(), [1]), (run(1, 3), [3]), (run(1, 300), [1]))

    def test_what_is_raised_within(self):
        self.assertEqual(raised_by(throw(throw(num(3)))), number(3))

    def test_catching_nothing(self):
        self.assertEqual(value_of(catch(num(3), num(4))), number(3))
        self.assertEqual(steps_of(catch(num(3), num(4))), 3)

    def test_catching(self):
        self.assertEqual(value_of(catch(throw(num(3)), two(var(0), var(1))), 9), pair(number(3), number(9)))
        # Begun, begun, 3 is, it is raised, it is caught, its value.
        self.assertEqual(steps_of(catch(throw(num(3)), var(0))), 6)

    def test_variables_between_are_gone(self):
        caught = catch(let(num(5), let(num(6), throw(num(3)))), two(var(0), var(1)))
        self.assertEqual(value_of(caught, 9), pair(number(3), number(9)))
        self.assertEqual(raised_by(catch(let(num(5), throw(num(3))), var(2)), 9), number(WRONG))

    def test_through_several_things_to_be_done(self):
        for wrap in (lambda a: two(a, num(1)), lambda a: add(a, num(1)), lambda a: let(a, num(1)),
                     lambda a: when(a, ANY, num(1), num(1)), lambda a: call(0, a), lambda a: send(a, num(1)),
                     lambda a: start(0, a), watch, throw, say):
            written = throw(num(3))
            for count in range(5):
                # For each thing between: one step that begins it, one by which it goes.
                self.assertEqual(steps_of(catch(written, var(0))), 6 + 2 * count)
                self.assertEqual(value_of(catch(written, var(0))), number(3))
                self.check((program(written), [1]), (begin(), [1]), (run(), [4 + 2 * count]))
                written = wrap(written)

    def test_through_second_parts(self):
        for wrap in (lambda a: two(num(1), a), lambda a: add(num(1), a), lambda a: send(num(1), a)):
            written = throw(num(3))
            for count in range(5):
                # For each thing between: it is begun, its first is, that has come; and it goes.
                self.assertEqual(steps_of(catch(written, var(0))), 6 + 4 * count)
                written = wrap(written)

    def test_through_a_call(self):
        self.assertEqual(value_of(catch(two(num(1), call(1, num(3))), var(0)), 0, (throw(var(0)),)), number(3))

    def test_the_innermost_catches(self):
        written = catch(catch(throw(num(3)), two(num(1), var(0))), two(num(2), var(0)))
        self.assertEqual(value_of(written), pair(number(1), number(3)))

    def test_what_is_raised_by_catching_goes_on(self):
        written = catch(catch(throw(num(3)), throw(add(var(0), num(1)))), two(num(2), var(0)))
        self.assertEqual(value_of(written), pair(number(2), number(4)))

    def test_behind_its_value_nothing_is_caught(self):
        written = catch(two(catch(num(1), num(2)), throw(num(3))), two(num(4), var(0)))
        self.assertEqual(value_of(written), pair(number(4), number(3)))
        self.assertEqual(raised_by(let(catch(num(1), num(2)), throw(num(3)))), number(3))

    def test_101_is_caught_like_any_other(self):
        self.assertEqual(value_of(catch(add(ME, num(1)), var(0))), number(WRONG))
        self.assertEqual(value_of(catch(throw(num(WRONG)), var(0))), number(WRONG))

    def test_a_process_goes_on_behind_it(self):
        self.check((program(two(catch(throw(num(1)), num(2)), send(ME, num(3)))), [1]), (begin(), [1]), (run(), [15]),
                   (deliver(), [1] + number(3)))


class Said(Case):
    def test_saying(self):
        self.assertEqual(value_of(say(two(num(3), ME))), pair(number(3), name()))
        self.assertEqual(steps_of(say(num(3))), 3)


class Ends(Case):
    def test_at_its_end_it_does_no_step(self):
        self.check((program(num(3)), [1]), (begin(), [1]), (run(1, 1), [1]), (run(1, 1), [1]), (run(1, 1), [0]))

    def test_ended_by_what_was_raised_it_does_no_step(self):
        self.check((program(var(9)), [1]), (begin(), [1]), (run(1, 1), [1]), (run(1, 1), [1]), (run(1, 1), [0]))

    def test_steps_are_the_same_in_pieces(self):
        written = two(catch(two(num(1), throw(num(2))), add(var(0), num(5))), let(send(ME, num(1)), take_any()))
        whole = ask(program(written), begin(), run(), deliver(), run())
        self.assertEqual([whole[2], whole[4]], [[24], [4]])
        pieces = ask(*([program(written), begin()] + [run(1, 1)] * 24 + [run(1, 1), deliver()] + [run(1, 1)] * 5))
        self.assertEqual(pieces[2:], [[1]] * 24 + [[0], [1] + number(1)] + [[1]] * 4 + [[0]])


if __name__ == "__main__":
    unittest.main()
