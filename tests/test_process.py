"""The call process: what it refuses, and what it tells of one that is worked through step by step."""

import unittest

from tests.helper import (ANY, AWAITS, GOES_ON, HIGHEST, KEEP, LOWEST, ME, WRONG, Case, add, alike, ask, begin, below,
                          both, call, catch, deliver, ends_by, ends_with, highest, is_num, less, let, lowest, minus,
                          name, num, number, op, pair, process, program, run, say, send, start, state, take, take_any,
                          take_till, throw, ticks, times, turns, two, var, watch, when)

HIGH = 4294967295
# One process in each 5 steps, by the fourth of them.
BREEDS = call(1, start(1, num(1)))


def end(value):
    return (0, ends_with(value))


def end_by(value):
    return (0, ends_by(value))


def goes(*things):
    """It goes on, with so many things to be done behind each step."""
    return [(todo, GOES_ON) for todo in things]


class Refused(Case):
    def test_there_are_none(self):
        self.check(*[(process(i), [-3]) for i in (0, 1, 2, 20, HIGH)])

    def test_the_last_and_one_beyond(self):
        self.check((program(start(1, num(1)), num(1)), [2]), (begin(), [1]), (process(1), state(GOES_ON)),
                   (process(2), [-3]), (run(), [4]), (process(1), state(ends_with(name(1)), children=1)),
                   (process(2), state(GOES_ON, who=(1,))), (process(3), [-3]), (process(0), [-3]),
                   (process(HIGH), [-3]))

    def test_the_twentieth(self):
        self.check((program(BREEDS, BREEDS), [2]), (begin(), [1]), (run(1, 94), [94]),
                   (process(20), state(GOES_ON, who=(19,))), (process(21), [-3]))

    def test_behind_program_there_are_none_again(self):
        self.check((begin(), [1]), (process(), state(GOES_ON)), (program(num(1)), [1]), (process(), [-3]))


class Walked(Case):
    def walk(self, written, expected, n=0, functions=()):
        """Expected is what it has to be done, and how it stands, behind begin and behind each step to its last."""
        rows = [(program(written, *functions), [1 + len(functions)]), (begin(0, n), [1])]
        for place, (todo, last) in enumerate(expected):
            if place > 0:
                rows.append((run(1, 1), [1]))
            rows.append((process(), state(last, todo)))
        self.check(*rows, (run(1, 1), [0]), rows[-1])


class Leaves(Walked):
    def test_a_number(self):
        self.walk(num(7), goes(0, 0) + [end(number(7))])

    def test_a_variable(self):
        self.walk(var(0), goes(0, 0) + [end(number(9))], n=9)

    def test_a_variable_that_there_is_not(self):
        self.walk(var(1), goes(0, 0) + [end_by(number(WRONG))])

    def test_ones_own_name(self):
        self.walk(ME, goes(0, 0) + [end(name())])


class OfTwoParts(Walked):
    def test_two(self):
        self.walk(two(num(1), num(2)), goes(0, 1, 1, 1, 1, 0) + [end(pair(number(1), number(2)))])

    def test_operations(self):
        for written, value in ((add(num(1), num(2)), 3), (less(num(1), num(2)), -1), (times(num(3), num(2)), 6),
                               (below(num(1), num(2)), 1), (alike(num(1), num(2)), 0)):
            self.walk(written, goes(0, 1, 1, 1, 1, 0) + [end(number(value))])

    def test_an_operation_within_its_second_part(self):
        self.walk(op(5, num(1), two(num(2), num(3))), goes(0, 1, 1, 1, 2, 2, 2, 2, 1, 0) + [end_by(number(WRONG))])

    def test_an_operation_within_its_first_part(self):
        self.walk(op(6, two(num(2), num(3)), num(1)), goes(0, 1, 2, 2, 2, 2, 1, 1, 1, 0) + [end(number(3))])

    def test_an_operation_on_what_is_not_such(self):
        self.walk(add(num(1), ME), goes(0, 1, 1, 1, 1, 0) + [end_by(number(WRONG))])

    def test_sent(self):
        self.walk(send(ME, num(2)), goes(0, 1, 1, 1, 1, 0) + [end(number(2))])

    def test_sent_to_what_is_no_name(self):
        self.walk(send(num(1), num(2)), goes(0, 1, 1, 1, 1, 0) + [end_by(number(WRONG))])


class OfOnePart(Walked):
    def test_a_new_variable(self):
        self.walk(let(num(4), var(0)), goes(0, 1, 1, 0, 0) + [end(number(4))])
        self.walk(let(two(num(4), num(5)), two(var(0), var(1))),
                  goes(0, 1, 2, 2, 2, 2, 1, 0, 1, 1, 1, 1, 0) + [end(pair(pair(number(4), number(5)), number(9)))], n=9)

    def test_a_pattern(self):
        self.walk(when(num(1), is_num(1), num(2), num(3)), goes(0, 1, 1, 0, 0) + [end(number(2))])
        self.walk(when(num(4), is_num(1), num(2), say(num(3))), goes(0, 1, 1, 0, 1, 1, 0) + [end(number(3))])

    def test_a_call(self):
        self.walk(call(1, num(4)), goes(0, 1, 1, 0, 0) + [end(number(4))], functions=[var(0)])
        self.walk(call(1, num(4)), goes(0, 1, 1, 0, 1, 1, 0) + [end(number(4))], functions=[say(var(0))])

    def test_a_function_that_there_is_not(self):
        self.walk(call(2, num(4)), goes(0, 1, 1, 0) + [end_by(number(WRONG))], functions=[var(0)])
        self.walk(start(2, num(4)), goes(0, 1, 1, 0) + [end_by(number(WRONG))], functions=[var(0)])

    def test_a_start(self):
        self.check((program(start(1, num(4)), var(0)), [2]), (begin(), [1]), (process(), state(GOES_ON)),
                   (run(1, 1), [1]), (process(), state(GOES_ON, 1)), (run(1, 1), [1]), (process(), state(GOES_ON, 1)),
                   (run(1, 1), [1]), (process(), state(GOES_ON, children=1)), (run(1, 1), [1]),
                   (process(), state(ends_with(name(1)), children=1)))

    def test_a_watch(self):
        self.walk(watch(ME), goes(0, 1, 1, 0) + [end(name())])
        self.walk(watch(num(1)), goes(0, 1, 1, 0) + [end_by(number(WRONG))])

    def test_said(self):
        self.walk(say(num(4)), goes(0, 1, 1, 0) + [end(number(4))])

    def test_raised(self):
        self.walk(throw(num(4)), goes(0, 1, 1, 0) + [end_by(number(4))])

    def test_caught_though_nothing_is_raised(self):
        self.walk(catch(num(4), num(5)), goes(0, 1, 1, 0) + [end(number(4))])

    def test_caught(self):
        self.walk(catch(throw(num(4)), two(var(0), var(1))),
                  goes(0, 1, 2, 2, 1, 0, 1, 1, 1, 1, 0) + [end(pair(number(4), number(9)))], n=9)
        self.walk(catch(var(7), var(0)), goes(0, 1, 1, 0, 0) + [end(number(WRONG))])


class RaisedThrough(Walked):
    DEEP = add(num(1), two(say(throw(num(4))), num(2)))

    def test_several_things(self):
        self.walk(self.DEEP, goes(0, 1, 1, 1, 2, 3, 4, 4, 3, 2, 1, 0) + [end_by(number(4))])

    def test_each_kind_of_thing(self):
        wrong = var(7)
        for written in (two(wrong, num(1)), add(wrong, num(1)), let(wrong, num(1)), when(wrong, ANY, num(1), num(1)),
                        call(0, wrong), send(wrong, num(1)), start(0, wrong), watch(wrong), throw(wrong), say(wrong)):
            self.walk(written, goes(0, 1, 1, 0) + [end_by(number(WRONG))])
        for written in (two(num(1), wrong), add(num(1), wrong), send(ME, wrong)):
            self.walk(written, goes(0, 1, 1, 1, 1, 0) + [end_by(number(WRONG))])

    def test_and_caught_behind_them(self):
        self.walk(catch(self.DEEP, var(0)), goes(0, 1, 2, 2, 2, 3, 4, 5, 5, 4, 3, 2, 1, 0, 0) + [end(number(4))])

    def test_and_caught_within_something(self):
        self.walk(say(catch(say(throw(num(4))), var(0))), goes(0, 1, 2, 3, 4, 4, 3, 2, 1, 1, 0) + [end(number(4))])

    def test_what_is_caught_is_not_caught_twice(self):
        self.walk(catch(throw(num(4)), throw(num(5))), goes(0, 1, 2, 2, 1, 0, 1, 1, 0) + [end_by(number(5))])

    def test_by_the_inner_one(self):
        self.walk(catch(catch(throw(num(4)), num(5)), num(6)),
                  goes(0, 1, 2, 3, 3, 2, 1, 1, 0) + [end(number(5))])

    def test_raised_by_a_function(self):
        self.walk(catch(say(call(1, num(4))), var(0)), goes(0, 1, 2, 3, 3, 2, 3, 3, 2, 1, 0, 0) + [end(number(4))],
                  functions=[throw(var(0))])


class Awaiting(Case):
    def test_it_awaits_when_it_is_begun(self):
        for written in (take_any(), take(is_num(1), num(1), is_num(2), num(2)), take_till(5, ANY, num(1), num(2))):
            self.check((program(written), [1]), (begin(), [1]), (process(), state(GOES_ON)), (run(1, 1), [1]),
                       (process(), state(AWAITS)), (run(1, 1), [0]), (process(), state(AWAITS)))

    def test_with_things_to_be_done(self):
        self.check((program(say(two(num(1), take_any()))), [1]), (begin(), [1]), (run(1, 4), [4]),
                   (process(), state(GOES_ON, 2)), (run(1, 1), [1]), (process(), state(AWAITS, 2)), (run(1, 1), [0]))

    def test_while_the_word_is_in_the_box(self):
        waits = let(send(ME, num(5)), say(take(is_num(5), var(0), is_num(6), num(0))))
        self.check((program(waits), [1]), (begin(), [1]), (run(1, 8), [8]), (process(), state(GOES_ON, 1)),
                   (run(1, 1), [1]), (process(), state(AWAITS, 1)), (deliver(), [1] + number(5)),
                   (process(), state(AWAITS, 1, 1)), (run(1, 1), [1]), (process(), state(GOES_ON, 1)),
                   (run(1, 1), [1]), (process(), state(GOES_ON, 1)), (run(1, 1), [1]), (process(), state(GOES_ON)),
                   (run(1, 1), [1]), (process(), state(ends_with(number(5)))))

    def test_while_the_word_was_there_before_it(self):
        waits = let(send(ME, num(5)), take(is_num(5), var(0), is_num(6), num(0)))
        self.check((program(waits), [1]), (begin(), [1]), (run(1, 6), [6]), (deliver(), [1] + number(5)),
                   (process(), state(GOES_ON, 1, 1)), (run(1, 1), [1]), (process(), state(GOES_ON, 0, 1)),
                   (run(1, 1), [1]), (process(), state(AWAITS, 0, 1)), (run(1, 1), [1]), (process(), state(GOES_ON)))

    def test_while_a_word_that_it_does_not_want_is_in_the_box(self):
        waits = let(send(ME, num(5)), take(is_num(7), num(0), is_num(6), num(0)))
        self.check((program(waits), [1]), (begin(), [1]), (run(), [8]), (deliver(), [1] + number(5)),
                   (process(), state(AWAITS, 0, 1)), (run(), [0]), (process(), state(AWAITS, 0, 1)))

    def test_while_the_time_has_come(self):
        self.check((program(say(take_till(5, ANY, num(1), num(2)))), [1]), (begin(), [1]), (run(1, 2), [2]),
                   (process(), state(AWAITS, 1)), (ticks(4), [4]), (run(1, 1), [0]), (process(), state(AWAITS, 1)),
                   (ticks(1), [5]), (process(), state(AWAITS, 1)), (run(1, 1), [1]), (process(), state(GOES_ON, 1)),
                   (run(1, 1), [1]), (process(), state(GOES_ON, 1)), (run(1, 1), [1]), (process(), state(GOES_ON)),
                   (run(1, 1), [1]), (process(), state(ends_with(number(2)))))

    def test_without_time_it_awaits_for_a_step(self):
        self.check((program(take_till(0, ANY, num(1), num(2))), [1]), (begin(), [1]), (run(1, 1), [1]),
                   (process(), state(AWAITS)), (run(1, 1), [1]), (process(), state(GOES_ON)), (run(1, 2), [2]),
                   (process(), state(ends_with(number(2)))))

    def test_one_behind_another(self):
        waits = let(send(ME, num(5)), let(send(ME, num(6)), take(KEEP, take(KEEP, two(var(1), var(0)), ANY, num(0)),
                                                                 ANY, num(0))))
        self.check((program(waits), [1]), (begin(), [1]), (run(), [15]), (deliver(), [1] + number(5)),
                   (deliver(), [1] + number(6)), (process(), state(AWAITS, 0, 2)), (run(1, 1), [1]),
                   (process(), state(GOES_ON, 0, 1)), (run(1, 1), [1]), (process(), state(AWAITS, 0, 1)),
                   (run(1, 1), [1]), (process(), state(GOES_ON)), (run(), [6]),
                   (process(), state(ends_with(pair(number(5), number(6))))))

    def test_what_is_raised_behind_a_word(self):
        waits = let(send(ME, num(5)), say(take(KEEP, throw(var(0)), ANY, num(0))))
        self.check((program(waits), [1]), (begin(), [1]), (run(), [9]), (deliver(), [1] + number(5)), (run(1, 1), [1]),
                   (process(), state(GOES_ON, 1)), (run(1, 1), [1]), (process(), state(GOES_ON, 2)), (run(1, 1), [1]),
                   (process(), state(GOES_ON, 2)), (run(1, 1), [1]), (process(), state(GOES_ON, 1)), (run(1, 1), [1]),
                   (process(), state(GOES_ON, 0)), (run(1, 1), [1]), (process(), state(ends_by(number(5)))))

    def test_by_turns(self):
        self.check((program(let(send(ME, num(5)), take_any())), [1]), (begin(), [1]), (turns(1), [1, 0]),
                   (process(), state(AWAITS, 0, 1)), (turns(1), [1, 0]), (process(), state(ends_with(number(5)))))


class Ended(Case):
    def test_it_stays_so(self):
        self.check((program(two(num(1), ME)), [1]), (begin(), [1]), (run(), [6]),
                   (process(), state(ends_with(pair(number(1), name())))), (run(), [0]), (turns(30), [1, 0]),
                   (ticks(1000), [1000]), (process(), state(ends_with(pair(number(1), name())))))

    def test_by_what_was_raised_it_stays_so(self):
        self.check((program(throw(two(num(1), ME))), [1]), (begin(), [1]), (run(), [8]),
                   (process(), state(ends_by(pair(number(1), name())))), (run(), [0]), (turns(30), [1, 0]),
                   (process(), state(ends_by(pair(number(1), name())))))

    def test_values_of_each_kind(self):
        for written, told in ((num(1000000), number(1000000)), (minus(1), number(-1)), (lowest(), number(LOWEST)),
                              (highest(), number(HIGHEST)), (ME, name()),
                              (two(two(num(1), ME), two(ME, minus(2))),
                               pair(pair(number(1), name()), pair(name(), number(-2))))):
            self.assertEqual(ask(program(written), begin(), run(), process())[-1], state(ends_with(told)))
            self.assertEqual(ask(program(throw(written)), begin(), run(), process())[-1], state(ends_by(told)))

    def test_names_of_others(self):
        child = two(ME, two(var(0), start(2, num(0))))
        self.check((program(start(1, ME), child, ME), [3]), (begin(), [1]), (run(), [4]), (run(2), [12]), (run(3), [2]),
                   (process(1), state(ends_with(name(1)), children=1)),
                   (process(2), state(ends_with(pair(name(1), pair(name(), name(1, 1)))), children=1, who=(1,))),
                   (process(3), state(ends_with(name(1, 1)), who=(1, 1))))

    def test_the_first_program_is_the_number_0(self):
        self.check((begin(0, 9), [1]), (run(), [2]), (process(), state(ends_with(number(0)))))


# Ten steps from one call to the next.
COUNTS_DOWN = when(var(0), is_num(0), num(7), call(0, less(var(0), num(1))))
OF_TEN_STEPS = [1, 1, 0, 1, 2, 2, 2, 2, 1, 0]


class Room(Case):
    def things(self, calls, steps):
        """How many things are to be done behind each of so many steps."""
        asked = []
        for step in range(steps):
            asked += [run(1, 1), process()]
        told = ask(*calls, *asked)[len(calls):]
        return [answer[1] for answer in told[1::2]]

    def test_a_loop_of_hundreds_of_calls(self):
        first = [program(COUNTS_DOWN), begin(0, 1000)]
        self.assertEqual(self.things(first, 10), OF_TEN_STEPS)
        for runs in (1, 5, 18):
            self.assertEqual(self.things(first + [run()] * runs, 10), OF_TEN_STEPS)
        self.check((first[0], [1]), (first[1], [1]), *[(run(), [300])] * 33, (run(), [105]),
                   (process(), state(ends_with(number(7)))))

    def test_two_that_call_one_another(self):
        first = [program(call(1, add(var(0), num(1))), call(0, var(0))), begin()]
        a_round = [1, 2, 2, 2, 2, 1, 0, 1, 1, 0]
        self.assertEqual(self.things(first, 10), a_round)
        self.assertEqual(self.things(first + [run()] * 15, 10), a_round)

    def test_a_loop_by_what_comes_last_in_something(self):
        loops = (let(num(1), call(0, var(0))), when(num(1), ANY, call(0, num(1)), num(0)),
                 when(num(1), is_num(2), num(0), call(0, num(1))), catch(throw(num(1)), call(0, var(0))),
                 take_till(0, ANY, num(0), call(0, num(1))))
        for written in loops:
            first = [program(written), begin()]
            for runs in (0, 10, 20):
                self.assertLessEqual(max(self.things(first + [run()] * runs, 8)), 2)

    def test_a_loop_by_words(self):
        loop = let(send(ME, num(1)), take(ANY, call(0, num(1)), ANY, num(0)))
        for rounds in (0, 1, 10, 30):
            self.assertLessEqual(max(self.things([program(loop), begin(), turns(rounds)], 10)), 2)

    def test_a_call_within_something(self):
        # Its own part is to be done behind the function; nothing of the call is.
        self.assertEqual(self.things([program(add(num(1), call(1, num(2))), say(var(0))), begin()], 11),
                         [1, 1, 1, 2, 2, 1, 2, 2, 1, 0, 0])

    def test_calls_within_something_are_more_the_longer_it_goes(self):
        for written, steps, more in ((say(call(0, num(1))), 4, 1), (catch(call(0, num(1)), num(0)), 4, 1),
                                     (add(num(1), call(0, num(1))), 6, 1), (let(call(0, num(1)), num(0)), 4, 1),
                                     (say(say(call(0, num(1)))), 5, 2)):
            for rounds in (1, 7, 50):
                self.check((program(written), [1]), (begin(), [1]), (run(1, steps * rounds), [steps * rounds]),
                           (process(), state(GOES_ON, more * rounds)))

    def test_many_things_are_worked_off_one_by_one(self):
        # It counts down within something a hundred times; each thing then goes by a step.
        down = when(var(0), is_num(0), num(7), add(num(1), call(0, less(var(0), num(1)))))
        rows = [(program(down), [1]), (begin(0, 100), [1])] + [(run(), [300])] * 4 + [(run(1, 100), [100])]
        self.check(*rows, (process(), state(GOES_ON, 100)), (run(1, 4), [4]), (process(), state(GOES_ON, 100)),
                   (run(1, 1), [1]), (process(), state(GOES_ON, 99)), (run(1, 98), [98]),
                   (process(), state(GOES_ON, 1)), (run(), [2]), (process(), state(ends_with(number(107)))))

    def test_many_things_go_one_by_one_when_something_is_raised(self):
        down = when(var(0), is_num(0), throw(num(7)), add(num(1), call(0, less(var(0), num(1)))))
        rows = [(program(down), [1]), (begin(0, 100), [1])] + [(run(), [300])] * 4 + [(run(1, 100), [100])]
        self.check(*rows, (process(), state(GOES_ON, 100)), (run(1, 6), [6]), (process(), state(GOES_ON, 100)),
                   (run(1, 1), [1]), (process(), state(GOES_ON, 99)), (run(1, 98), [98]),
                   (process(), state(GOES_ON, 1)), (run(), [2]), (process(), state(ends_by(number(7)))))


class Family(Case):
    TWO_AND_ONE = (two(start(1, num(1)), start(2, num(2))), start(2, num(3)), ME)

    def test_names_and_children(self):
        # Process 4 is the child of process 2: it was started last.
        self.check((program(*self.TWO_AND_ONE), [3]), (begin(), [1]), (process(), state(GOES_ON)), (run(1, 3), [3]),
                   (process(), state(GOES_ON, 2)), (run(1, 1), [1]), (process(), state(GOES_ON, 1, children=1)),
                   (process(2), state(GOES_ON, who=(1,))), (run(1, 4), [4]),
                   (process(), state(GOES_ON, 1, children=2)), (process(3), state(GOES_ON, who=(2,))), (run(), [2]),
                   (process(), state(ends_with(pair(name(1), name(2))), children=2)), (run(2, 3), [3]),
                   (process(2), state(GOES_ON, children=1, who=(1,))), (process(4), state(GOES_ON, who=(1, 1))),
                   (run(2), [1]), (process(2), state(ends_with(name(1, 1)), children=1, who=(1,))), (run(4), [2]),
                   (process(4), state(ends_with(name(1, 1)), who=(1, 1))), (process(5), [-3]))

    def test_the_order_of_starts_is_not_that_of_names(self):
        self.check((program(*self.TWO_AND_ONE), [3]), (begin(), [1]), (run(1, 4), [4]), (run(2), [4]), (run(1), [6]),
                   (process(3), state(GOES_ON, who=(1, 1))), (process(4), state(GOES_ON, who=(2,))))

    def test_a_long_name(self):
        chain = when(var(0), is_num(0), ME, start(0, less(var(0), num(1))))
        told = ask(program(chain), begin(0, 19), turns(30), process(1), process(2), process(20))
        self.assertEqual(told[2:], [[20, 0], state(ends_with(name(1)), children=1),
                                    state(ends_with(name(1, 1)), children=1, who=(1,)),
                                    state(ends_with(name(*[1] * 19)), who=(1,) * 19)])

    def test_behind_refused_calls_children_are_as_they_were(self):
        rows = [(program(let(start(2, num(1)), BREEDS), BREEDS, num(1)), [3]), (begin(), [1]), (run(1, 4), [4])]
        behind = (process(), state(GOES_ON, 1, children=1))
        self.check(*rows, behind, (run(), [-6]), behind, (turns(30), [-6]), behind, (run(1, 301), [-1]), behind,
                   (turns(31), [-1]), behind, (run(1, 6), [6]), (process(), state(GOES_ON, 0, children=2)),
                   (process(3), state(GOES_ON, who=(2,))), (process(4), [-3]))

    def test_a_child_that_could_not_be_started(self):
        self.check((program(catch(start(5, num(1)), start(1, num(2))), ME), [2]), (begin(), [1]), (run(1, 4), [4]),
                   (process(), state(GOES_ON, 1)), (run(), [5]),
                   (process(), state(ends_with(name(1)), children=1)))


class Watched(Case):
    def watched(self, *rows):
        """The first process has a child that awaits; rows come behind its watching it twice."""
        parent = let(start(1, num(4)), two(watch(var(0)), watch(var(0))))
        self.check((program(parent, take_till(3, ANY, num(0), var(0))), [2]), (begin(), [1]), (run(), [15]), *rows)

    def test_twice_by_the_same(self):
        self.watched((process(2), state(GOES_ON, who=(1,))), (deliver(1, 2), [0]),
                     (process(2), state(GOES_ON, watched=1, who=(1,))), (run(2), [1]),
                     (process(2), state(AWAITS, watched=1, who=(1,))), (deliver(1, 2), [0]),
                     (process(2), state(AWAITS, watched=2, who=(1,))), (ticks(3), [3]), (run(2, 2), [2]),
                     (process(2), state(GOES_ON, watched=2, who=(1,))), (run(2, 1), [1]),
                     (process(2), state(ends_with(number(4)), who=(1,))))

    def test_when_it_has_ended(self):
        self.watched((run(2), [1]), (ticks(3), [3]), (run(2), [3]), (process(2), state(ends_with(number(4)), who=(1,))),
                     (deliver(1, 2), [0]), (process(2), state(ends_with(number(4)), who=(1,))), (turns(1), [2, 1]),
                     (process(2), state(ends_with(number(4)), who=(1,))))

    def test_by_itself(self):
        self.check((program(two(watch(ME), two(watch(ME), num(3)))), [1]), (begin(), [1]), (run(1, 11), [11]),
                   (process(), state(GOES_ON, 2)), (deliver(), [0]), (process(), state(GOES_ON, 2, watched=1)),
                   (deliver(), [0]), (process(), state(GOES_ON, 2, watched=2)), (run(), [3]),
                   (process(), state(ends_with(pair(name(), pair(name(), number(3)))))))

    def test_by_several(self):
        parent = let(start(1, ME), let(start(1, ME), let(start(1, ME), take_any())))
        watches = let(watch(var(0)), send(var(1), num(5)))
        ended = state(ends_with(number(5)), children=3)
        self.check((program(parent, watches), [2]), (begin(), [1]), (run(), [16]), (run(2, 9), [9]), (run(3, 9), [9]),
                   (run(4, 9), [9]), (deliver(3, 1), [0]), (process(), state(AWAITS, 0, 0, 3, 1)), (deliver(2, 1), [0]),
                   (deliver(4, 1), [0]), (process(), state(AWAITS, 0, 0, 3, 3)), (run(2), [2]), (run(3), [2]),
                   (run(4), [2]), (deliver(2, 1), [1] + number(5)), (process(), state(AWAITS, 0, 1, 3, 3)),
                   (deliver(3, 1), [1] + number(5)), (process(), state(AWAITS, 0, 2, 3, 3)), (run(), [3]),
                   (process(), ended), (turns(0), [4, 4]), (turns(1), [4, 0]), (process(), ended))

    def test_one_that_watches_is_not_watched(self):
        self.watched((deliver(1, 2), [0]), (process(1), state(ends_with(pair(name(1), name(1))), children=1)))

    def test_a_refused_call_leaves_it(self):
        # Behind its watch it would start processes without end.
        self.check((program(let(watch(ME), BREEDS), BREEDS), [2]), (begin(), [1]), (run(1, 4), [4]), (run(), [-6]),
                   (turns(30), [-6]), (process(), state(GOES_ON, 1)), (deliver(), [0]), (run(), [-6]),
                   (turns(30), [-6]), (process(), state(GOES_ON, 1, watched=1)))

    def test_one_that_ends_by_what_is_raised(self):
        self.check((program(two(watch(ME), throw(num(3)))), [1]), (begin(), [1]), (run(1, 4), [4]), (deliver(), [0]),
                   (run(1, 4), [4]), (process(), state(GOES_ON, 1, watched=1)), (run(), [2]),
                   (process(), state(ends_by(number(3)))))


class Boxes(Case):
    def test_how_many_words(self):
        # Words come while it goes on, and are counted; none are behind its end.
        self.check((program(two(send(ME, num(1)), two(send(ME, num(2)), num(3)))), [1]), (begin(), [1]),
                   (run(1, 15), [15]), (process(), state(GOES_ON, 2)), (deliver(), [1] + number(1)),
                   (process(), state(GOES_ON, 2, 1)), (run(1, 1), [1]), (deliver(), [1] + number(2)),
                   (process(), state(GOES_ON, 1, 2)), (run(1, 1), [1]), (process(), state(GOES_ON, 0, 2)),
                   (run(1, 1), [1]),
                   (process(), state(ends_with(pair(number(1), pair(number(2), number(3)))))))

    def test_none_behind_an_end_by_what_is_raised(self):
        self.check((program(two(send(ME, num(1)), throw(num(3)))), [1]), (begin(), [1]), (run(1, 6), [6]),
                   (deliver(), [1] + number(1)), (process(), state(GOES_ON, 1, 1)), (run(1, 5), [5]),
                   (process(), state(GOES_ON, 0, 1)), (run(1, 1), [1]), (process(), state(ends_by(number(3)))))

    def test_a_word_that_is_not_wanted(self):
        self.check((program(let(send(ME, two(num(1), num(2))), take(both(KEEP, is_num(3)), num(0), is_num(1), num(0)))),
                    [1]), (begin(), [1]), (run(), [12]), (deliver(), [1] + pair(number(1), number(2))), (run(), [0]),
                   (process(), state(AWAITS, 0, 1)))


if __name__ == "__main__":
    unittest.main()
