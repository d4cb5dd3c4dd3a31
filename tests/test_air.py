"""The calls air and counts: the letters in the order in which they were sent, and how much there is."""

import unittest

from tests.helper import (ANY, AWAITS, HIGHEST, LOWEST, ME, Case, air, ask, begin, box, call, counts, deliver,
                          ends_with, highest, is_num, less, let, letter, lowest, minus, name, num, number, op, pair,
                          process, program, program_of, row, run, said, send, start, state, take, take_any, take_till,
                          throw, ticks, turns, two, var, watch, when)

BREEDS = call(0, start(0, num(1)))
MAILS = call(0, send(ME, var(0)))
FIRST, A, B = (), (1,), (2,)


def ended(who, value, how=0):
    return pair(name(*who), pair(number(how), value))


class Words(Case):
    def test_none(self):
        self.check((air(), row()), (begin(), [1]), (air(), row()), (run(), [2]), (air(), row()))

    def test_to_oneself(self):
        self.check((program(send(ME, num(5))), [1]), (begin(), [1]), (run(1, 4), [4]), (air(), row()), (run(1, 1), [1]),
                   (air(), row(letter(FIRST, FIRST, number(5)))), (run(), [1]),
                   (air(), row(letter(FIRST, FIRST, number(5)))), (deliver(), [1] + number(5)), (air(), row()))

    def test_values_of_each_kind(self):
        for written, told in ((num(1000000), number(1000000)), (minus(1), number(-1)), (lowest(), number(LOWEST)),
                              (highest(), number(HIGHEST)), (ME, name()), (start(1, num(0)), name(1)),
                              (two(two(num(1), ME), two(start(1, num(0)), num(2))),
                               pair(pair(number(1), name()), pair(name(1), number(2))))):
            self.assertEqual(ask(program(send(ME, written), num(0)), begin(), run(), air())[-1],
                             row(letter(FIRST, FIRST, told)))

    def test_a_watch(self):
        self.check((program(watch(start(1, num(0))), num(0)), [2]), (begin(), [1]), (run(), [6]),
                   (air(), row(letter(FIRST, A, None))), (deliver(1, 2), [0]), (air(), row()))

    def test_long_names(self):
        # Each starts the next and sends to its own starter; the last is nineteen long.
        chain = let(send(op(5, var(0), num(0)), num(3)), when(var(1), [4, 0, 2, 0], num(7), start(
            0, two(ME, less(op(6, var(1), num(0)), num(1))))))
        begins = start(0, two(ME, num(18)))
        told = ask(program(chain, begins), begin(1, 0), *[run(i) for i in range(1, 21)], air())[-1]
        names = [(1,) * length for length in range(20)]
        self.assertEqual(told, row(*[letter(names[i], names[i - 1], number(3)) for i in range(1, 20)]))


# The first process has two children, who each send or watch as they are told by the rest of the program.
def with_two(parent, child):
    return program(let(start(1, ME), let(start(1, ME), parent)), child)


class Order(Case):
    def test_from_several_to_several(self):
        parent = two(send(var(0), num(1)), two(watch(var(1)), two(send(var(1), num(2)), two(watch(var(0)),
                                                                                           send(ME, num(3))))))
        child = two(watch(var(0)), two(send(var(0), num(4)), send(ME, num(5))))
        of_parent = [letter(FIRST, B, number(1)), letter(FIRST, A, None), letter(FIRST, A, number(2)),
                     letter(FIRST, B, None), letter(FIRST, FIRST, number(3))]
        of_a = [letter(A, FIRST, None), letter(A, FIRST, number(4)), letter(A, A, number(5))]
        of_b = [letter(B, FIRST, None), letter(B, FIRST, number(4)), letter(B, B, number(5))]
        letters = {1: of_parent, 2: of_a, 3: of_b}
        for order in ((1, 2, 3), (1, 3, 2)):
            told = ask(with_two(parent, child), begin(), *[run(i) for i in order], air())[-1]
            self.assertEqual(told, row(*[one for i in order for one in letters[i]]))
        told = ask(with_two(parent, child), begin(), run(1, 11), run(3), run(2), run(1), air())[-1]
        self.assertEqual(told, row(*(of_b + of_a + of_parent)))

    def test_mixed_step_by_step(self):
        child = two(send(var(0), num(4)), watch(var(0)))
        told = ask(with_two(num(0), child), begin(), run(), run(2, 6), run(3), run(2), air())[-1]
        self.assertEqual(told, row(letter(A, FIRST, number(4)), letter(B, FIRST, number(4)), letter(B, FIRST, None),
                                   letter(A, FIRST, None)))

    def test_what_is_left_when_one_is_taken_from_the_midst(self):
        child = two(send(var(0), num(4)), two(watch(var(0)), send(ME, num(5))))
        a = [letter(A, FIRST, number(4)), letter(A, FIRST, None), letter(A, A, number(5))]
        b = [letter(B, FIRST, number(4)), letter(B, FIRST, None), letter(B, B, number(5))]
        self.check((with_two(take_any(), child), [2]), (begin(), [1]), (run(), [11]), (run(2), [20]), (run(3), [20]),
                   (air(), row(*(a + b))), (deliver(3, 1), [1] + number(4)), (air(), row(*(a + b[1:]))),
                   (deliver(2, 2), [1] + number(5)), (air(), row(*(a[:2] + b[1:]))), (deliver(3, 1), [0]),
                   (air(), row(*(a[:2] + b[2:]))), (deliver(2, 1), [1] + number(4)), (air(), row(a[1], b[2])),
                   (deliver(3, 1), [-5]), (air(), row(a[1], b[2])), (deliver(2, 1), [0]), (air(), row(b[2])),
                   (deliver(3, 3), [1] + number(5)), (air(), row()))

    def test_words_that_are_alike(self):
        self.check((program(two(send(ME, num(1)), two(send(ME, num(1)), send(ME, num(2))))), [1]), (begin(), [1]),
                   (run(), [22]), (air(), row(*[letter(FIRST, FIRST, number(n)) for n in (1, 1, 2)])),
                   (deliver(), [1] + number(1)), (air(), row(*[letter(FIRST, FIRST, number(n)) for n in (1, 2)])))


class Ends(Case):
    def watched(self, order, rest, last):
        """Two children watch the first process, their watches arrive in this order, then it goes on with the rest."""
        calls = [with_two(take_till(5, ANY, num(0), rest), watch(var(0))), begin(), run(), run(2), run(3)]
        told = ask(*calls, *[deliver(i, 1) for i in order], ticks(5), run(), air(), process())
        who = {2: A, 3: B}
        self.assertEqual(told[-2], row(*[letter(FIRST, who[i], last) for i in order]))
        self.assertEqual(told[-1][:5], [0, 0, 0, 2, 0])

    def test_each_who_watches_is_told_in_the_order_in_which_that_came(self):
        for order in ((2, 3), (3, 2)):
            self.watched(order, num(6), ended(FIRST, number(6)))
            self.watched(order, throw(two(num(6), ME)), ended(FIRST, pair(number(6), name()), 1))

    def test_one_who_watches_again_and_again(self):
        child = two(watch(var(0)), watch(var(0)))
        word = ended(FIRST, number(6))
        for order in ((2, 3, 2, 3), (3, 2, 2, 3), (2, 2, 3, 3)):
            told = ask(with_two(take_till(5, ANY, num(0), num(6)), child), begin(), run(), run(2), run(3),
                       *[deliver(i, 1) for i in order], ticks(5), run(), air())[-1]
            self.assertEqual(told, row(*[letter(FIRST, {2: A, 3: B}[i], word) for i in order]))

    def test_those_who_watch_and_itself(self):
        parent = let(watch(ME), take_till(5, ANY, num(0), num(6)))
        told = ask(with_two(parent, watch(var(0))), begin(), run(), run(2), run(3), deliver(3, 1), deliver(1, 1),
                   deliver(2, 1), ticks(5), run(), air())[-1]
        self.assertEqual(told, row(*[letter(FIRST, who, ended(FIRST, number(6))) for who in (B, FIRST, A)]))

    def test_behind_letters_that_it_sent_before(self):
        parent = let(send(var(0), num(8)), take_till(5, ANY, num(0), send(var(2), num(9))))
        told = ask(with_two(parent, watch(var(0))), begin(), run(), run(2), run(3), deliver(3, 1), deliver(2, 1),
                   ticks(5), run(), air())[-1]
        self.assertEqual(told, row(letter(FIRST, B, number(8)), letter(FIRST, A, number(9)),
                                   letter(FIRST, B, ended(FIRST, number(9))),
                                   letter(FIRST, A, ended(FIRST, number(9)))))

    def test_a_watch_that_comes_behind_the_end(self):
        for child, word in ((var(0), ended(A, number(4))), (throw(var(0)), ended(A, number(4), 1))):
            told = ask(program(watch(start(1, num(4))), child), begin(), run(), run(2), air(), deliver(1, 2), air(),
                       deliver(2, 1), air())
            self.assertEqual(told[4:], [row(letter(FIRST, A, None)), [0], row(letter(A, FIRST, word)), [1] + word,
                                        row()])

    def test_it_is_sent_back_behind_all_others(self):
        # The first process watches its child, which has ended, and sends itself words around that.
        parent = let(start(1, num(4)), two(watch(var(0)), two(send(ME, num(1)), send(ME, num(2)))))
        words = [letter(FIRST, FIRST, number(n)) for n in (1, 2)]
        self.check((program(parent, var(0)), [2]), (begin(), [1]), (run(1, 5), [5]), (run(2), [2]), (run(), [20]),
                   (air(), row(letter(FIRST, A, None), *words)), (deliver(1, 2), [0]),
                   (air(), row(*words, letter(A, FIRST, ended(A, number(4))))),
                   (process(2), state(ends_with(number(4)), who=A)))

    def test_oneself_behind_ones_end(self):
        word = ended(FIRST, name())
        self.check((program(watch(ME)), [1]), (begin(), [1]), (run(), [4]), (air(), row(letter(FIRST, FIRST, None))),
                   (deliver(), [0]), (air(), row(letter(FIRST, FIRST, word))), (deliver(), [1] + word), (air(), row()))


class Rounds(Case):
    def test_all_arrive(self):
        self.check((program(let(send(ME, num(1)), take(is_num(9), num(0), is_num(8), num(0)))), [1]), (begin(), [1]),
                   (turns(1), [1, 0]), (air(), row()), (box(), row(number(1))))

    def test_those_sent_by_arriving_stay(self):
        parent = let(start(1, num(4)), two(watch(var(0)), two(send(ME, num(1)), watch(var(0)))))
        word = letter(A, FIRST, ended(A, number(4)))
        self.check((program(parent, var(0)), [2]), (begin(), [1]), (run(1, 5), [5]), (run(2), [2]), (run(1, 15), [15]),
                   (air(), row(letter(FIRST, A, None), letter(FIRST, FIRST, number(1)), letter(FIRST, A, None))),
                   (turns(1), [2, 2]), (air(), row(word, word)), (turns(1), [2, 0]), (air(), row()))

    def test_those_sent_by_arriving_are_in_the_order_of_what_arrived(self):
        # The children have ended; the first process watches the second, the first, the second.
        parent = let(take_till(1, ANY, num(0), num(0)), two(watch(var(1)), two(watch(var(2)), watch(var(1)))))
        child = let(num(0), var(1))
        self.check((with_two(parent, child), [2]), (begin(), [1]), (run(), [12]), (run(2), [5]), (run(3), [5]),
                   (ticks(1), [1]), (run(), [19]), (air(), row(*[letter(FIRST, who, None) for who in (B, A, B)])),
                   (turns(1), [3, 3]),
                   (air(), row(*[letter(who, FIRST, ended(who, name())) for who in (B, A, B)])))

    def test_none_arrives_in_no_round(self):
        self.check((program(send(ME, num(1))), [1]), (begin(), [1]), (run(), [6]), (turns(0), [1, 1]),
                   (air(), row(letter(FIRST, FIRST, number(1)))))

    def test_a_refused_round(self):
        self.check((program(let(send(ME, num(1)), call(1, num(0))), call(1, start(1, num(0)))), [2]), (begin(), [1]),
                   (run(1, 6), [6]), (air(), row(letter(FIRST, FIRST, number(1)))), (turns(30), [-6]),
                   (air(), row(letter(FIRST, FIRST, number(1)))), (run(), [-6]),
                   (air(), row(letter(FIRST, FIRST, number(1)))))

    def test_two_hundred(self):
        runs = [(run(1, 280), [280])] * 5
        self.check((program(MAILS), [1]), (begin(0, 5), [1]), *runs,
                   (air(), row(*[letter(FIRST, FIRST, number(5))] * 200)), (counts(), [0, 1, 200]), (run(1, 6), [-6]),
                   (air(), row(*[letter(FIRST, FIRST, number(5))] * 200)))


class Counts(Case):
    def test_at_the_beginning(self):
        self.check((counts(), [0, 0, 0]))

    def test_behind_each_other_call(self):
        parent = let(start(1, ME), two(send(var(0), num(1)), take_any()))
        self.check((counts(), [0, 0, 0]), (ticks(4), [4]), (counts(), [4, 0, 0]), (program(parent, watch(var(0))), [2]),
                   (counts(), [0, 0, 0]), (begin(), [1]), (counts(), [0, 1, 0]), (run(1, 3), [3]),
                   (counts(), [0, 1, 0]), (run(1, 1), [1]), (counts(), [0, 2, 0]), (run(), [9]), (counts(), [0, 2, 1]),
                   (run(2), [4]), (counts(), [0, 2, 2]), (deliver(1, 2), [1] + number(1)), (counts(), [0, 2, 1]),
                   (ticks(7), [7]), (counts(), [7, 2, 1]), (turns(1), [2, 0]), (counts(), [7, 2, 0]),
                   (process(1), state(AWAITS, 1, 0, 1, 1)), (counts(), [7, 2, 0]), (box(1), [0]),
                   (counts(), [7, 2, 0]), (said(1), [0]), (counts(), [7, 2, 0]), (air(), [0]), (counts(), [7, 2, 0]),
                   (counts(), [7, 2, 0]), (program(num(0)), [1]), (counts(), [0, 0, 0]))

    def test_behind_each_refusal(self):
        behind = (counts(), [7, 1, 1])
        refused = [(program_of([]), [-1]), (program_of([0] * 301), [-1]), (begin(), [-8]), (run(1, 301), [-1]),
                   (run(2, 1), [-3]), (run(), [-6]), (deliver(1, 2), [-3]), (ticks(1001), [-1]), (turns(31), [-1]),
                   (turns(30), [-6]), (process(2), [-3]), (box(2), [-3]), (said(2), [-3])]
        rows = [(program(let(send(ME, num(1)), call(1, num(0))), call(1, start(1, num(0)))), [2]), (begin(), [1]),
                (ticks(7), [7]), (run(1, 6), [6]), behind]
        for one in refused:
            rows += [one, behind]
        self.check(*rows)
        self.check((ticks(3), [3]), (begin(1, 0), [-1]), (counts(), [3, 0, 0]), (begin(0, 1000001), [-1]),
                   (counts(), [3, 0, 0]), (begin(), [1]), (deliver(), [-5]), (counts(), [3, 1, 0]))

    def test_behind_program(self):
        self.check((program(send(ME, start(1, num(1))), num(0)), [2]), (begin(), [1]), (run(), [8]), (ticks(9), [9]),
                   (counts(), [9, 2, 1]), (program_of([16]), [-1]), (counts(), [9, 2, 1]), (program(num(1)), [1]),
                   (counts(), [0, 0, 0]), (air(), row()), (process(1), [-3]), (box(1), [-3]), (said(1), [-3]))

    def test_much_time(self):
        self.check(*[(ticks(1000), [1000 * place]) for place in range(1, 40)], (counts(), [39000, 0, 0]))

    def test_twenty_processes(self):
        self.check((program(BREEDS), [1]), (begin(), [1]), (run(1, 94), [94]), (counts(), [0, 20, 0]),
                   (run(1, 5), [-6]), (counts(), [0, 20, 0]))

    def test_those_that_have_ended_count(self):
        self.check((program(start(1, num(1)), throw(num(0))), [2]), (begin(), [1]), (turns(3), [2, 0]),
                   (counts(), [0, 2, 0]))


if __name__ == "__main__":
    unittest.main()
