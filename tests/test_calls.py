"""Promise 2: run, deliver, ticks, turns: what they answer, what they refuse, which refusal is told first."""

import unittest

from tests.helper import (ANY, KEEP, ME, Case, ask, begin, call, deliver, is_num, let, name, num, number, pair, program,
                          run, send, start, take, take_any, take_till, ticks, turns, two, var, watch, when)

HIGH = 4294967295

# One letter in each 7 steps, by the sixth of them.
MAILER = call(0, send(ME, var(0)))
# One process in each 5 steps, by the fourth of them; each goes on likewise.
BREEDER = call(0, start(0, num(1)))


def letters_by(count):
    """Calls that bring so many letters of MAILER on their way, with nothing begun of the next one."""
    rows = [(program(MAILER), [1]), (begin(0, 5), [1])]
    left = 7 * count
    while left > 0:
        rows.append((run(1, min(left, 294)), [min(left, 294)]))
        left -= min(left, 294)
    return rows


class Run(Case):
    def test_so_many_steps_as_told(self):
        self.check((program(call(0, num(1))), [1]), (begin(), [1]), (run(1, 0), [0]), (run(1, 1), [1]),
                   (run(1, 7), [7]), (run(1, 299), [299]), (run(1, 300), [300]))

    def test_as_many_as_it_can(self):
        self.check((begin(), [1]), (run(1, 1), [1]), (run(1, 300), [1]), (run(1, 300), [0]), (run(1, 1), [0]),
                   (run(1, 0), [0]))

    def test_one_that_awaits(self):
        self.check((program(take_any()), [1]), (begin(), [1]), (run(1, 300), [1]), (run(1, 300), [0]))

    def test_only_that_one_goes_on(self):
        self.check((program(two(start(1, num(1)), start(1, num(2))), num(3)), [2]), (begin(), [1]), (run(), [10]),
                   (run(3, 1), [1]), (run(2, 300), [2]), (run(3, 300), [1]), (run(1, 300), [0]))

    def test_n_above_300(self):
        self.check((program(call(0, num(1))), [1]), (begin(), [1]), (run(1, 301), [-1]), (run(1, HIGH), [-1]),
                   (run(1, 300), [300]))

    def test_no_such_process(self):
        self.check((run(0, 1), [-3]), (run(1, 1), [-3]), (begin(), [1]), (run(0, 1), [-3]), (run(2, 1), [-3]),
                   (run(HIGH, 1), [-3]), (run(2, 0), [-3]), (run(1, 1), [1]))

    def test_n_is_told_first(self):
        self.check((run(1, 301), [-1]), (begin(), [1]), (run(2, 301), [-1]), (run(0, HIGH), [-1]),
                   (run(2, 300), [-3]))

    def test_a_refusal_leaves_all_as_it_was(self):
        self.check((program(send(ME, num(1))), [1]), (begin(), [1]), (run(1, 4), [4]), (run(1, 301), [-1]),
                   (run(2, 3), [-3]), (turns(0), [1, 0]), (run(1, 300), [2]), (turns(0), [1, 1]))

    def test_time_stays(self):
        self.check((begin(), [1]), (ticks(2), [2]), (run(), [2]), (turns(5), [1, 0]), (ticks(0), [2]))


class RunOverfull(Case):
    def test_200_letters_and_201(self):
        self.check(*(letters_by(200) + [(turns(0), [1, 200]), (run(1, 5), [5]), (run(1, 1), [-6]), (run(1, 300), [-6]),
                                        (turns(0), [1, 200]), (run(1, 0), [0]), (deliver(), [1] + number(5)),
                                        (turns(0), [1, 199]), (run(1, 1), [1]), (turns(0), [1, 200]),
                                        (run(1, 7), [-6]), (run(1, 6), [6])]))

    def test_behind_a_refusal_all_is_as_it_was(self):
        self.check(*(letters_by(190) + [(run(1, 78), [-6]), (turns(0), [1, 190]), (run(1, 75), [75]),
                                        (turns(0), [1, 200]), (run(1, 1), [-6]), (deliver(), [1] + number(5)),
                                        (run(1, 1), [1]), (turns(0), [1, 200])]))

    def test_by_one_that_ends_and_is_watched(self):
        # The child is watched 58 times by the first 30 rounds, and 60 times more by each 30 others.
        rows = [(program(let(start(1, num(0)), call(2, var(0))), take_till(5, is_num(1), num(0), num(0)),
                         call(2, watch(var(0)))), [3]), (begin(), [1])]
        rows += [(turns(30), [2, 0])] * 3
        just = rows + [(run(1, 107), [107])] + [(deliver(1, 2), [0])] * 22 + [(ticks(5), [5])]
        self.check(*(just + [(turns(0), [2, 0]), (run(2), [3]), (turns(0), [2, 200])]))
        beyond = rows + [(run(1, 112), [112])] + [(deliver(1, 2), [0])] * 23 + [(ticks(5), [5])]
        self.check(*(beyond + [(run(2), [-6]), (turns(0), [2, 0]), (run(2, 2), [2]), (run(2, 1), [-6]),
                               (turns(0), [2, 0]), (turns(1), [2, 2])]))

    def test_20_processes_and_21(self):
        self.check((program(BREEDER), [1]), (begin(), [1]), (run(1, 94), [94]), (turns(0), [20, 0]), (run(1, 5), [-6]),
                   (turns(0), [20, 0]), (run(1, 4), [4]), (run(1, 1), [-6]), (run(1, 300), [-6]), (run(1, 0), [0]),
                   (run(20, 3), [3]), (run(20, 1), [-6]), (turns(0), [20, 0]), (run(21, 1), [-3]))

    def test_far_beyond_20(self):
        self.check((program(BREEDER), [1]), (begin(), [1]), (run(1, 300), [-6]), (turns(0), [1, 0]), (run(1, 4), [4]),
                   (turns(0), [2, 0]), (run(1, 300), [-6]), (turns(0), [2, 0]))

    def test_names_are_given_anew_behind_a_refusal(self):
        breeder = call(0, send(ME, start(1, num(1))))
        self.check((program(breeder, num(1)), [2]), (begin(), [1]), (run(1, 300), [-6]), (run(1, 9), [9]),
                   (deliver(), [1] + name(1)), (run(1, 300), [-6]), (run(1, 9), [9]), (deliver(), [1] + name(2)),
                   (turns(0), [3, 0]))

    def test_a_process_that_could_not_be_is_another_then(self):
        # Process 3 would be the child of process 1 in what is refused, and is the child of process 2 then.
        breeder = call(0, let(start(0, num(1)), send(var(0), var(0))))
        rows = [(program(breeder), [1]), (begin(), [1]), (run(1, 5), [5]), (turns(0), [2, 0]), (run(1, 300), [-6]),
                (turns(0), [2, 0]), (run(2, 11), [11]), (turns(0), [3, 1]), (deliver(2, 3), [1] + name(1, 1))]
        self.check(*rows)


class Deliver(Case):
    def test_the_first_arrives(self):
        self.check((program(send(ME, send(ME, num(1)))), [1]), (begin(), [1]), (deliver(), [-5]), (run(), [10]),
                   (deliver(), [1] + number(1)), (deliver(), [1] + number(1)), (deliver(), [-5]))

    def test_that_one_is_watched(self):
        self.check((program(watch(ME)), [1]), (begin(), [1]), (run(1, 3), [3]), (turns(0), [1, 1]), (deliver(), [0]),
                   (turns(0), [1, 0]), (run(), [1]), (turns(0), [1, 1]),
                   (deliver(), [1] + pair(name(), pair(number(0), name()))))

    def test_no_such_process(self):
        self.check((deliver(0, 0), [-3]), (deliver(1, 1), [-3]), (begin(), [1]), (deliver(1, 2), [-3]),
                   (deliver(2, 1), [-3]), (deliver(0, 1), [-3]), (deliver(1, 0), [-3]), (deliver(HIGH, HIGH), [-3]),
                   (deliver(1, HIGH), [-3]), (deliver(1, 1), [-5]))

    def test_nothing_is_on_its_way_between_these(self):
        self.check((program(let(start(1, ME), send(var(0), num(1))), take_any()), [2]), (begin(), [1]), (run(), [11]),
                   (turns(0), [2, 1]), (deliver(2, 1), [-5]), (deliver(1, 1), [-5]), (deliver(2, 2), [-5]),
                   (deliver(1, 3), [-3]), (deliver(3, 1), [-3]), (turns(0), [2, 1]), (deliver(1, 2), [1] + number(1)),
                   (deliver(1, 2), [-5]))

    def test_order_of_one_sender_stays_and_others_may_overtake(self):
        # The first process sends 1, 2, 3 to its child and 4 to itself; the child sends 5 to itself.
        sends = let(start(1, num(0)), two(send(var(0), num(1)), two(send(var(0), num(2)),
                                                                    two(send(ME, num(4)), send(var(0), num(3))))))
        self.check((program(sends, send(ME, num(5))), [2]), (begin(), [1]), (run(), [35]), (run(2), [6]),
                   (turns(0), [2, 5]), (deliver(2, 2), [1] + number(5)), (deliver(1, 2), [1] + number(1)),
                   (deliver(1, 1), [1] + number(4)), (deliver(1, 2), [1] + number(2)), (turns(0), [2, 1]),
                   (deliver(1, 2), [1] + number(3)), (deliver(1, 2), [-5]), (turns(0), [2, 0]))

    def test_words_and_watches_keep_their_order(self):
        sends = let(start(1, num(0)), two(send(var(0), num(1)), two(watch(var(0)), send(var(0), num(2)))))
        self.check((program(sends, num(1)), [2]), (begin(), [1]), (run(), [25]), (deliver(1, 2), [1] + number(1)),
                   (deliver(1, 2), [0]), (deliver(1, 2), [1] + number(2)), (deliver(1, 2), [-5]))

    def test_a_refusal_leaves_all_as_it_was(self):
        self.check((program(send(ME, num(1))), [1]), (begin(), [1]), (run(), [6]), (deliver(1, 2), [-3]),
                   (turns(0), [1, 1]), (deliver(), [1] + number(1)), (deliver(), [-5]), (turns(0), [1, 0]))

    def test_it_answers_a_word_that_is_lost(self):
        self.check((program(send(ME, num(3))), [1]), (begin(), [1]), (run(), [6]), (deliver(), [1] + number(3)),
                   (turns(1), [1, 0]), (run(), [0]))


class Ticks(Case):
    def test_the_time(self):
        self.check((ticks(0), [0]), (ticks(1), [1]), (ticks(1000), [1001]), (ticks(999), [2000]), (ticks(0), [2000]))

    def test_n_above_1000(self):
        self.check((ticks(1001), [-1]), (ticks(3), [3]), (ticks(HIGH), [-1]), (ticks(1000), [1003]))

    def test_much_time(self):
        self.check(*[(ticks(1000), [1000 * place]) for place in range(1, 41)])


class Turns(Case):
    def test_without_processes(self):
        self.check((turns(0), [0, 0]), (turns(30), [0, 0]))

    def test_n_above_30(self):
        self.check((program(call(0, num(1))), [1]), (begin(), [1]), (turns(31), [-1]), (turns(HIGH), [-1]),
                   (turns(30), [1, 0]))

    def test_a_refusal_leaves_all_as_it_was(self):
        self.check((program(send(ME, num(1))), [1]), (begin(), [1]), (run(1, 5), [5]), (turns(0), [1, 1]),
                   (turns(31), [-1]), (turns(0), [1, 1]), (run(), [1]), (deliver(), [1] + number(1)))

    def test_just_ten_steps(self):
        for before in range(0, 12):
            # A number within so many that say takes twice so many steps and one; the end is one more.
            written = num(1)
            for level in range(before):
                written = [15] + written
            steps = 2 * before + 2
            left = max(0, steps - 10)
            self.check((program(written), [1]), (begin(), [1]), (turns(1), [1, 0]), (run(), [left]))

    def test_rounds_are_done_one_behind_another(self):
        written = num(1)
        for level in range(19):
            written = [15] + written
        for rounds in range(0, 6):
            self.check((program(written), [1]), (begin(), [1]), (turns(rounds), [1, 0]),
                       (run(), [max(0, 40 - 10 * rounds)]))

    def test_letters_arrive_at_the_rounds_end(self):
        # By the tenth step its own word is sent, and taken no earlier than in the next round.
        waits = let(send(ME, num(1)), take(KEEP, send(ME, two(num(2), var(0))), ANY, num(0)))
        self.check((program(waits), [1]), (begin(), [1]), (turns(1), [1, 0]), (run(1, 1), [1]), (run(1, 300), [10]),
                   (deliver(), [1] + pair(number(2), number(1))))

    def test_as_they_can(self):
        self.check((program(take_any()), [1]), (begin(), [1]), (turns(30), [1, 0]), (run(), [0]))

    def test_who_is_started_within_a_round_begins_with_the_next(self):
        self.check((program(start(1, num(1)), num(1)), [2]), (begin(), [1]), (turns(1), [2, 0]), (run(2), [2]))
        self.check((program(start(1, num(1)), num(1)), [2]), (begin(), [1]), (turns(2), [2, 0]), (run(2), [0]))

    def test_who_is_started_by_a_later_one_too(self):
        chain = when(var(0), is_num(0), num(7), start(0, [3, 1] + var(0) + num(1)))
        for rounds in range(0, 8):
            made = min(rounds + 1, 6)
            self.check((program(chain), [1]), (begin(0, 5), [1]), (turns(rounds), [made, 0]))

    def test_what_arriving_sends_stays_on_its_way(self):
        # The child has ended when the watch arrives: its answer is sent then, and arrives a round later.
        late = let(start(1, num(4)), let(num(1), let(num(1), watch(var(2)))))
        self.check((program(late, var(0)), [2]), (begin(), [1]), (turns(1), [2, 0]), (run(2), [2]), (run(1, 4), [4]),
                   (turns(0), [2, 1]), (turns(1), [2, 1]), (deliver(2, 1), [1] + ENDED_WITH_4))
        self.check((program(late, var(0)), [2]), (begin(), [1]), (turns(1), [2, 0]), (run(2), [2]), (run(1, 4), [4]),
                   (turns(2), [2, 0]))

    def test_they_arrive_in_the_order_in_which_they_were_sent(self):
        # Three processes send the first one a word each: in order 2, 3, 4, by the same round.
        parent = let(start(1, two(ME, num(2))), let(start(1, two(ME, num(3))), let(start(1, two(ME, num(4))), TELLS)))
        told = ask(program(parent, send([3, 5] + var(0) + num(0), [3, 6] + var(0) + num(0))), begin(), turns(12),
                   deliver(), deliver(), deliver())
        self.assertEqual(told[3:], [[-5], [-5], [-5]])
        calls = [program(parent, send([3, 5] + var(0) + num(0), [3, 6] + var(0) + num(0))), begin(), run(1, 300)]
        for order in ((2, 3, 4), (4, 3, 2), (3, 4, 2)):
            told = ask(*(calls + [run(i) for i in order] + [turns(1), run(), deliver()]))
            said = pair(number(order[0]), pair(number(order[1]), number(order[2])))
            self.assertEqual(told[-1], [1] + said)


ENDED_WITH_4 = pair(name(1), pair(number(0), number(4)))
TELLS = take(KEEP, take(KEEP, take(KEEP, send(ME, two(var(2), two(var(1), var(0)))), ANY, num(0)), ANY, num(0)), ANY,
             num(0))


class TurnsOverfull(Case):
    def test_processes_without_end(self):
        self.check((program(BREEDER), [1]), (begin(), [1]), (turns(30), [-6]), (turns(0), [1, 0]), (turns(1), [3, 0]),
                   (turns(30), [-6]), (turns(0), [3, 0]))

    def test_processes_without_end_and_much_faster(self):
        written = var(0)
        for level in range(4):
            written = start(0, written)
        self.check((program(call(0, written)), [1]), (begin(), [1]), (turns(30), [-6]), (turns(0), [1, 0]),
                   (turns(1), [5, 0]), (turns(2), [-6]), (turns(0), [5, 0]))

    def test_20_processes_and_21(self):
        chain = when(var(0), is_num(0), num(7), start(0, [3, 1] + var(0) + num(1)))
        self.check((program(chain), [1]), (begin(0, 19), [1]), (turns(19), [20, 0]), (turns(30), [20, 0]))
        self.check((program(chain), [1]), (begin(0, 19), [1]), (turns(30), [20, 0]))
        self.check((program(chain), [1]), (begin(0, 20), [1]), (turns(19), [20, 0]), (turns(1), [-6]),
                   (turns(0), [20, 0]), (run(20, 9), [9]), (run(20, 1), [-6]), (turns(30), [-6]))
        self.check((program(chain), [1]), (begin(0, 20), [1]), (turns(30), [-6]), (turns(0), [1, 0]))

    def test_more_than_200_on_their_way_for_a_while(self):
        # Between its steps and the arriving there are 201.
        self.check(*(letters_by(200) + [(turns(0), [1, 200]), (run(1, 6), [-6]), (turns(1), [1, 0]),
                                        (run(1, 4), [4])]))

    def test_letters_on_their_way_behind_it(self):
        # The child has ended: each watch that arrives is answered by a word, which stays on its way.
        watches = program(let(start(1, num(0)), call(2, var(0))), num(0), call(2, watch(var(0))))
        rows = [(watches, [3]), (begin(), [1]), (run(1, 8), [8]), (run(2), [2])]
        left = 5 * 199
        while left > 0:
            rows.append((run(1, min(left, 300)), [min(left, 300)]))
            left -= min(left, 300)
        rows.append((turns(0), [2, 199]))
        self.check(*(rows + [(run(1, 5), [5]), (turns(0), [2, 200]), (turns(1), [-6]), (turns(0), [2, 200]),
                             (turns(2), [2, 2]), (deliver(2, 1), [1] + pair(name(1), pair(number(0), number(0))))]))
        self.check(*(rows + [(turns(1), [-6]), (turns(0), [2, 199]), (deliver(1, 2), [0]), (turns(0), [2, 199]),
                             (turns(1), [2, 200])]))


if __name__ == "__main__":
    unittest.main()
