"""Letters: words and watches, those who end, and the order in which all that comes."""

import unittest

from tests.helper import (ANY, KEEP, ME, WRONG, Case, ask, begin, both, call, deliver, is_num, less, let, name, num,
                          number, op, pair, program, raised_by, run, send, start, steps_of, take, take_any, take_till,
                          throw, ticks, turns, two, var, watch, when)


def ended(who, value):
    return pair(who, pair(number(0), value))


def ended_by(who, value):
    return pair(who, pair(number(1), value))


class Watching(Case):
    def test_its_steps_and_its_value(self):
        self.check((program(send(ME, watch(ME))), [1]), (begin(), [1]), (run(), [8]), (deliver(), [0]),
                   (deliver(), [1] + name()))
        self.assertEqual(steps_of(watch(ME)), 3)
        self.check((program(watch(ME)), [1]), (begin(), [1]), (run(1, 2), [2]), (turns(0), [1, 0]), (run(1, 1), [1]),
                   (turns(0), [1, 1]))

    def test_what_is_no_name(self):
        for other in (num(0), num(1), two(ME, ME)):
            self.assertEqual(raised_by(watch(other)), number(WRONG))
            self.assertEqual(ask(program(watch(other)), begin(), run(), turns(0))[2:][-1], [1, 0])

    def test_one_that_goes_on(self):
        self.check((program(watch(start(1, num(4))), two(var(0), num(5))), [2]), (begin(), [1]), (run(), [6]),
                   (run(2, 1), [1]), (deliver(1, 2), [0]), (turns(0), [2, 0]), (run(2, 4), [4]), (turns(0), [2, 0]),
                   (run(2, 300), [1]), (turns(0), [2, 1]), (deliver(1, 2), [-5]),
                   (deliver(2, 1), [1] + ended(name(1), pair(number(4), number(5)))), (deliver(2, 1), [-5]))

    def test_one_that_awaits(self):
        self.check((program(watch(start(1, num(4))), take_till(3, ANY, num(0), var(0))), [2]), (begin(), [1]),
                   (run(), [6]), (run(2), [1]), (deliver(1, 2), [0]), (ticks(3), [3]), (run(2), [3]),
                   (deliver(2, 1), [1] + ended(name(1), number(4))))

    def test_one_that_ends_by_what_is_raised(self):
        for raised, told in ((throw(var(0)), number(4)), (var(7), number(WRONG)), (throw(ME), name(1)),
                             (throw(two(ME, num(3))), pair(name(1), number(3)))):
            self.check((program(watch(start(1, num(4))), raised), [2]), (begin(), [1]), (run(), [6]),
                       (deliver(1, 2), [0]), (turns(0), [2, 0]))
            told_then = ask(program(watch(start(1, num(4))), raised), begin(), run(), deliver(1, 2), run(2),
                            deliver(2, 1), deliver(2, 1))
            self.assertEqual(told_then[-2:], [[1] + ended_by(name(1), told), [-5]])

    def test_one_that_has_ended(self):
        self.check((program(watch(start(1, num(4))), var(0)), [2]), (begin(), [1]), (run(), [6]), (run(2), [2]),
                   (turns(0), [2, 1]), (deliver(2, 1), [-5]), (deliver(1, 2), [0]), (turns(0), [2, 1]),
                   (deliver(2, 1), [1] + ended(name(1), number(4))), (turns(0), [2, 0]))

    def test_one_that_has_ended_by_what_was_raised(self):
        self.check((program(watch(start(1, num(4))), throw(var(0))), [2]), (begin(), [1]), (run(), [6]), (run(2), [4]),
                   (deliver(1, 2), [0]), (deliver(2, 1), [1] + ended_by(name(1), number(4))), (turns(0), [2, 0]))

    def test_twice(self):
        twice = let(start(1, num(4)), two(watch(var(0)), watch(var(0))))
        word = [1] + ended(name(1), number(4))
        self.check((program(twice, var(0)), [2]), (begin(), [1]), (run(), [15]), (turns(0), [2, 2]),
                   (deliver(1, 2), [0]), (deliver(1, 2), [0]), (turns(0), [2, 0]), (run(2), [2]), (turns(0), [2, 2]),
                   (deliver(2, 1), word), (deliver(2, 1), word), (deliver(2, 1), [-5]))
        self.check((program(twice, var(0)), [2]), (begin(), [1]), (run(), [15]), (deliver(1, 2), [0]), (run(2), [2]),
                   (turns(0), [2, 2]), (deliver(2, 1), word), (deliver(2, 1), [-5]), (deliver(1, 2), [0]),
                   (deliver(2, 1), word), (turns(0), [2, 0]))

    def test_each_watch_is_told_once(self):
        self.check((program(watch(start(1, num(4))), var(0)), [2]), (begin(), [1]), (run(), [6]), (deliver(1, 2), [0]),
                   (run(2), [2]), (turns(0), [2, 1]), (turns(1), [2, 0]), (run(2), [0]), (turns(30), [2, 0]))

    def test_oneself(self):
        # It is told of its own end by a word that it loses.
        self.check((program(two(watch(ME), num(3))), [1]), (begin(), [1]), (run(1, 5), [5]), (deliver(), [0]),
                   (run(), [3]), (turns(0), [1, 1]), (deliver(), [1] + ended(name(), pair(name(), number(3)))),
                   (turns(0), [1, 0]), (turns(1), [1, 0]))

    def test_oneself_when_it_has_ended(self):
        self.check((program(two(watch(ME), num(3))), [1]), (begin(), [1]), (run(), [8]), (deliver(), [0]),
                   (turns(0), [1, 1]), (deliver(), [1] + ended(name(), pair(name(), number(3)))), (turns(0), [1, 0]))

    def test_it_is_a_word_like_others(self):
        # The parent takes the word out of its box by how it is made, and tells of it.
        asks = let(watch(start(1, num(4))), take(both(KEEP, both(is_num(1), KEEP)), num(0),
                                                 both([3, 0], both(is_num(0), KEEP)), send(ME, two(num(8), var(0)))))
        self.check((program(asks, var(0)), [2]), (begin(), [1]), (run(), [8]), (run(2), [2]), (deliver(1, 2), [0]),
                   (run(), [0]), (deliver(2, 1), [1] + ended(name(1), number(4))), (run(), [11]),
                   (deliver(), [1] + pair(number(8), number(4))))

    def test_each_who_watches_is_told(self):
        # The first process starts two who watch it, and ends with their names and 6.
        parent = two(start(1, ME), two(start(1, ME), take_till(5, ANY, num(0), num(6))))
        word = [1] + ended(name(), pair(name(1), pair(name(2), number(6))))
        for first, second in ((2, 3), (3, 2)):
            self.check((program(parent, watch(var(0))), [2]), (begin(), [1]), (run(), [11]), (run(2), [4]),
                       (run(3), [4]), (deliver(first, 1), [0]), (deliver(second, 1), [0]), (ticks(5), [5]),
                       (run(), [5]), (turns(0), [3, 2]), (deliver(1, second), word), (deliver(1, first), word),
                       (turns(0), [3, 0]))

    def test_only_who_watches_is_told(self):
        self.check((program(two(start(1, ME), start(2, ME)), watch(var(0)), num(0)), [3]), (begin(), [1]),
                   (run(1, 9), [9]), (run(2), [4]), (run(3), [2]), (deliver(2, 1), [0]), (run(1), [1]),
                   (turns(0), [3, 1]), (deliver(1, 3), [-5]),
                   (deliver(1, 2), [1] + ended(name(), pair(name(1), name(2)))))

    def test_a_word_ahead_of_the_end_comes_ahead(self):
        # The child sends its last word first, then its end is told: of one sender the order stays.
        asks = let(watch(start(1, ME)), num(0))
        self.check((program(asks, send(var(0), num(3))), [2]), (begin(), [1]), (run(), [9]), (deliver(1, 2), [0]),
                   (run(2), [6]), (turns(0), [2, 2]), (deliver(2, 1), [1] + number(3)),
                   (deliver(2, 1), [1] + ended(name(1), number(3))), (deliver(2, 1), [-5]))

    def test_watchers_that_have_ended(self):
        self.check((program(watch(start(1, num(4))), var(0)), [2]), (begin(), [1]), (run(), [6]), (deliver(1, 2), [0]),
                   (run(2), [2]), (deliver(2, 1), [1] + ended(name(1), number(4))), (turns(1), [2, 0]))


# It waits for time 5, then it sends on what it finds in its box: of whose end it was told first.
TWO_CHILDREN = let(watch(start(1, num(2))), let(watch(start(1, num(3))), take_till(
    1000, is_num(999), num(0), take(KEEP, take(KEEP, send(ME, two(var(1), var(0))), ANY, num(0)), ANY, num(0)))))


class Order(Case):
    def test_what_came_first_is_first_in_the_box(self):
        rows = [program(TWO_CHILDREN, var(0)), begin(), run(), deliver(1, 2), deliver(1, 3)]
        words = {2: ended(name(1), number(2)), 3: ended(name(2), number(3))}
        for ends, arrives in (((2, 3), (2, 3)), ((2, 3), (3, 2)), ((3, 2), (2, 3)), ((3, 2), (3, 2))):
            calls = rows + [run(i) for i in ends] + [deliver(i, 1) for i in arrives]
            told = ask(*(calls + [ticks(1000), run(), deliver()]))
            self.assertEqual(told[-1], [1] + pair(words[arrives[0]], words[arrives[1]]))

    def test_by_turns_what_was_sent_first_comes_first(self):
        words = {2: ended(name(1), number(2)), 3: ended(name(2), number(3))}
        for ends in ((2, 3), (3, 2)):
            told = ask(program(TWO_CHILDREN, var(0)), begin(), run(), deliver(1, 2), deliver(1, 3), run(ends[0]),
                       run(ends[1]), turns(1), ticks(1000), run(), deliver())
            self.assertEqual(told[-1], [1] + pair(words[ends[0]], words[ends[1]]))

    def test_what_it_is_depends_on_the_order_of_letters_alone(self):
        # Steps are dealt out otherwise, letters come in the same order: the same comes about.
        parent = let(start(1, two(ME, num(2))), let(start(1, two(ME, num(3))), take(
            KEEP, take(KEEP, send(ME, two(var(1), var(0))), ANY, num(0)), ANY, num(0))))
        child = send(op(5, var(0), num(0)), op(6, var(0), num(0)))
        told = {}
        for way, calls in (("one", [run(1), run(2), run(3), deliver(3, 1), deliver(2, 1), run(1), deliver()]),
                           ("other", [run(1, 13), run(2), run(1), run(3, 4), run(1), run(3), deliver(3, 1), run(1),
                                      deliver(2, 1), run(1), deliver()]),
                           ("third", [run(1, 26)] + [run(2, 1), run(3, 2)] * 14 + [deliver(3, 1), deliver(2, 1),
                                                                                   run(1), deliver()])):
            told[way] = ask(*([program(parent, child), begin()] + calls))[-1]
        self.assertEqual(told["one"], [1] + pair(number(3), number(2)))
        self.assertEqual(told["other"], told["one"])
        self.assertEqual(told["third"], told["one"])

    def test_letters_from_one_to_another_in_their_order(self):
        counts = when(var(0), both(KEEP, is_num(0)), num(0), when(var(0), both(KEEP, KEEP), let(
            send(var(1), var(0)), call(2, two(var(2), less(var(1), num(1))))), num(0)))
        rows = [(program(let(start(1, num(0)), call(2, two(var(0), num(9)))), num(1), counts), [3]), (begin(), [1]),
                (run(), [12 + 9 * 30 + 4 + 1])]
        told = ask(*([row[0] for row in rows] + [turns(0)] + [deliver(1, 2)] * 10))
        self.assertEqual(told[3:], [[2, 9]] + [[1] + number(n) for n in range(9, 0, -1)] + [[-5]])


class Ending(Case):
    def test_one_that_has_ended_loses_words(self):
        self.check((program(let(start(1, num(0)), send(var(0), num(1))), num(3)), [2]), (begin(), [1]), (run(2), [-3]),
                   (run(), [11]), (run(2), [2]), (deliver(1, 2), [1] + number(1)), (run(2), [0]), (turns(1), [2, 0]))

    def test_words_do_not_wake_it(self):
        self.check((program(let(start(1, num(0)), two(send(var(0), num(1)), send(var(0), num(1)))), num(3)), [2]),
                   (begin(), [1]), (run(), [19]), (turns(1), [2, 0]), (run(2), [0]))

    def test_its_end_is_told_as_it_was(self):
        # Watched long after its end, it tells the same.
        late = let(start(1, num(4)), call(2, two(var(0), num(3))))
        again = when(var(0), both(KEEP, is_num(0)), num(0), when(var(0), both(KEEP, KEEP), let(
            watch(var(1)), call(2, two(var(2), less(var(1), num(1))))), num(0)))
        told = ask(program(late, var(0), again), begin(), run(1, 6), run(2), run(), deliver(1, 2), deliver(1, 2),
                   deliver(1, 2), deliver(2, 1), deliver(2, 1), deliver(2, 1), deliver(2, 1))
        word = [1] + ended(name(1), number(4))
        self.assertEqual(told[5:], [[0], [0], [0], word, word, word, [-5]])

    def test_a_childs_end_does_not_end_its_parent(self):
        self.check((program(let(start(1, num(0)), take_any()), throw(num(3))), [2]), (begin(), [1]), (run(), [6]),
                   (run(2), [4]), (run(), [0]), (turns(3), [2, 0]))

    def test_a_parents_end_does_not_end_its_child(self):
        self.check((program(start(1, num(0)), call(1, num(1))), [2]), (begin(), [1]), (run(), [4]), (run(2), [300]))


if __name__ == "__main__":
    unittest.main()
