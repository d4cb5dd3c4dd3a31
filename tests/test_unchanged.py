"""Behind each refusal all is as it was, as far as it can be seen; behind program all is new."""

import unittest

from tests.helper import (ANY, KEEP, ME, Case, add, air, ask, begin, box, call, counts, deliver, is_num, let, num,
                          process, program, program_of, questions, run, said, say, seen_behind, send, start, take,
                          take_till, ticks, turns, two, var, watch)

HIGH = 4294967295

# They go on without end: by the one there are too many processes, by the other, in time, too many letters.
BREEDS = call(2, start(2, num(1)))
MAILS = call(3, send(ME, send(ME, send(ME, var(0)))))


def family(then):
    """The first process says, sends and watches; behind its word it says again, starts a second child, goes on."""
    waits = take_till(9, is_num(2), let(say(var(0)), let(start(1, ME), let(send(var(0), num(6)), then))), num(0))
    sends = let(send(ME, num(5)), let(send(ME, num(2)), let(watch(var(3)), waits)))
    first = let(start(1, ME), let(say(say(num(1))), sends))
    child = let(watch(var(0)), let(send(var(1), two(say(ME), num(3))), take(KEEP, say(var(0)), ANY, num(0))))
    return program(first, child, BREEDS, MAILS)


# Both words and the child's watch have come; on their way are the child's word and the watch of the child.
def living(then):
    return [ticks(3), family(then), ticks(2), begin(0, 7), run(1), run(2), ticks(4), deliver(1, 1), deliver(2, 1),
            deliver(1, 1)]


MANY_LETTERS = [program(call(3, num(5)), num(0), BREEDS, MAILS), begin()] + [run()] * 3
# The first has a child that has ended, and many watches are on their way to it: each will be answered by a word.
MANY_WATCHES = [program(let(start(1, num(4)), call(2, var(0))), say(var(0)), call(2, watch(watch(watch(var(0)))))),
                begin(), run(1, 5), run(2), run(), run(), ticks(1)]

NO_PROGRAMS = [(program_of(numbers), -1) for numbers in ([], [0], [0, 1000001], [1, 21], [16], [0, HIGH], [0, 0] * 11,
                                                        [11] * 301, [15] * 20 + [0, 1])]
BEYOND = [(run(1, 301), -1), (run(0, HIGH), -1), (ticks(1001), -1), (ticks(HIGH), -1), (turns(31), -1),
          (turns(HIGH), -1)]
NOBODY = [(one, -3) for one in (run(0, 1), run(HIGH, 300), deliver(0, 1), deliver(1, 0), deliver(1, HIGH), process(0),
                                process(HIGH), box(0), box(HIGH), said(0), said(HIGH))]
ALWAYS = NO_PROGRAMS + BEYOND + NOBODY
EMPTY = [(begin(1, 0), -1), (begin(0, 1000001), -1), (begin(HIGH, HIGH), -1), (run(1, 1), -3), (deliver(1, 1), -3),
         (process(1), -3), (box(1), -3), (said(1), -3)]
BEGUN = [(begin(), -8), (begin(HIGH, 0), -8), (begin(0, HIGH), -8)]

WORLDS = [
    ([ticks(5)], ALWAYS + EMPTY),
    ([ticks(5), program(num(1), num(2)), ticks(6)], ALWAYS + EMPTY[1:] + [(begin(2, 0), -1)]),
    ([begin(0, 4)], ALWAYS + BEGUN + [(deliver(1, 1), -5), (run(2, 0), -3), (process(2), -3)]),
    (living(call(2, num(1))), ALWAYS + BEGUN + [
        (run(), -6), (turns(30), -6), (deliver(1, 1), -5), (deliver(2, 2), -5), (run(3, 1), -3), (deliver(3, 1), -3),
        (process(3), -3), (box(3), -3), (said(3), -3)]),
    (living(call(3, num(1))), ALWAYS + BEGUN + [(deliver(1, 1), -5), (deliver(2, 2), -5)]),
    (MANY_LETTERS, ALWAYS + BEGUN + [(run(), -6), (run(2, 1), -3)]),
    (MANY_WATCHES, ALWAYS + BEGUN + [(turns(1), -6), (run(), -6), (deliver(2, 1), -5)]),
]
LATER = [run(1, 3), turns(1), ticks(5), run(1, 7)]


class BehindRefusals(Case):
    def test_all_is_as_it_was(self):
        for calls, refused in WORLDS:
            before = seen_behind(*calls)
            for one, code in refused:
                self.assertEqual(ask(*calls, one)[-1], [code], one)
                self.assertEqual(seen_behind(*calls, one), before, one)

    def test_what_comes_later_is_the_same(self):
        for calls, refused in WORLDS:
            later = seen_behind(*calls, *LATER)
            for one, code in refused:
                self.assertEqual(seen_behind(*calls, one, *LATER), later, one)

    def test_many_refusals_one_behind_another(self):
        for calls, refused in WORLDS:
            some = [one for one, code in refused][-20:]
            self.assertEqual(seen_behind(*calls, *some), seen_behind(*calls))

    def test_the_worlds_are_worth_looking_at(self):
        seen = {}
        for calls, refused in WORLDS:
            for one, answer in seen_behind(*calls):
                seen.setdefault(one[0], []).append(answer)
        for kind in (7, 8, 9):
            self.assertGreater(max(answer[0] for answer in seen[kind]), 1)
        self.assertGreater(max(answer[0] for answer in seen[10]), 0)
        living_first = dict((tuple(one), answer) for one, answer in seen_behind(*WORLDS[3][0]))[6, 1]
        self.assertEqual(living_first, [0, 0, 2, 1, 1, 1])

    def test_a_refused_call_would_have_changed_all_that(self):
        # The same steps, but fewer: they say, take out of the box, send, and start.
        calls = WORLDS[3][0]
        before = dict((tuple(one), answer) for one, answer in seen_behind(*calls))
        behind = dict((tuple(one), answer) for one, answer in seen_behind(*calls, run(1, 30)))
        for one in ((6, 1), (7, 1), (8, 1), (9,), (10,)):
            self.assertNotEqual(before[one], behind[one])


class BehindQuestions(Case):
    def test_all_is_as_it_was(self):
        for calls, refused in WORLDS:
            before = seen_behind(*calls)
            for one, answer in before:
                self.assertEqual(ask(*calls, one, one)[-2:], [answer, answer])
            some = [one for one, answer in before][:20]
            self.assertEqual(seen_behind(*calls, *some), before)

    def test_what_comes_later_is_the_same(self):
        for calls, refused in WORLDS:
            later = ask(*calls, *LATER)[len(calls):]
            for one in (process(), box(), said(), air(), counts()):
                asked = ask(*calls, *[n for call_later in LATER for n in (one, call_later)])[len(calls):]
                self.assertEqual(asked[1::2], later)


class BehindProgram(Case):
    def test_all_is_new(self):
        for calls, refused in WORLDS:
            told = ask(*calls, program(num(1), num(2)), counts(), air(), *questions(2)[2:])
            self.assertEqual(told[len(calls):], [[2], [0, 0, 0], [0]] + [[-3]] * 6)

    def test_what_comes_later_is_as_if_it_were_the_first(self):
        again = [family(add(num(1), num(2))), begin(0, 3), run(1), run(2), turns(1), deliver(2, 1), ticks(9), run(1)]
        alone = seen_behind(*again)
        for calls, refused in WORLDS:
            self.assertEqual(seen_behind(*calls, *again), alone)


if __name__ == "__main__":
    unittest.main()
