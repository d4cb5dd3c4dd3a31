"""The interface: one list in, one list out; what is handed in stays as it is, and nothing is kept."""

import unittest

from boxturns.actors import answers
from tests.helper import ANY, KEEP, ME, call, let, num, say, send, start, take, two, var, watch

HIGH = 4294967295


class Unchanging(list):
    """A list that fails whoever tries to change it, for a while or for good."""

    def refuse(self, *given, **named):
        raise AssertionError("the list that was handed in is changed")

    append = extend = insert = pop = remove = clear = sort = reverse = refuse
    __setitem__ = __delitem__ = __iadd__ = __imul__ = refuse


SENDS = send(ME, two(num(1), ME))
BREEDS = call(0, start(0, num(1)))
TALKS = let(watch(start(1, ME)), take(KEEP, send(ME, say(var(0))), ANY, num(0)))
# Process, box and said of the first two, air, counts.
LOOKS = [6, 1, 7, 1, 8, 1, 6, 2, 7, 2, 8, 2, 9, 10]
LINES = (
    [0, len(SENDS)] + SENDS + [1, 0, 5, 2, 1, 300, 3, 1, 1, 3, 1, 1],
    [0, len(SENDS)] + SENDS + [1, 0, 5, 2, 1, 300] + LOOKS + [3, 1, 1] + LOOKS,
    [0, len(BREEDS)] + BREEDS + [1, 0, 5, 5, 30, 2, 1, 9, 5, 30, 5, 0] + LOOKS,
    [0, len(TALKS + SENDS)] + TALKS + SENDS + [1, 0, 0, 5, 1, 2, 1, 300, 2, 2, 300, 3, 1, 2, 3, 2, 1] + LOOKS +
    [5, 30, 4, 7] + LOOKS,
    [0, len(TALKS + SENDS)] + TALKS + SENDS + [1, 0, 0, 5, 1] + LOOKS + [5, 1] + LOOKS + [5, 1] + LOOKS,
    [0, 0], [0, 1, 0], [1, 0, 0], [1, 1, 0], [2, 1, 1], [3, 1, 1], [4, 1000], [4, 1001], [5, 30], [5, 31], [6, 1],
    [7, 1], [8, 1], [9], [10], LOOKS, [1, 0, 0] + LOOKS,
    [1, HIGH, HIGH, 2, HIGH, HIGH, 3, HIGH, HIGH, 4, HIGH, 5, HIGH, 6, HIGH, 7, HIGH, 8, HIGH, 9, 10],
)


class OneList(unittest.TestCase):
    def test_each_answer_has_its_count(self):
        told = answers(LINES[0])
        self.assertEqual(told, [1, 1, 1, 1, 1, 10, 6, 1, 2, 0, 1, 1, 0, 1, -5])

    def test_turns_answers_two_numbers(self):
        self.assertEqual(answers([5, 0]), [2, 0, 0])

    def test_a_single_call(self):
        for line, told in (([0, 0], [1, -1]), ([0, 2, 0, 7], [1, 1]), ([1, 0, 0], [1, 1]), ([2, 1, 1], [1, -3]),
                           ([3, 1, 1], [1, -3]), ([4, 9], [1, 9]), ([5, 30], [2, 0, 0]), ([5, 31], [1, -1]),
                           ([6, 1], [1, -3]), ([7, 1], [1, -3]), ([8, 1], [1, -3]), ([9], [1, 0]),
                           ([10], [3, 0, 0, 0])):
            self.assertEqual(answers(line), told)

    def test_refused_numbers(self):
        self.assertEqual(answers(LINES[-1]), [1, -1] * 2 + [1, -3] + [1, -1] * 2 + [1, -3] * 3 + [1, 0] + [3, 0, 0, 0])

    def test_air_and_counts_have_no_numbers_of_their_own(self):
        self.assertEqual(answers([9, 10, 9, 4, 10, 10, 9, 5, 9, 10, 9]),
                         [1, 0, 3, 0, 0, 0, 1, 0, 1, 10, 3, 10, 0, 0, 1, 0, 2, 0, 0, 3, 10, 0, 0, 1, 0])
        self.assertEqual(answers([9] * 40), [1, 0] * 40)
        self.assertEqual(answers([10] * 40), [3, 0, 0, 0] * 40)

    def test_each_looking_call_number_by_number(self):
        # Begun with 5, it has sent itself 1 and its name; the word is on its way, then lost.
        ended = [11, 0, 0, 0, 0, 0, 2, 2, 0, 1, 1, 0]
        self.assertEqual(answers(LINES[1]), [1, 1, 1, 1, 1, 10] + ended + [1, 0, 1, 0] + [1, -3] * 3 +
                         [9, 1, 0, 0, 1, 2, 0, 1, 1, 0, 3, 0, 1, 1] + [6, 1, 2, 0, 1, 1, 0] + ended + [1, 0, 1, 0] +
                         [1, -3] * 3 + [1, 0, 3, 0, 1, 0])

    def test_said_and_box_number_by_number(self):
        # It says 3 and its name and sends itself 4; then it awaits what doesn't come.
        written = let(say(num(3)), let(say(ME), let(send(ME, num(4)), take([2, 9], num(0), [2, 8], num(0)))))
        line = [0, len(written)] + written + [1, 0, 0, 2, 1, 300, 9, 5, 1, 7, 1, 8, 1, 6, 1]
        self.assertEqual(answers(line), [1, 1, 1, 1, 1, 18] + [6, 1, 0, 0, 1, 0, 4] + [2, 1, 0] + [3, 1, 0, 4] +
                         [5, 2, 0, 3, 1, 0] + [6, 0, 0, 1, 0, 0, 1])

    def test_forty_calls(self):
        self.assertEqual(answers([4, 1] * 40), [n for time in range(1, 41) for n in (1, time)])

    def test_a_program_within_other_calls(self):
        line = [4, 3, 0, 2, 0, 5, 4, 1, 0, 3, 0, 5, 5, 4, 1, 0, 4, 0, 5, 0, 6, 4, 1]
        self.assertEqual(answers(line), [1, 3, 1, 1, 1, 1, 1, -1, 1, 2, 1, 2, 1, 1])

    def test_a_program_of_many_numbers_that_look_like_calls(self):
        self.assertEqual(answers([0, 320] + [5] * 320 + [4, 1]), [1, -1, 1, 1])

    def test_forty_long_programs(self):
        line = ([0, 320] + [0] * 320) * 40
        self.assertEqual(len(line), 12880)
        self.assertEqual(answers(line), [1, -1] * 40)
        full = [0, 300] + ([15] * 3 + [2, 0, 1] * 8 + [15, 0, 1]) * 10
        self.assertEqual(answers(full * 40), [1, 10] * 40)

    def test_whole_numbers_alone(self):
        for line in LINES:
            told = answers(line)
            self.assertIs(type(told), list)
            for number in told:
                self.assertIs(type(number), int)


class Kept(unittest.TestCase):
    def test_the_list_is_the_same_behind_it(self):
        for line in LINES:
            before = list(line)
            answers(line)
            self.assertEqual(line, before)

    def test_the_list_is_not_changed_for_a_while_either(self):
        for line in LINES:
            self.assertEqual(answers(Unchanging(line)), answers(line))

    def test_a_second_time_it_answers_the_same(self):
        first = [answers(line) for line in LINES]
        self.assertEqual([answers(line) for line in LINES], first)
        self.assertEqual([answers(line) for line in reversed(LINES)], first[::-1])

    def test_what_it_answers_is_the_callers_own(self):
        told = answers(LINES[0])
        kept = list(told)
        told.append(7)
        told[0] = 9
        self.assertEqual(answers(LINES[0]), kept)

    def test_nothing_of_a_world_is_kept(self):
        answers([0, 2, 0, 5, 1, 0, 0, 4, 9])
        self.assertEqual(answers([4, 0, 5, 0, 1, 1, 0]), [1, 0, 2, 0, 0, 1, -1])
        answers(LINES[1])
        self.assertEqual(answers(LOOKS), [1, -3] * 6 + [1, 0, 3, 0, 0, 0])


if __name__ == "__main__":
    unittest.main()
