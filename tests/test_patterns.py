"""Patterns: what is like each, what is kept, in which order."""

import unittest

from tests.helper import (ANY, KEEP, ME, Case, both, is_num, is_var, let, lowest, minus, name, num, number, pair,
                          start, two, value_of, var, when)

YES = number(1)
NO = number(0)


def like(value, pattern, n=0):
    return value_of(when(value, pattern, num(1), num(0)), n)


class Like(Case):
    def test_any(self):
        for value in (num(0), num(5), minus(1), ME, two(num(1), num(2))):
            self.assertEqual(like(value, ANY), YES)
            self.assertEqual(like(value, KEEP), YES)

    def test_a_number(self):
        for n in (0, 1, 1000000):
            self.assertEqual(like(num(n), is_num(n)), YES)
            self.assertEqual(like(minus(n), is_num(n)), YES if n == 0 else NO)
        for value in (num(1), num(6), minus(5), ME, two(num(5), num(5)), lowest()):
            self.assertEqual(like(value, is_num(5)), NO)
        self.assertEqual(like(ME, is_num(0)), NO)

    def test_a_variable(self):
        for value in (num(5), ME, two(num(5), ME)):
            self.assertEqual(value_of(let(value, when(value, is_var(0), num(1), num(0)))), YES)
        for value in (num(6), ME, two(num(5), num(5))):
            self.assertEqual(like(value, is_var(0), 5), NO)
        self.assertEqual(value_of(let(num(5), when(num(8), is_var(1), num(1), num(0))), 8), YES)
        self.assertEqual(value_of(let(num(5), when(num(8), is_var(0), num(1), num(0))), 8), NO)

    def test_a_name_by_a_variable(self):
        asked = let(start(1, num(0)), let(start(1, num(0)), two(when(var(1), is_var(0), num(1), num(0)),
                                                               when(var(1), is_var(1), num(1), num(0)))))
        self.assertEqual(value_of(asked, 0, (num(0),)), pair(NO, YES))

    def test_a_variable_that_there_is_not(self):
        for i in (1, 2, 20):
            for value in (num(0), num(101), ME, two(num(1), num(2))):
                self.assertEqual(like(value, is_var(i), 101), NO)
        self.assertEqual(like(two(num(1), num(1)), both(ANY, is_var(1)), 1), NO)

    def test_two(self):
        self.assertEqual(like(two(num(1), num(2)), both(ANY, ANY)), YES)
        self.assertEqual(like(two(num(1), num(2)), both(is_num(1), is_num(2))), YES)
        self.assertEqual(like(two(num(1), num(2)), both(is_num(2), is_num(1))), NO)
        self.assertEqual(like(two(num(1), num(2)), both(is_num(1), is_num(1))), NO)
        self.assertEqual(like(two(num(1), num(2)), both(is_num(2), is_num(2))), NO)
        for value in (num(1), ME):
            self.assertEqual(like(value, both(ANY, ANY)), NO)

    def test_two_within_two(self):
        left = two(two(num(1), num(2)), num(3))
        right = two(num(1), two(num(2), num(3)))
        for pattern, seen in ((both(both(ANY, ANY), ANY), (YES, NO)), (both(ANY, both(ANY, ANY)), (NO, YES)),
                              (both(both(is_num(1), is_num(2)), is_num(3)), (YES, NO)),
                              (both(is_num(1), both(is_num(2), is_num(3))), (NO, YES)),
                              (both(both(ANY, is_num(1)), ANY), (NO, NO)), (both(ANY, ANY), (YES, YES))):
            self.assertEqual((like(left, pattern), like(right, pattern)), seen)

    def test_five_deep(self):
        value = num(5)
        pattern = is_num(5)
        wrong = is_num(6)
        for level in range(4):
            value = two(num(level), value)
            pattern = both(is_num(level), pattern)
            wrong = both(is_num(level), wrong)
        self.assertEqual((like(value, pattern), like(value, wrong)), (YES, NO))


class Kept(Case):
    def kept(self, value, pattern, seen, n=0):
        return value_of(when(value, pattern, seen, num(0)), n)

    def test_any_keeps_nothing(self):
        self.assertEqual(self.kept(num(5), ANY, var(0), 9), number(9))
        self.assertEqual(self.kept(num(5), is_num(5), var(0), 9), number(9))
        self.assertEqual(self.kept(num(9), is_var(0), var(0), 9), number(9))

    def test_one(self):
        self.assertEqual(self.kept(two(num(5), ME), KEEP, two(var(0), var(1)), 9),
                         pair(pair(number(5), name()), number(9)))

    def test_the_first_is_kept_first(self):
        self.assertEqual(self.kept(two(num(5), num(6)), both(KEEP, KEEP), two(var(0), two(var(1), var(2))), 9),
                         pair(number(6), pair(number(5), number(9))))

    def test_from_the_left_to_the_right(self):
        value = two(two(num(1), num(2)), two(num(3), num(4)))
        every = two(two(var(0), var(1)), two(var(2), var(3)))
        self.assertEqual(self.kept(value, both(both(KEEP, KEEP), both(KEEP, KEEP)), every),
                         pair(pair(number(4), number(3)), pair(number(2), number(1))))
        self.assertEqual(self.kept(value, both(both(KEEP, ANY), KEEP), two(var(0), two(var(1), var(2))), 9),
                         pair(pair(number(3), number(4)), pair(number(1), number(9))))

    def test_kept_ones_are_variables_at_once(self):
        same = both(KEEP, is_var(0))
        self.assertEqual(like(two(num(5), num(5)), same, 6), YES)
        self.assertEqual(like(two(num(5), num(6)), same, 6), NO)
        self.assertEqual(like(two(two(num(1), ME), two(num(1), ME)), same), YES)
        self.assertEqual(like(two(two(num(1), ME), two(ME, num(1))), same), NO)

    def test_older_ones_are_one_further(self):
        self.assertEqual(like(two(num(5), num(6)), both(KEEP, is_var(1)), 6), YES)
        self.assertEqual(like(two(num(5), num(5)), both(KEEP, is_var(1)), 6), NO)
        self.assertEqual(like(two(num(5), num(6)), both(is_var(0), KEEP), 5), YES)
        self.assertEqual(like(two(num(5), num(6)), both(is_var(0), KEEP), 6), NO)

    def test_kept_within_the_first_of_two(self):
        pattern = both(both(KEEP, KEEP), both(is_var(1), is_var(0)))
        self.assertEqual(like(two(two(num(1), num(2)), two(num(1), num(2))), pattern), YES)
        self.assertEqual(like(two(two(num(1), num(2)), two(num(2), num(1))), pattern), NO)

    def test_variables_that_only_come_by_keeping(self):
        self.assertEqual(like(two(num(5), num(6)), both(is_var(1), KEEP), 5), NO)
        self.assertEqual(like(two(num(6), num(5)), both(KEEP, is_var(1)), 5), YES)
        self.assertEqual(like(two(num(6), num(5)), both(KEEP, is_var(2)), 5), NO)

    def test_what_is_not_like_it_keeps_nothing(self):
        written = when(two(num(5), num(6)), both(KEEP, is_num(7)), num(0), var(0))
        self.assertEqual(value_of(written, 9), number(9))

    def test_sixteen(self):
        twins = two(var(0), var(0))
        sixteen = let(twins, let(twins, let(twins, twins)))
        pattern = KEEP
        for level in range(4):
            pattern = both(pattern, pattern)
        self.assertEqual(value_of(when(sixteen, pattern, var(16), num(0)), 9), number(9))
        numbered = two(two(num(1), num(2)), two(num(3), num(4)))
        self.assertEqual(value_of(when(two(numbered, numbered), both(both(both(KEEP, KEEP), ANY), both(ANY, KEEP)),
                                       two(var(0), two(var(1), var(2))), num(0))),
                         pair(pair(number(3), number(4)), pair(number(2), number(1))))


if __name__ == "__main__":
    unittest.main()
