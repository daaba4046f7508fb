"""What is handed in and what is given back."""

import unittest

from helper import (above, ask, begins, common, ends, entry, faults, find, follow, join, key, letters, order, read,
                    rhymes, said, sections, starts)
from wordhouse.dictionary import answers

ONE_OF_EACH = (letters("a b/x ch", "-", 1) + read("= ch\n- x\n> like b\n> under a\n= b\n> see ch\n= a\n- y\n")
               + key("b-ch") + order("a", "b") + said() + entry(1) + find("ch") + starts("b") + ends("ch") + sections()
               + rhymes() + follow(1) + above(2, 1) + common(2, 1, 0, 1) + faults() + join("= a\n- z\n= ch\n- x\n")
               + said() + begins())


class AnswersTest(unittest.TestCase):
    def test_each_answer_has_its_count_before_it(self):
        self.assertEqual(answers([0]), [1, 0])
        self.assertEqual(answers([2, 2, 97, 98]), [7, 2, 97, 98, 0, 0, 0, 0])
        self.assertEqual(answers([3, 1, 97, 1, 98]), [2, 0, -1])
        self.assertEqual(answers([5, 6, 0, 0]), [1, 0, 1, -6, 1, 0])
        self.assertEqual(answers([4, 4, 61, 32, 97, 10, 5, 6, 0, 7, 1, 97, 8, 0]),
                         [1, 1, 5, 4, 61, 32, 97, 10, 5, 4, 61, 32, 97, 10, 2, 1, 0, 2, 1, 0])

    def test_the_calls_from_9_on(self):
        self.assertEqual(answers([9, 1, 97, 10, 11, 12, 0, 13, 0, 1, 14, 0, 1, 0, 1, 15, 16, 4, 61, 32, 97, 10]),
                         [1, 0, 1, 0, 1, 0, 1, -6, 1, -6, 1, -6, 1, 0, 1, 1])
        text = "= a\n- x\n> under b\n= b\n- y\n= c\n> see a\n> see c .1\n"
        self.assertEqual(answers(read(text) + [9, 1, 98, 10, 11, 12, 2, 13, 0, 1, 14, 0, 1, 1, 1, 15, 16, 0, 12, 2]),
                         [1, 3, 2, 1, 1, 7, 3, 97, 1, 98, 1, 99, 1, 4, 3, 0, 1, 2, 3, 0, 0, 1, 4, 1, 1, 1, 1,
                          5, 0, 1, 1, 1, 0, 5, 1, 1, 2, 0, 1, 1, 3, 3, 0, 0, 1])

    def test_refusals_are_their_number_alone_but_for_3(self):
        self.assertEqual(answers([2, 1, 0]), [1, -1])
        self.assertEqual(answers([6, 0]), [1, -6])
        self.assertEqual(answers([1, 0, 1, 97, 1, 97]), [1, -4])
        self.assertEqual(answers([1, 0, 0, 0]), [2, -3, 0])
        self.assertEqual(answers([4, 3, 61, 32, 97]), [3, -3, 1, 3])
        self.assertEqual(answers([9, 1, 0]), [1, -1])
        self.assertEqual(answers([16, 1, 0]), [1, -1])
        self.assertEqual(answers([16, 3, 61, 32, 97]), [3, -3, 1, 3])
        self.assertEqual(answers(read("= a\n- x\n= b\n> see b\n= c\n= d\n- x\n") + follow(1) + follow(2) + follow(9)
                                 + above(1, 1) + common(0, 1, 3, 1) + common(0, 1, 1, 1)),
                         [1, 4, 1, -4, 1, -5, 1, -6, 1, -6, 1, -5, 1, -6])
        self.assertEqual(answers(read("".join("= %d\n" % number for number in range(300))) + join("= x\n")),
                         [1, 300, 1, -7])

    def test_calls_go_on_behind_a_refusal(self):
        self.assertEqual(ask(key([0]), letters(""), read("x"), entry(5), key("a"), order([0], ""), order("", "")),
                         [[-1], [-3, 0], [-3, 1, 1], [-6], [1, 97, 0, 0], [-1], [0, 0]])

    def test_numbers_of_rows_are_not_calls(self):
        self.assertEqual(ask(key([5, 5, 1, 2]), find([1, 1]), said()), [[4, 5, 5, 1, 2] + [0] * 8, [0, 0], [0]])

    def test_what_is_handed_in_stays_as_it_was(self):
        handed_in = list(ONE_OF_EACH)
        answers(handed_in)
        self.assertEqual(handed_in, ONE_OF_EACH)

    def test_nothing_is_kept_from_one_time_to_the_next(self):
        fresh = answers(key("a-ch") + said() + starts(""))
        first = answers(list(ONE_OF_EACH[:-1]))
        self.assertEqual(answers(key("a-ch") + said() + starts("")), fresh)
        self.assertEqual(answers(list(ONE_OF_EACH[:-1])), first)

    def test_what_is_given_back_is_new_each_time(self):
        calls = read("= a\n") + said()
        answers(calls).clear()
        self.assertEqual(answers(calls), [1, 1, 5, 4, 61, 32, 97, 10])

    def test_a_hundred_calls(self):
        text = "".join("= %02d\n" % number + "- " + "x" * 192 + "\n" for number in range(100))
        given = ask(read(text), *[said() for _ in range(99)])
        self.assertEqual(given[0], [100])
        self.assertEqual({len(answer) for answer in given[1:]}, {20001})

    def test_begins_between_calls(self):
        self.assertEqual(ask(read("= a\n"), begins(), find("a"), read("= a\n"), find("a")),
                         [[1], [0], [0, 0], [1], [1, 0]])


if __name__ == "__main__":
    unittest.main()
