"""begins, letters, key, order."""

import unittest

from helper import ask, begins, entry, find, key, last, letters, order, read, said, signs, starts


def many_forms(count):
    """So many different forms, a letter each."""
    return " ".join("%03d" % number for number in range(count))


class LettersTest(unittest.TestCase):
    def test_counts_the_letters(self):
        self.assertEqual(ask(letters("a b c")), [[3]])
        self.assertEqual(ask(letters("a,A/\u00e1 b ch,Ch")), [[3]])
        self.assertEqual(ask(letters("a")), [[1]])

    def test_fault_where_no_form_has_begun(self):
        for text, place in [("", 0), (" ", 0), ("/", 0), (",", 0), ("a ", 2), ("a/", 2), ("a,", 2), ("a  b", 2),
                            ("a /b", 2), ("a,/b", 2), ("a//b", 2), ("a,,b", 2), ("a/ b", 2), (" a", 0),
                            ("a b, c", 4)]:
            self.assertEqual(ask(letters(text)), [[-3, place]], text)

    def test_fault_within_a_form(self):
        self.assertEqual(ask(letters("abcd")), [[1]])
        self.assertEqual(ask(letters("abcde")), [[-3, 4]])
        self.assertEqual(ask(letters("x abcd/efgh,ijkl")), [[2]])
        self.assertEqual(ask(letters("x abcd/efghi")), [[-3, 11]])
        self.assertEqual(ask(letters("\n")), [[-3, 0]])
        self.assertEqual(ask(letters("a b\n")), [[-3, 3]])
        self.assertEqual(ask(letters("a abcd\n")), [[-3, 6]])
        self.assertEqual(ask(letters("a \nb")), [[-3, 2]])

    def test_fault_of_a_form_that_stands_before(self):
        for text, place in [("a a", 2), ("a/a", 2), ("a,a", 2), ("a b/ch c,ch d", 9), ("ab cd/ab", 6)]:
            self.assertEqual(ask(letters(text)), [[-3, place]], text)
        self.assertEqual(ask(letters("ab a b ba")), [[4]])

    def test_a_form_is_told_twice_only_where_it_ends(self):
        self.assertEqual(ask(letters("a a\n")), [[-3, 3]])
        self.assertEqual(ask(letters("abcd abcde")), [[-3, 9]])
        self.assertEqual(ask(letters("a a ,")), [[-3, 2]])

    def test_fault_of_the_401st_form(self):
        self.assertEqual(ask(letters(many_forms(400))), [[400]])
        self.assertEqual(ask(letters(many_forms(401))), [[-3, 1600]])
        self.assertEqual(ask(letters(many_forms(402))), [[-3, 1600]])
        self.assertEqual(ask(letters(many_forms(400).replace(" ", ","))), [[1]])
        self.assertEqual(ask(letters(many_forms(401).replace(" ", ","))), [[-3, 1600]])
        self.assertEqual(ask(letters(many_forms(401).replace(" ", "/"))), [[-3, 1600]])
        self.assertEqual(ask(letters(many_forms(400) + " ")), [[-3, 1600]])
        self.assertEqual(ask(letters(many_forms(400) + " abcde")), [[-3, 1604]])

    def test_signs_outside_the_bounds(self):
        self.assertEqual(ask(letters([1]), letters([65535]), letters("a", [1, 65535])), [[1], [1], [1]])
        for wrong in (0, 65536, 4294967295):
            self.assertEqual(ask(letters([97, 32, wrong])), [[-1]])
            self.assertEqual(ask(letters("a", [45, wrong])), [[-1]])

    def test_passed_sign_that_is_a_form(self):
        self.assertEqual(ask(letters("a b", "b")), [[-4]])
        self.assertEqual(ask(letters("a b/c,d", "xd")), [[-4]])
        self.assertEqual(ask(letters("a bc", "bc")), [[2]])
        self.assertEqual(ask(letters("a", " /,\n")), [[1]])
        self.assertEqual(ask(letters("a", "--")), [[1]])

    def test_the_first_refusal_told_counts(self):
        self.assertEqual(ask(letters([97, 32, 97, 0])), [[-1]])
        self.assertEqual(ask(letters("a a", [97, 0])), [[-1]])
        self.assertEqual(ask(letters("a a", "a")), [[-3, 2]])
        self.assertEqual(ask(letters("a", [97, 65536])), [[-1]])

    def test_a_long_text_and_many_passed_signs(self):
        self.assertEqual(ask(letters("a " * 10500)), [[-3, 2]])
        self.assertEqual(ask(letters("a", range(1000, 1300)), key([1000, 1299, 1300])), [[1], [1, 1301, 0, 0]])

    def test_a_refusal_changes_nothing(self):
        first = letters("b/B a ch", "-", 1)
        before = ask(first, key("ab-ch"), order("ab", "aB"))[1:]
        for wrong in (letters(""), letters([0]), letters("x", [0]), letters("x y", "y"), letters("x x")):
            self.assertEqual(ask(first, wrong, key("ab-ch"), order("ab", "aB"))[2:], before)

    def test_letters_told_anew_leave_nothing_of_the_old_ones(self):
        self.assertEqual(ask(letters("a/b ch", "-", 1), letters("c"), key("ach-c"))[2],
                         [5, 98, 0, 105, 46, 0] + [0] * 10)
        self.assertEqual(ask(letters("a/A", "", 1), letters("a/A", "", 0), order("aA", "Aa"))[2], [0, -1])


class KeyTest(unittest.TestCase):
    def test_without_letters_every_sign_is_foreign(self):
        self.assertEqual(ask(key("ab")), [[2, 97, 98, 0, 0, 0, 0]])
        self.assertEqual(ask(key([1, 65535])), [[2, 1, 65535, 0, 0, 0, 0]])

    def test_the_empty_word(self):
        self.assertEqual(ask(key("")), [[0]])
        self.assertEqual(last(letters("a", "-"), key("--")), [0])

    def test_ranks_variants_and_forms(self):
        told = letters("a,A/x,X,y b c/C")
        self.assertEqual(last(told, key("yAC")), [3, 0, 0, 2, 1, 0, 1, 2, 1, 0])
        self.assertEqual(last(told, key("aXb")), [3, 0, 0, 1, 0, 1, 0, 0, 1, 0])

    def test_the_longest_form_that_stands_there(self):
        told = letters("a ab abcd c")
        self.assertEqual(last(told, key("abcd")), [1, 2, 0, 0])
        self.assertEqual(last(told, key("abc")), [2, 1, 3, 0, 0, 0, 0])
        self.assertEqual(last(told, key("aabcdc")), [3, 0, 2, 3, 0, 0, 0, 0, 0, 0])
        self.assertEqual(last(letters("ab bcd a"), key("abcd")), [3, 0, 102, 103, 0, 0, 0, 0, 0, 0])
        self.assertEqual(last(letters("aaa aa"), key("aaaaaa" + "a")), [3, 0, 0, 99, 0, 0, 0, 0, 0, 0])

    def test_foreign_signs_stand_behind_all_letters(self):
        self.assertEqual(last(letters("a/b,c d"), key([1, 97, 65535, 100])),
                         [4, 3, 0, 65537, 1, 0, 0, 0, 0, 0, 0, 0, 0])

    def test_signs_that_are_passed_over(self):
        self.assertEqual(last(letters("a b", "-'"), key("-a'-b-")), [2, 0, 1, 0, 0, 0, 0])

    def test_a_form_goes_before_a_sign_that_is_passed_over(self):
        told = letters("a a-b", "-")
        self.assertEqual(last(told, key("a-b")), [1, 1, 0, 0])
        self.assertEqual(last(told, key("a-a")), [2, 0, 0, 0, 0, 0, 0])
        self.assertEqual(last(letters("-b b", "-"), key("--b")), [1, 0, 0, 0])

    def test_a_passed_sign_parts_a_form(self):
        self.assertEqual(last(letters("c h ch", "-"), key("c-hch")), [3, 0, 1, 2, 0, 0, 0, 0, 0, 0])

    def test_blank_and_line_end_may_stand_in_a_word(self):
        self.assertEqual(last(letters("a"), key("a \n")), [3, 0, 33, 11, 0, 0, 0, 0, 0, 0])

    def test_refusals(self):
        self.assertEqual(last(key("a" * 200))[0], 200)
        self.assertEqual(last(letters("a", "-"), key("-" * 200)), [0])
        self.assertEqual(last(letters("a", "-"), key("-" * 201)), [-1])
        self.assertEqual(last(key("a" * 201)), [-1])
        self.assertEqual(last(key("a" * 300)), [-1])
        for wrong in (0, 65536, 4294967295):
            self.assertEqual(last(key([97, wrong])), [-1])


class OrderTest(unittest.TestCase):
    def compare(self, told, first, second, expected):
        self.assertEqual(last(told, order(first, second)), [0, expected], (first, second))
        self.assertEqual(last(told, order(second, first)), [0, -expected], (second, first))

    def test_ranks_first(self):
        self.compare(letters("b a"), "b", "a", -1)
        self.compare(letters("a/A b"), "Aa", "ab", -1)
        self.compare(letters("c h ch i"), "cz", "ch", -1)
        self.compare(letters("c h ch i"), "hh", "ch", -1)
        self.compare(letters("c h ch i"), "i", "ch", 1)

    def test_a_row_that_another_begins_with_is_before_it(self):
        self.compare(letters("a b"), "a", "ab", -1)
        self.compare(letters("a b"), "", "a", -1)
        self.compare(letters("a b"), "ab", "b", -1)

    def test_letters_before_foreign_signs(self):
        self.compare(letters("z y"), "y", [1], -1)
        self.compare(begins(), [1], [65535], -1)

    def test_variants_next(self):
        told = letters("c o/\u00f4 t e/\u00e9")
        self.compare(told, "cote", "cot\u00e9", -1)
        self.compare(told, "cot\u00e9", "c\u00f4te", -1)
        self.compare(told, "c\u00f4te", "c\u00f4t\u00e9", -1)

    def test_variants_from_the_end(self):
        told = letters("c o/\u00f4 t e/\u00e9", "", 1)
        self.compare(told, "cote", "c\u00f4te", -1)
        self.compare(told, "c\u00f4te", "cot\u00e9", -1)
        self.compare(told, "cot\u00e9", "c\u00f4t\u00e9", -1)

    def test_ranks_and_forms_are_never_looked_at_from_the_end(self):
        self.compare(letters("a b", "", 1), "ab", "ba", -1)
        self.compare(letters("a,A", "", 1), "aA", "Aa", -1)
        self.compare(letters("a", "-'", 1), "a'-", "a-'", -1)

    def test_variants_before_forms(self):
        self.compare(letters("a,A/x,X"), "Aa", "ax", -1)

    def test_forms_next(self):
        self.compare(letters("b,a"), "b", "a", -1)
        self.compare(letters("a,A b,B"), "aB", "Ab", -1)
        self.compare(letters("b,a", "-"), "b-", "a", -1)

    def test_signs_last(self):
        self.compare(letters("a", "-'"), "a'", "a-", -1)
        self.compare(letters("a", "-"), "a", "a-", -1)
        self.compare(letters("a", "-"), "-a", "a", -1)
        self.compare(letters("a", "-"), "", "-", -1)

    def test_the_same_word(self):
        for word in ("", "a", "a-b"):
            self.compare(letters("a,A/x", "-"), word, word, 0)

    def test_refusals(self):
        long = "a" * 200
        self.assertEqual(last(order(long, long)), [0, 0])
        self.assertEqual(last(order(long + "a", long)), [-1])
        self.assertEqual(last(order(long, long + "a")), [-1])
        self.assertEqual(last(order([1], [65535])), [0, -1])
        for wrong in (0, 65536):
            self.assertEqual(last(order([wrong], "a")), [-1])
            self.assertEqual(last(order("a", [wrong])), [-1])


class BeginsTest(unittest.TestCase):
    def test_answers_0(self):
        self.assertEqual(ask(begins(), begins()), [[0], [0]])

    def test_leaves_no_entries(self):
        text = "= a\n= b\n"
        self.assertEqual(ask(read(text), begins(), said(), entry(0), find("b"), starts("")),
                         [[2], [0], [0], [-6], [0, 0], [0]])

    def test_leaves_no_letters(self):
        self.assertEqual(ask(letters("b a/x ch", "-", 1), begins(), key("a-b"), order("a", "b"), read("= b\n= a\n"),
                             said())[2:],
                         [[3, 97, 45, 98] + [0] * 6, [0, -1], [2], [8] + signs("= a\n= b\n")])

    def test_it_is_as_at_the_beginning(self):
        calls = [key("a-b"), said(), entry(0), find("a"), starts("")]
        self.assertEqual(ask(letters("b a", "-"), read("= a\n"), begins(), *calls)[3:], ask(*calls))


if __name__ == "__main__":
    unittest.main()
