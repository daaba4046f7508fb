"""said, entry, find, starts, and the places of entries."""

import unittest

from helper import ask, begins, counted, entry, find, last, letters, read, said, starts

CZECH = letters("a,A/\u00e1 b c/\u010d d h ch,Ch i z", "-")


def heads(*names):
    return "".join("= " + name + "\n" for name in names)


class SaidTest(unittest.TestCase):
    def same(self, text):
        self.assertEqual(last(read(text), said()), counted(text))

    def test_without_entries(self):
        self.assertEqual(ask(said()), [[0]])
        self.assertEqual(last(read(""), said()), [0])

    def test_what_is_in_order_is_said_as_it_was_read(self):
        self.same("= a\n= b\n- x\n- y\n> like a #1 .12\n> under b c\n> part b .2\n> unlike b #9\n- z\n> like a\n"
                  "= c\n> see d\n> see d #3\n> see d #3 .4\n> see d .10\n= d #1\n- x\n= d #2\n= e f\n")

    def test_senses_and_pointers_keep_their_order(self):
        self.same("= a\n- z\n> part z\n> like a\n> under y\n- y\n- x\n= b\n> see z\n> see a\n")

    def test_entries_are_said_in_order(self):
        self.assertEqual(last(read("= b\n- x\n> like a\n= a #2\n- y\n= a #1\n> see b\n"), said()),
                         counted("= a #1\n> see b\n= a #2\n- y\n= b\n- x\n> like a\n"))

    def test_the_longest_text(self):
        text = "".join("= %02d\n" % number + "- " + "x" * 192 + "\n" for number in range(100))
        self.same(text)

    def test_what_is_said_is_read_as_the_same(self):
        text = "= b #2\n- x\n= a b\n= b #1\n> see a b .3\n= a\n- y\n> part b #2 .1\n"
        once = last(CZECH, read(text), said())[1:]
        self.assertEqual(last(CZECH, read(once), said())[1:], once)


class OrderOfEntriesTest(unittest.TestCase):
    def said_in(self, told, text):
        return last(told, read(text), said())

    def test_by_signs_without_letters(self):
        self.assertEqual(self.said_in(begins(), heads("b", "a", "B", "ab")), counted(heads("B", "a", "ab", "b")))

    def test_by_the_letters_that_there_are(self):
        names = ["ac", "ach", "ahd", "ai", "\u00e1-c", "az", "b-a", "ba", "c", "\u010d", "cz", "ch", "Ch", "q"]
        self.assertEqual(self.said_in(CZECH, heads(*sorted(names))),
                         counted(heads("ac", "\u00e1-c", "ahd", "ach", "ai", "az", "b-a", "ba", "c", "\u010d", "cz",
                                       "ch", "Ch", "q")))

    def test_those_of_one_head_by_their_numbers(self):
        text = heads("b", "a #2", "a #3", "a #1", "A")
        self.assertEqual(self.said_in(letters("a,A b"), text), counted(heads("a #1", "a #2", "a #3", "A", "b")))

    def test_letters_told_anew_put_them_in_order_anew(self):
        text = heads("a", "b #1", "b #2", "c")
        turned = heads("c", "b #1", "b #2", "a")
        self.assertEqual(ask(read(text), letters("c b a"), said(), entry(0), find("a"), starts("c"), letters("a b c"),
                             said(), find("a"), begins(), said()),
                         [[4], [3], counted(turned), counted("= c\n"), [1, 3], [1, 0], [3], counted(text), [1, 0],
                          [0], [0]])

    def test_variants_from_the_end_put_them_in_order_anew(self):
        names = ("c\u00f4te", "cot\u00e9")
        told = "c o/\u00f4 t e/\u00e9"
        self.assertEqual(ask(letters(told), read(heads(*names)), said(), letters(told, "", 1), said())[2:],
                         [counted(heads(*reversed(names))), [4], counted(heads(*names))])

    def test_passed_signs_put_them_in_order_anew(self):
        text = heads("a-c", "ab")
        self.assertEqual(ask(letters("a b c - x"), read(text), letters("- a b c"), said(), letters("a b c", "-"),
                             said())[3:], [counted(text), [3], counted(heads("ab", "a-c"))])

    def test_refused_letters_leave_the_order(self):
        text = heads("b", "a")
        for wrong in (letters("a a"), letters("a b", "b"), letters([0])):
            self.assertEqual(last(letters("b a"), read(text), wrong, said()), counted(text))


class EntryTest(unittest.TestCase):
    text = "= b #2\n- x\n- y\n> like a .1\n= a\n= b #1\n> see a\n> see b #2\n"

    def test_the_lines_of_each(self):
        self.assertEqual(ask(read(self.text), entry(0), entry(1), entry(2))[1:],
                         [counted("= a\n"), counted("= b #1\n> see a\n> see b #2\n"),
                          counted("= b #2\n- x\n- y\n> like a .1\n")])

    def test_no_such_entry(self):
        self.assertEqual(ask(entry(0), read(self.text), entry(3), entry(4294967295), entry(2)),
                         [[-6], [3], [-6], [-6], counted("= b #2\n- x\n- y\n> like a .1\n")])
        text = heads(*["%03d" % number for number in range(300)])
        self.assertEqual(ask(read(text), entry(299), entry(300)), [[300], counted("= 299\n"), [-6]])


class FindTest(unittest.TestCase):
    def test_how_many_have_it_and_how_many_stand_before(self):
        text = heads("b #1", "b #2", "b #3", "a", "c")
        self.assertEqual(ask(read(text), find("a"), find("b"), find("c"), find("d"), find("aa"), find("ba"))[1:],
                         [[1, 0], [3, 1], [1, 4], [0, 5], [0, 1], [0, 4]])

    def test_without_entries(self):
        self.assertEqual(ask(find(""), find("a")), [[0, 0], [0, 0]])

    def test_the_empty_word(self):
        self.assertEqual(last(read(heads("a", "b")), find("")), [0, 0])
        self.assertEqual(last(letters("a", "-"), read(heads("-", "a")), find("--")), [0, 1])

    def test_the_whole_order_of_words_counts(self):
        told = letters("a,A/\u00e1 b", "-")
        text = heads("a", "a-", "A", "\u00e1", "b")
        self.assertEqual(ask(told, read(text), find("a"), find("a-"), find("A"), find("\u00e1"), find("-a"),
                             find("A-"), find("b"))[2:],
                         [[1, 0], [1, 1], [1, 2], [1, 3], [0, 0], [0, 3], [1, 4]])

    def test_variants_from_the_end(self):
        told = "c o/\u00f4 t e/\u00e9"
        text = read(heads("c\u00f4te", "cot\u00e9"))
        self.assertEqual(ask(letters(told), text, find("c\u00f4te"), letters(told, "", 1), find("c\u00f4te"))[2:],
                         [[1, 1], [4], [1, 0]])

    def test_refusals(self):
        self.assertEqual(ask(read(heads("a")), find("b" * 200), find("b" * 201), find([0]), find([65536]), find([1]),
                             find([65535]))[1:], [[0, 1], [-1], [-1], [-1], [0, 0], [0, 1]])


class StartsTest(unittest.TestCase):
    def test_places(self):
        text = heads("b", "abc", "ab", "a", "ac")
        self.assertEqual(ask(read(text), starts("a"), starts("ab"), starts("abc"), starts("abcd"), starts("b"),
                             starts("c"))[1:], [[4, 0, 1, 2, 3], [2, 1, 2], [1, 2], [0], [1, 4], [0]])

    def test_the_empty_word(self):
        self.assertEqual(ask(starts("")), [[0]])
        self.assertEqual(last(read(heads("a", "b #1", "b #2")), starts("")), [3, 0, 1, 2])
        self.assertEqual(last(letters("a", "-"), read(heads("a", "x")), starts("-")), [2, 0, 1])

    def test_by_ranks_alone(self):
        told = letters("a,A/\u00e1 b c h ch", "-")
        text = heads("\u00e1b", "ab", "A-b", "-ab-", "ac", "ach")
        self.assertEqual(ask(told, read(text), said(), starts("a-B"), starts("\u00e1-b"), starts("ac"), starts("ach"),
                             starts("A"))[2:],
                         [counted(heads("-ab-", "ab", "A-b", "\u00e1b", "ac", "ach")), [0], [4, 0, 1, 2, 3], [1, 4],
                          [1, 5], [6, 0, 1, 2, 3, 4, 5]])

    def test_a_part_of_a_letter_is_another_letter(self):
        self.assertEqual(ask(letters("c ch"), read(heads("ch", "c", "cx")), starts("c"), starts("ch"))[2:],
                         [[2, 0, 1], [1, 2]])

    def test_places_need_not_stand_side_by_side_in_signs(self):
        self.assertEqual(last(letters("a,A b"), read(heads("ab", "Ab", "b", "aB")), starts("Ab")), [2, 0, 1])

    def test_refusals(self):
        self.assertEqual(ask(read(heads("a")), starts("a" * 200), starts("a" * 201), starts([97, 0]),
                             starts([65536]), starts([65535]))[1:], [[0], [-1], [-1], [-1], [0]])


if __name__ == "__main__":
    unittest.main()
