"""ends, sections, rhymes."""

import unittest

from helper import ask, begins, counted, ends, last, letters, read, rhymes, said, sections, starts


def heads(*names):
    return "".join("= " + name + "\n" for name in names)


class EndsTest(unittest.TestCase):
    def test_places(self):
        text = heads("c", "bc", "abc", "ac", "b")
        self.assertEqual(last(read(text), said()), counted(heads("abc", "ac", "b", "bc", "c")))
        self.assertEqual(ask(read(text), ends("c"), ends("bc"), ends("abc"), ends("xabc"), ends("b"), ends("a"))[1:],
                         [[4, 0, 1, 3, 4], [2, 0, 3], [1, 0], [0], [1, 2], [0]])

    def test_the_empty_word(self):
        self.assertEqual(ask(ends("")), [[0]])
        self.assertEqual(last(read(heads("a", "b #1", "b #2")), ends("")), [3, 0, 1, 2])
        self.assertEqual(last(letters("a", "-"), read(heads("a", "x", "-")), ends("--")), [3, 0, 1, 2])

    def test_by_ranks_alone(self):
        told = letters("a,A/\u00e1 b", "-")
        text = heads("b\u00e1", "ba", "b-A-", "bab", "b")
        self.assertEqual(ask(told, read(text), said(), ends("a"), ends("b-\u00e1"), ends("B"))[2:],
                         [counted(heads("b", "ba", "b-A-", "b\u00e1", "bab")), [3, 1, 2, 3], [3, 1, 2, 3], [0]])

    def test_a_part_of_a_letter_is_another_letter(self):
        text = heads("ach", "ah", "c-h")
        self.assertEqual(ask(letters("a c h ch", "-"), read(text), said(), ends("h"), ends("ch"), ends("c-h"))[2:],
                         [counted(heads("ah", "ach", "c-h")), [2, 0, 2], [1, 1], [1, 2]])

    def test_foreign_signs(self):
        self.assertEqual(ask(letters("a"), read(heads("ax", "xa", "x", "ay")), said(), ends("x"), ends("a"))[2:],
                         [counted(heads("ax", "ay", "x", "xa")), [2, 0, 2], [1, 3]])

    def test_a_head_without_ranks(self):
        self.assertEqual(ask(letters("a", "-"), read(heads("-", "a")), ends("a"), ends("-"), ends("aa"))[2:],
                         [[1, 1], [2, 0, 1], [0]])

    def test_letters_told_anew(self):
        self.assertEqual(ask(read(heads("ab", "b", "cB")), ends("b"), letters("c b,B a"), ends("b"))[1:],
                         [[2, 0, 1], [3], [3, 0, 1, 2]])

    def test_refusals(self):
        self.assertEqual(ask(read(heads("a")), ends("a" * 200), ends("a" * 201), ends("a" * 300), ends([97, 0]),
                             ends([65536]), ends([4294967295]), ends([65535]), ends([1]), ends("a"))[1:],
                         [[0], [-1], [-1], [-1], [-1], [-1], [0], [0], [1, 0]])
        self.assertEqual(last(letters("a", "-"), ends("-" * 201)), [-1])


class SectionsTest(unittest.TestCase):
    def test_without_entries(self):
        self.assertEqual(ask(sections(), letters("a b"), sections()), [[0], [2], [0]])

    def test_without_letters(self):
        self.assertEqual(last(read(heads("b", "ab", "a", "c #1", "c #2")), sections()), [3, 97, 2, 98, 1, 99, 2])

    def test_with_letters(self):
        text = heads("cz", "ch", "b", "hb", "Chi", "\u010da")
        self.assertEqual(last(letters("b c/\u010d h ch,Ch i"), read(text), sections()), [4, 0, 1, 1, 2, 2, 1, 3, 2])

    def test_as_they_come(self):
        text = heads("a", "b", "c", "aa")
        self.assertEqual(ask(letters("c b a"), read(text), sections(), letters("b c"), sections())[2:],
                         [[3, 0, 1, 1, 1, 2, 2], [2], [3, 0, 1, 1, 1, 99, 2]])

    def test_signs_that_are_passed_over(self):
        text = heads("-b", "'a", "a-", "b")
        self.assertEqual(last(letters("a b", "-'"), read(text), sections()), [2, 0, 2, 1, 2])

    def test_a_head_without_ranks_is_in_none(self):
        self.assertEqual(last(letters("a b", "-'"), read(heads("-", "'-", "b")), sections()), [1, 1, 1])
        self.assertEqual(last(letters("a", "-"), read(heads("-")), sections()), [0])

    def test_foreign_signs(self):
        self.assertEqual(last(letters("a b"), read(heads("xa", "xb", "b", "\uffff", "\x01")), sections()),
                         [4, 1, 1, 3, 1, 122, 2, 65537, 1])


class RhymesTest(unittest.TestCase):
    def test_without_entries(self):
        self.assertEqual(ask(rhymes()), [[0]])

    def test_by_the_last_rank_first(self):
        text = heads("a", "ab", "ba", "ca", "cab")
        self.assertEqual(ask(read(text), said(), rhymes())[1:],
                         [counted(heads("a", "ab", "ba", "ca", "cab")), [5, 0, 2, 3, 1, 4]])

    def test_a_row_that_another_begins_with_is_before_it(self):
        self.assertEqual(last(read(heads("bca", "ca", "a")), rhymes()), [3, 0, 2, 1])

    def test_with_letters(self):
        text = heads("ach", "ac", "ah", "ab")
        self.assertEqual(ask(letters("c b h ch a"), read(text), said(), rhymes())[2:],
                         [counted(heads("ac", "ab", "ah", "ach")), [4, 0, 1, 2, 3]])
        self.assertEqual(ask(letters("a ch h"), read(heads("chh", "hch", "ha", "ah")), said(), rhymes())[2:],
                         [counted(heads("ah", "chh", "ha", "hch")), [4, 2, 3, 0, 1]])

    def test_those_alike_in_their_order(self):
        told = letters("a,A/\u00e1 b", "-")
        text = heads("b\u00e1", "b-a", "bA", "ba #2", "ba #1", "a")
        self.assertEqual(ask(told, read(text), said(), rhymes())[2:],
                         [counted(heads("a", "b-a", "ba #1", "ba #2", "bA", "b\u00e1")), [6, 0, 1, 2, 3, 4, 5]])

    def test_variants_from_the_end_do_not_count(self):
        told = "c o/\u00f4 t e/\u00e9"
        text = heads("cot\u00e9", "c\u00f4te")
        for from_end in (0, 1):
            self.assertEqual(last(letters(told, "", from_end), read(text), rhymes()), [2, 0, 1])

    def test_a_head_without_ranks_is_first(self):
        self.assertEqual(ask(letters("b a", "-"), read(heads("ba", "a-b", "--")), said(), rhymes())[2:],
                         [counted(heads("--", "ba", "a-b")), [3, 0, 2, 1]])

    def test_foreign_signs_stand_behind_all_letters(self):
        self.assertEqual(ask(letters("z"), read(heads("zx", "xz", "zw")), said(), rhymes())[2:],
                         [counted(heads("zw", "zx", "xz")), [3, 2, 0, 1]])

    def test_letters_told_anew(self):
        self.assertEqual(ask(read(heads("ab", "ba")), rhymes(), letters("b a"), rhymes(), begins(), rhymes())[1:],
                         [[2, 1, 0], [2], [2, 1, 0], [0], [0]])

    def test_all_places_stand_there_once(self):
        text = heads(*["%03d" % (number * 7 % 300) for number in range(300)])
        given = last(read(text), rhymes())
        self.assertEqual(given[0], 300)
        self.assertEqual(given[1:], sorted(range(300), key=lambda place: ("%03d" % place)[::-1]))
        self.assertEqual(ask(read(text), starts(""), ends(""))[1:], [[300] + list(range(300))] * 2)


if __name__ == "__main__":
    unittest.main()
