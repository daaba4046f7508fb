"""read: what it takes, and its faults."""

import unittest

from helper import ask, counted, last, letters, read, said

KINDS = ("see", "like", "unlike", "under", "part")


class ReadTest(unittest.TestCase):
    def takes(self, text, count):
        self.assertEqual(ask(read(text)), [[count]], text)

    def faulty(self, text, kind, place):
        self.assertEqual(ask(read(text)), [[-3, kind, place]], text)

    def line_faulty(self, line, before="= a\n- b\n"):
        """The line has a fault of kind 1, and what stands behind it doesn't count."""
        self.faulty(before + line + "\n", 1, len(before))
        self.faulty(before + line + "\n= c #1\n?", 1, len(before))


class OrdinaryTest(ReadTest):
    def test_counts_the_entries(self):
        self.takes("", 0)
        self.takes("= a\n", 1)
        self.takes("= a\n- one\n> like b\n= b\n> see a\n= c\n", 3)

    def test_a_text_takes_the_place_of_the_one_before(self):
        self.assertEqual(last(read("= a\n- x\n"), read("= b\n"), said()), counted("= b\n"))
        self.assertEqual(last(read("= a\n- x\n"), read(""), said()), counted(""))

    def test_all_kinds_and_aims(self):
        for kind in KINDS:
            before = "= a\n" if kind == "see" else "= a\n- x\n"
            for aim in ("b", "b c", "b #1", "b #9", "b .1", "b .9", "b .10", "b .12", "b #1 .1", "b c #9 .12", "see"):
                self.takes(before + "> " + kind + " " + aim + "\n", 1)

    def test_every_number_and_every_sense_number(self):
        text = "= a\n- x\n" + "".join("> like b #%d\n" % number for number in range(1, 10))
        text += "- y\n" + "".join("> like b .%d\n" % sense for sense in range(1, 13))
        self.takes(text, 1)
        self.assertEqual(last(read(text), said()), counted(text))

    def test_heads_may_have_other_signs(self):
        for head in ("=", "-", ">", "> see", "a/b,c", "0", "a'", "-- -", "\u00e9", "\x01", "\t", "\uffff"):
            self.takes("= " + head + "\n", 1)
            self.takes("= x\n> see " + head + " #2\n", 1)

    def test_sense_texts_may_have_every_sign_but_a_line_end(self):
        for text in (" ", "  x  ", "#1", ".", "- b", "= a", "\x01\uffff"):
            self.takes("= a\n- " + text + "\n", 1)


class BoundsTest(ReadTest):
    def test_length_of_heads(self):
        self.takes("= " + "a" * 40 + "\n", 1)
        self.takes("= " + "a" * 40 + " #1\n= " + "a" * 40 + " #2\n", 2)
        self.line_faulty("= " + "a" * 41)
        self.line_faulty("= " + "a" * 41 + " #1")
        self.takes("= a\n> see " + "a" * 40 + "\n", 1)
        self.takes("= a\n> see " + "a" * 40 + " #9 .12\n", 1)
        self.line_faulty("> see " + "a" * 41, "= a\n")
        self.line_faulty("> like " + "a" * 41 + " #1 .1")

    def test_length_of_sense_texts(self):
        self.takes("= a\n- " + "x" * 200 + "\n", 1)
        self.line_faulty("- " + "x" * 201)
        self.line_faulty("- ")

    def test_number_of_entries(self):
        lines = ["= %d\n" % number for number in range(302)]
        self.takes("".join(lines[:300]), 300)
        self.faulty("".join(lines[:301]), 5, len("".join(lines[:300])))
        self.faulty("".join(lines[:302]), 5, len("".join(lines[:300])))
        self.takes("".join(lines[:300]) + "- x\n", 300)

    def test_number_of_senses(self):
        lines = ["- x%d\n" % number for number in range(14)]
        self.takes("= a\n" + "".join(lines[:12]) + "= b\n" + "".join(lines[:12]), 2)
        self.faulty("= a\n" + "".join(lines[:13]), 5, len("= a\n" + "".join(lines[:12])))
        self.faulty("= b\n- x\n= a\n" + "".join(lines), 5, len("= b\n- x\n= a\n" + "".join(lines[:12])))

    def test_number_of_pointers_of_a_sense(self):
        lines = ["> like x%d\n" % number for number in range(14)]
        full = "= a\n- x\n" + "".join(lines[:12])
        self.takes(full + "- y\n" + "".join(lines[:12]), 1)
        self.faulty(full + lines[12], 5, len(full))
        self.faulty(full + "> part x1\n", 5, len(full))

    def test_number_of_pointers_of_an_entry(self):
        lines = ["> see x%d\n" % number for number in range(14)]
        full = "= a\n" + "".join(lines[:12])
        self.takes(full + "= b\n" + "".join(lines[:12]), 2)
        self.faulty(full + lines[12], 5, len(full))

    def test_signs(self):
        self.takes([61, 32, 1, 10], 1)
        self.takes([61, 32, 65535, 10], 1)
        for wrong in (0, 65536, 4294967295):
            self.assertEqual(ask(read([61, 32, wrong, 10])), [[-1]])
            self.assertEqual(ask(read([10, wrong])), [[-1]])

    def test_length_of_the_text(self):
        lines = "".join("= %02d\n" % number + "- " + "x" * 192 + "\n" for number in range(100))
        self.assertEqual(len(lines), 20000)
        self.takes(lines, 100)
        self.assertEqual(ask(read(lines + "\n")), [[-1]])
        self.faulty(lines[1:] + "\n", 1, 0)
        self.assertEqual(ask(read("x" * 20000)), [[-3, 1, 20000]])
        self.assertEqual(ask(read("x" * 20001)), [[-1]])
        self.assertEqual(ask(read("x" * 21000)), [[-1]])


class LineFaultsTest(ReadTest):
    def test_lines_that_are_not_as_told(self):
        for line in ("", " ", "a", "=", "-", ">", "= ", "=a", "-a", "> ", ">see b", "+ a", " = a", "=\ta", "==", "=  ",
                     "+ like b", "like b", ">>like b", ">\tlike b", "<= like b", "-\tx"):
            self.line_faulty(line)

    def test_heads_that_are_not_as_told(self):
        for head in (" a", "a ", "a  b", " ", "a#", "a.", ".a", "#", "a#b", "a.b", "a #", "a #0", "a #10", "a #01",
                     "a #1 ", "a  #1", "a#1", " #1", "#1", "a #1 #2", "a #1#2", "a #1 b", "a # 1", "a #x", "a #1x",
                     "a #-1", "a #:", "a #/"):
            self.line_faulty("= " + head)
            self.line_faulty("> see " + head, "= a\n")
            self.line_faulty("> like " + head)

    def test_an_entry_has_no_sense_number(self):
        for head in ("a .1", "a #1 .1", "a .12"):
            self.line_faulty("= " + head)

    def test_sense_numbers_that_are_not_as_told(self):
        for tail in (" .", " .0", " .13", " .20", " .01", " .012", " .1 ", "  .1", ".1", " .1 #1", " .1 .2", " #1  .1",
                     " #1.1", " #0 .1", " #1 .0", " #1 .13", " #1 .", " .1x", " .x", " .120", " #1 .1 "):
            self.line_faulty("> under b" + tail)
            self.line_faulty("> see b" + tail, "= a\n")

    def test_kinds_that_are_not_as_told(self):
        for rest in ("likes b", "Like b", "lik b", "like", "like ", "likeb", " like b", "like  b", "b", "un like",
                     "below b", "seen b"):
            self.line_faulty("> " + rest)
            self.line_faulty("> " + rest, "= a\n")

    def test_ahead_of_all_entries(self):
        self.line_faulty("- x", "")
        self.line_faulty("> see b", "")
        self.line_faulty("> like b", "")

    def test_a_sense_behind_an_entry_pointer(self):
        self.line_faulty("- x", "= a\n> see b\n")
        self.takes("= a\n> see b\n= c\n- x\n", 2)

    def test_a_see_behind_a_sense(self):
        self.line_faulty("> see b", "= a\n- x\n")
        self.line_faulty("> see b", "= a\n- x\n> like c\n")

    def test_another_pointer_without_a_sense(self):
        for kind in KINDS[1:]:
            self.line_faulty("> " + kind + " b", "= a\n")
            self.line_faulty("> " + kind + " b", "= a\n> see c\n")
            self.line_faulty("> " + kind + " b", "= c\n- x\n= a\n")

    def test_the_last_line_is_not_ended(self):
        for text in ("= a", "= a\n- x", "= a\n- x\n> like b", "= a\n- x\n- x", "= a\n= a"):
            self.faulty(text, 1, len(text))

    def test_what_is_not_ended_is_not_looked_at(self):
        for text in ("x", "= a\n- ", "= a\n>", "= a\n> like b"):
            self.faulty(text, 1, len(text))

    def test_a_line_before_counts_ahead_of_the_end(self):
        self.faulty("= a\nx\n= b", 1, 4)
        self.faulty("= a\n- x\n- x\n= b", 4, 8)

    def test_told_already(self):
        self.faulty("= a\n- x\n- y\n- x\n", 4, 12)
        self.faulty("= a\n> see b\n> see c\n> see b\n", 4, 20)
        self.faulty("= a\n- x\n> like b #1 .2\n> like b #1 .2\n", 4, 23)
        self.takes("= a\n- x\n= b\n- x\n", 2)
        self.takes("= a\n- x\n> like b\n- y\n> like b\n", 1)
        self.takes("= a\n> see c\n= b\n> see c\n", 2)

    def test_pointers_that_differ_in_one_thing(self):
        self.takes("= a\n- x\n> like b\n> unlike b\n> like c\n> like b #1\n> like b .1\n> like b #1 .1\n> like b #2 .1\n"
                   "> like b #1 .2\n", 1)

    def test_of_one_line_1_first_then_4_then_5(self):
        senses = "= a\n" + "".join("- x%d\n" % number for number in range(12))
        self.faulty(senses + "- x3\n", 4, len(senses))
        self.faulty(senses + "- \n", 1, len(senses))
        self.faulty(senses + "> see b\n", 1, len(senses))
        pointers = "= a\n- x\n" + "".join("> like b%d\n" % number for number in range(12))
        self.faulty(pointers + "> like b0\n", 4, len(pointers))
        self.faulty(pointers + "> see b0\n", 1, len(pointers))
        sees = "= a\n" + "".join("> see b%d\n" % number for number in range(12))
        self.faulty(sees + "> see b11\n", 4, len(sees))
        self.faulty(sees + "> like b11\n", 1, len(sees))
        entries = "".join("= %d\n" % number for number in range(300))
        self.faulty(entries + "= 5\n", 5, len(entries))
        self.faulty(entries + "= 5 #0\n", 1, len(entries))
        self.faulty(entries + "= x", 1, len(entries) + 3)

    def test_the_first_line_counts(self):
        self.faulty("= a\n- x\n- x\nbad\n", 4, 8)
        self.faulty("= a\n- x\nbad\n- x\n", 1, 8)


class EntryFaultsTest(ReadTest):
    def test_one_before_has_its_head_and_its_number(self):
        self.faulty("= a #1\n= a #1\n", 2, 7)
        self.faulty("= a #1\n- x\n= a #2\n- y\n= a #2\n- z\n", 2, 22)
        self.faulty("= a #2\n= b\n= a #1\n= a #2\n", 2, 18)

    def test_a_number_though_the_head_is_its_alone(self):
        self.takes("= a\n", 1)
        for number in range(1, 10):
            self.faulty("= b\n= a #%d\n" % number, 3, 4)

    def test_numbers_from_1_to_k(self):
        self.takes("= a #2\n= a #1\n", 2)
        self.takes("".join("= a #%d\n" % number for number in (3, 9, 1, 4, 2, 8, 5, 7, 6)), 9)
        self.faulty("= a\n= a #1\n", 3, 0)
        self.faulty("= a #1\n= a\n", 3, 7)
        self.faulty("= a\n= a\n", 3, 0)
        self.faulty("= a #1\n= a #3\n", 3, 7)
        self.faulty("= a #3\n= a #1\n", 3, 0)
        self.faulty("= a #3\n= a #3\n", 3, 0)
        self.faulty("= a #2\n= a #3\n= a #4\n", 3, 14)

    def test_ten_of_one_head(self):
        nine = "".join("= a #%d\n" % number for number in range(1, 10))
        self.faulty(nine + "= a #9\n", 2, 63)
        self.faulty(nine + "= a\n", 3, 63)

    def test_heads_alike_in_rank_are_not_one_head(self):
        self.assertEqual(last(letters("a,A", "-"), read("= a\n= A\n= a-\n")), [3])

    def test_the_first_entry_in_the_text_counts(self):
        self.faulty("= b #1\n= a #1\n= a #1\n", 3, 0)
        self.faulty("= a #1\n= a #1\n= b #1\n", 2, 7)
        self.faulty("= z #1\n= a #1\n", 3, 0)

    def test_all_lines_count_before_the_entries(self):
        self.faulty("= a #1\n- x\n- x\n", 4, 11)
        self.faulty("= a #1\n= a #1\nbad\n", 1, 14)
        self.faulty("= a #1\n= a #1\n= b", 1, 17)

    def test_an_entry_fault_stands_at_the_entry_line(self):
        self.faulty("= b\n- x\n> like c\n= a #1\n- x\n> like b\n", 3, 17)


class RefusalTest(unittest.TestCase):
    def test_a_refusal_changes_nothing(self):
        text = "= b\n- x\n> like a\n= c\n> see b\n"
        for wrong, refusal in [("= d\n= e", [-3, 1, 7]), ("= d\n= d\n", [-3, 3, 0]), ([61, 32, 0, 10], [-1]),
                               ("= b\n- y\n- y\n", [-3, 4, 8]), ("= b #1\n= b #1\n", [-3, 2, 7])]:
            self.assertEqual(ask(read(text), read(wrong), said()), [[2], refusal, counted(text)])


if __name__ == "__main__":
    unittest.main()
