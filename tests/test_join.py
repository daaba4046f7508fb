"""join: two dictionaries become one."""

import unittest

from helper import (above, ask, begins, counted, ends, entry, faults, find, follow, join, key, last, letters, read,
                    rhymes, said, sections, starts)


def lines(*told):
    return "".join(line + "\n" for line in told)


class JoinTest(unittest.TestCase):
    def joined(self, first, second, expected, told=begins()):
        """The joined one is said as expected, and what's said is read as the same."""
        count = len([line for line in expected.splitlines() if line.startswith("= ")])
        self.assertEqual(ask(told, read(first), join(second), said())[2:], [[count], counted(expected)])
        self.assertEqual(ask(told, read(expected), said())[1:], [[count], counted(expected)])

    def refused(self, first, second, refusal, told=begins()):
        """It's refused, and all that can be asked stays as it was."""
        asked = [said(), entry(0), find("a"), starts("a"), ends("a"), sections(), rhymes(), follow(0), above(0, 1),
                 faults(), key("ab")]
        given = ask(told, read(first), *asked, join(second), *asked)
        self.assertEqual(given[2 + len(asked)], refusal)
        self.assertEqual(given[3 + len(asked):], given[2:2 + len(asked)])


class EntriesTest(JoinTest):
    def test_with_nothing(self):
        text = "= a #1\n- x\n> like a #2\n= a #2\n- y\n= b\n> see a #1\n> see n\n"
        self.joined("", "", "")
        self.joined(text, "", text)
        self.joined("", text, text)
        self.assertEqual(ask(join(text), said()), [[3], counted(text)])

    def test_with_itself(self):
        text = ("= a #1\n- x\n> like a #2\n> under n #3\n- y\n= a #2\n- y\n> part b .2\n= b\n- p\n- q\n"
                "> unlike a #1 .2\n= c\n> see a #1\n> see b .2\n= d\n")
        self.joined(text, text, text)

    def test_heads_of_one_alone(self):
        self.joined("= c\n- x\n= a\n- y\n", "= d\n- z\n= b\n> see a\n", "= a\n- y\n= b\n> see a\n= c\n- x\n= d\n- z\n")

    def test_in_the_order_of_the_letters(self):
        self.joined("= a\n= ch\n", "= c\n= h\n= b\n", "= h\n= ch\n= b\n= c\n= a\n", letters("h ch b c a"))

    def test_of_one_word_by_a_sense_in_common(self):
        self.joined("= a\n- x\n- y\n", "= a\n- z\n- y\n- w\n", "= a\n- x\n- y\n- z\n- w\n")

    def test_not_of_one_word(self):
        self.joined("= a\n- x\n", "= a\n- y\n", "= a #1\n- x\n= a #2\n- y\n")
        self.joined("= a\n- x\n", "= a\n- x \n", "= a #1\n- x\n= a #2\n- x \n")
        self.joined("= a\n- x\n", "= b\n- x\n", "= a\n- x\n= b\n- x\n")

    def test_heads_that_sort_alike_are_not_one_head(self):
        self.joined("= a\n- x\n", "= A\n- x\n= a-\n- x\n", "= a\n- x\n= a-\n- x\n= A\n- x\n", letters("a,A", "-"))

    def test_of_one_word_without_senses(self):
        self.joined("= a\n", "= a\n", "= a\n")
        self.joined("= a\n> see n\n", "= a\n", "= a\n> see n\n")
        self.joined("= a\n", "= a\n> see n\n", "= a\n> see n\n")
        self.joined("= a\n> see n\n> see m\n", "= a\n> see o\n> see m\n", "= a\n> see n\n> see m\n> see o\n")
        self.joined("= a\n", "= b\n", "= a\n= b\n")

    def test_senses_and_none(self):
        self.joined("= a\n- x\n", "= a\n> see b\n", "= a #1\n- x\n= a #2\n> see b\n")
        self.joined("= a\n> see b\n", "= a\n- x\n", "= a #1\n> see b\n= a #2\n- x\n")
        self.joined("= a #1\n- x\n= a #2\n", "= a\n> see b\n", "= a #1\n- x\n= a #2\n> see b\n")

    def test_with_the_first_of_its_word(self):
        self.joined("= a #1\n- x\n= a #2\n- y\n- z\n= a #3\n- z\n", "= a\n- z\n- w\n",
                    "= a #1\n- x\n= a #2\n- y\n- z\n- w\n= a #3\n- z\n")

    def test_with_each_just_one_is_put(self):
        self.joined("= a #1\n- x\n= a #2\n- x\n- y\n", "= a #1\n- x\n- p\n= a #2\n- x\n- q\n= a #3\n- x\n- r\n",
                    "= a #1\n- x\n- p\n= a #2\n- x\n- y\n- q\n= a #3\n- x\n- r\n")
        self.joined("= a\n", "= a #1\n> see n\n= a #2\n> see m\n", "= a #1\n> see n\n= a #2\n> see m\n")

    def test_what_is_put_with_one_is_not_put_with_a_better_one(self):
        self.joined("= a #1\n- x\n- y\n= a #2\n- x\n", "= a #1\n- x\n= a #2\n- y\n",
                    "= a #1\n- x\n- y\n= a #2\n- x\n= a #3\n- y\n")

    def test_senses_that_were_added_do_not_count(self):
        self.joined("= a #1\n- x\n= a #2\n- z\n", "= a #1\n- x\n- y\n= a #2\n- y\n",
                    "= a #1\n- x\n- y\n= a #2\n- z\n= a #3\n- y\n")

    def test_the_second_is_gone_through_in_its_order_not_as_told(self):
        self.joined("= a\n- x\n", "= a #2\n- x\n- p\n= a #1\n- x\n- q\n", "= a #1\n- x\n- q\n= a #2\n- x\n- p\n")

    def test_the_first_is_in_its_order_not_as_told(self):
        self.joined("= a #2\n- x\n- p\n= a #1\n- x\n- q\n", "= a\n- x\n- r\n",
                    "= a #1\n- x\n- q\n- r\n= a #2\n- x\n- p\n")

    def test_numbers_are_given_anew(self):
        self.joined("= a #1\n- x\n= a #2\n- y\n", "= a #1\n- z\n= a #2\n- y\n- w\n= a #3\n- v\n",
                    "= a #1\n- x\n= a #2\n- y\n- w\n= a #3\n- z\n= a #4\n- v\n")


class PointersTest(JoinTest):
    def test_of_a_sense_by_its_text(self):
        self.joined("= a\n- x\n> like n\n- y\n> part n\n",
                    "= a\n- y\n> under n\n> part n\n- x\n> like m\n- z\n> like o\n",
                    "= a\n- x\n> like n\n> like m\n- y\n> part n\n> under n\n- z\n> like o\n")

    def test_the_numbers_are_the_joined_ones(self):
        self.joined("= a\n- x\n> like b\n= b\n- p\n", "= b\n- q\n= c\n- y\n> like b\n> under b .1\n= d\n> see b\n",
                    lines("= a", "- x", "> like b #1", "= b #1", "- p", "= b #2", "- q", "= c", "- y", "> like b #2",
                          "> under b #2 .1", "= d", "> see b #2"))

    def test_numbers_that_are_told_change_too(self):
        self.joined("= b #1\n- p\n= b #2\n- q\n= a\n> see b #2\n",
                    "= b #1\n- q\n= b #2\n- r\n= c\n- y\n> part b #1\n> part b #2\n",
                    lines("= a", "> see b #2", "= b #1", "- p", "= b #2", "- q", "= b #3", "- r", "= c", "- y",
                          "> part b #2", "> part b #3"))

    def test_senses_have_the_number_of_their_text(self):
        self.joined("= a\n- x\n- y\n> under a .1\n",
                    "= a\n- z\n- y\n- w\n= b\n- p\n> like a .1\n> like a .2\n> like a .3\n",
                    lines("= a", "- x", "- y", "> under a .1", "- z", "- w", "= b", "- p", "> like a .3", "> like a .2",
                          "> like a .4"))

    def test_a_see_with_a_sense_number(self):
        self.joined("= a\n- x\n", "= a\n- z\n- x\n= b\n> see a .1\n> see a .2\n> see a\n> see a .3\n",
                    "= a\n- x\n- z\n= b\n> see a .2\n> see a .1\n> see a\n> see a .3\n")

    def test_without_a_sense_number_none_is_told(self):
        self.joined("= a\n- x\n", "= a\n- z\n- x\n= b\n- p\n> like a\n", "= a\n- x\n- z\n= b\n- p\n> like a\n")

    def test_nowhere_stays_as_it_was_told(self):
        self.joined("= a\n- x\n> like n\n> like b #2\n> like b .2\n> like b #1\n= b\n- p\n", "= b\n- q\n",
                    lines("= a", "- x", "> like n", "> like b #2", "> like b .2", "> like b #1", "= b #1", "- p",
                          "= b #2", "- q"))
        self.joined("= b\n- q\n- r\n", "= a\n> see b\n> see b .3\n> see b #4 .2\n= b #1\n- s\n= b #2\n- r\n",
                    lines("= a", "> see b", "> see b .3", "> see b #4 .2", "= b #1", "- q", "- r", "= b #2", "- s"))

    def test_a_sense_number_that_the_entry_has_not(self):
        self.joined("= b\n- p\n- q\n", "= a\n- x\n> part b .2\n> part b #1\n= b\n- p\n",
                    "= a\n- x\n> part b .2\n> part b #1\n= b\n- p\n- q\n")
        self.joined("= a\n> see b .1\n= b\n", "= b\n- q\n", "= a\n> see b .1\n= b #1\n= b #2\n- q\n")

    def test_an_entry_without_senses_gives_its_number(self):
        self.joined("= a\n- x\n> under b\n= b\n= c\n> see b\n", "= b\n- q\n",
                    "= a\n- x\n> under b #1\n= b #1\n= b #2\n- q\n= c\n> see b #1\n")
        self.joined("= b\n- q\n", "= a\n- x\n> under b\n= b\n= c\n> see b\n",
                    "= a\n- x\n> under b #2\n= b #1\n- q\n= b #2\n= c\n> see b #2\n")

    def test_a_head_that_only_the_other_has(self):
        self.joined("= a\n- x\n> like b\n", "= b\n- y\n> like a\n", "= a\n- x\n> like b\n= b\n- y\n> like a\n")

    def test_each_just_once(self):
        self.joined("= a\n- x\n> like b\n> like b .2\n= b\n- p\n- q\n",
                    "= a\n- x\n> like b .1\n> like b\n> like b .2\n= b\n- q\n- p\n",
                    "= a\n- x\n> like b\n> like b .2\n> like b .1\n= b\n- p\n- q\n")

    def test_each_just_once_where_numbers_make_them_alike(self):
        self.joined("= a\n- x\n> like b\n> like b #1\n= b\n- p\n", "= b\n- q\n",
                    "= a\n- x\n> like b #1\n= b #1\n- p\n= b #2\n- q\n")
        self.joined("= a\n> see b #1\n> see c\n> see b\n= b\n- p\n", "= b\n- q\n= a\n> see b #1\n> see b\n",
                    "= a\n> see b #1\n> see c\n> see b #2\n= b #1\n- p\n= b #2\n- q\n")

    def test_kinds_keep_pointers_apart(self):
        self.joined("= a\n- x\n> like b\n", "= a\n- x\n> unlike b\n> under b\n> part b\n> like b\n",
                    "= a\n- x\n> like b\n> unlike b\n> under b\n> part b\n")

    def test_they_lead_where_they_led(self):
        first = "= a\n- x\n> under b\n= b\n- p\n"
        second = "= b\n- q\n= c\n- y\n> under b .1\n= d\n> see b\n"
        self.assertEqual(ask(read(first), above(0, 1), join(second), above(0, 1), above(3, 1), follow(4), faults())[1:],
                         [[1, 1, 1, 1], [5], [1, 1, 1, 1], [1, 2, 1, 1], [0, 2, 1], [0]])


class RefusalsTest(JoinTest):
    text = "= a\n- x\n> like b\n> under n\n= b\n> see a\n"

    def test_signs(self):
        for wrong in (0, 65536, 4294967295):
            self.refused(self.text, [61, 32, wrong, 10], [-1])
        self.assertEqual(last(read(self.text), join([61, 32, 65535, 10])), [3])
        self.assertEqual(last(read(self.text), join([61, 32, 1, 10])), [3])

    def test_length(self):
        long = "".join("= %02d\n" % number + "- " + "x" * 192 + "\n" for number in range(100))
        self.assertEqual(len(long), 20000)
        self.assertEqual(last(read(self.text), join(long)), [102])
        self.refused(self.text, long + "\n", [-1])
        self.refused(self.text, "x" * 21000, [-1])
        self.refused(self.text, "x" * 20000, [-3, 1, 20000])

    def test_faults_of_the_text(self):
        for wrong, kind, place in [("= a\n= c", 1, 7), ("x\n", 1, 0), ("= c\n- y\n> see a\n", 1, 8),
                                   ("= c #1\n= c #2\n= c #2\n", 2, 14), ("= c\n= a #1\n", 3, 4),
                                   ("= a\n- x\n- x\n", 4, 8), ("= a\n> see b\n> see b\n", 4, 12),
                                   ("= a\n" + "".join("- %02d\n" % sense for sense in range(13)), 5, 64),
                                   ("".join("= %03d\n" % number for number in range(301)), 5, 1800)]:
            self.refused(self.text, wrong, [-3, kind, place])

    def test_the_first_refusal_told_counts(self):
        full = "".join("= %03d\n" % number for number in range(300))
        self.refused(full, "= x\n= x", [-3, 1, 7])
        self.refused(full, [61, 32, 120, 10, 0], [-1])
        self.refused(full, "= x\n", [-7])

    def test_with_letters(self):
        self.refused(self.text, "= ab\n- y", [-3, 1, 8], letters("b a/x", "-", 1))

    def test_entries(self):
        first = "".join("= %03d\n" % number for number in range(150))
        second = "".join("= %03d\n" % number for number in range(150, 301))
        self.assertEqual(last(read(first), join(second[6:])), [300])
        self.refused(first, second, [-7])
        self.assertEqual(last(read(first), join("= 000\n" + second[6:])), [300])
        self.refused(first, "= 000\n- x\n" + second[6:], [-7])

    def test_numbers(self):
        eight = "".join("= a #%d\n- %d\n" % (number, number) for number in range(1, 9))
        self.assertEqual(ask(read(eight), join("= a\n- 9\n"), find("a"))[1:], [[9], [9, 0]])
        self.refused(eight, "= a #1\n- 9\n= a #2\n- 0\n", [-7])
        self.assertEqual(last(read(eight), join("= a #1\n- 9\n= a #2\n- 8\n")), [9])
        nine = eight + "= a #9\n- 9\n"
        self.refused(nine, "= a\n", [-7])
        self.assertEqual(last(read(nine), join(nine)), [9])

    def test_senses(self):
        eleven = "= a\n" + "".join("- %02d\n" % sense for sense in range(11))
        self.assertEqual(last(read(eleven), join("= a\n- x\n- 00\n")), [1])
        self.refused(eleven, "= a\n- x\n- 00\n- y\n", [-7])
        self.refused(eleven + "- x\n", "= a\n- 00\n- y\n", [-7])
        self.assertEqual(last(read(eleven), join("= a\n- x\n- y\n")), [2])

    def test_pointers_of_a_sense(self):
        eleven = "= a\n- y\n- x\n" + "".join("> like %02d\n" % aim for aim in range(11))
        self.assertEqual(last(read(eleven), join("= a\n- x\n> part 00\n> like 03\n")), [1])
        self.refused(eleven, "= a\n- x\n> part 00\n> like 03\n> part 01\n", [-7])
        self.assertEqual(last(read(eleven), join("= a\n- y\n> part 00\n> part 01\n- z\n> part 00\n> part 01\n")), [1])

    def test_pointers_of_an_entry(self):
        eleven = "= a\n" + "".join("> see %02d\n" % aim for aim in range(11))
        self.assertEqual(last(read(eleven), join("= a\n> see x\n> see 03\n")), [1])
        self.refused(eleven, "= a\n> see x\n> see 03\n> see y\n", [-7])

    def test_pointers_are_counted_once_they_are_told_anew(self):
        senses = "".join("- %02d\n" % sense for sense in range(12))
        turned = "".join("- %02d\n" % sense for sense in range(11, -1, -1))
        pointers = "= b\n- x\n" + "".join("> like a .%d\n" % sense for sense in range(1, 13))
        self.joined("= a\n" + senses + pointers, "= a\n" + turned + pointers, "= a\n" + senses + pointers)
        self.joined("= a\n" + senses + pointers, "= b\n- x\n> like a .3\n", "= a\n" + senses + pointers)
        self.refused("= a\n" + senses + pointers, "= b\n- x\n> like a\n", [-7])


class CallsBehindTest(JoinTest):
    def test_letters_told_anew_behind_a_join(self):
        self.assertEqual(ask(read("= a\n- x\n> like b\n= b\n- p\n"), join("= c\n= b\n- q\n"), letters("c b a"), said(),
                             find("b"), sections(), rhymes(), above(3, 1), faults())[1:],
                         [[4], [3], counted("= c\n= b #1\n- p\n= b #2\n- q\n= a\n- x\n> like b #1\n"), [2, 1],
                          [3, 0, 1, 1, 2, 2, 1], [4, 0, 1, 2, 3], [0], [1, 2, 3, 1, 0]])

    def test_joins_one_behind_another(self):
        text = "= a #1\n- x\n= a #2\n- y\n= a #3\n- z\n= b\n> see a #1\n= c\n> see a #3\n"
        self.assertEqual(ask(join("= a\n- x\n= b\n> see a\n"), join("= a\n- y\n"), join("= a\n- z\n= c\n> see a\n"),
                             said()), [[2], [3], [5], counted(text)])

    def test_a_refused_join_between_joins(self):
        self.assertEqual(ask(read("= a\n- x\n> part b\n= b\n- p\n"), join("= b\n- q\n= b\n"), join([0]),
                             join("= b\n- q\n"), said())[1:],
                         [[-3, 3, 0], [-1], [3], counted("= a\n- x\n> part b #1\n= b #1\n- p\n= b #2\n- q\n")])

    def test_begins_behind_a_join(self):
        self.assertEqual(ask(letters("b a"), join("= a\n= b\n"), begins(), said(), sections(), faults(), follow(0),
                             join("= a\n= b\n"), said())[2:],
                         [[0], [0], [0], [0], [-6], [2], counted("= a\n= b\n")])

    def test_read_behind_a_join(self):
        self.assertEqual(ask(join("= a\n- x\n"), read("= b\n> see a\n"), said(), faults())[1:],
                         [[1], counted("= b\n> see a\n"), [1, 1, 0, 0, 0]])

    def test_letters_stay_as_they_were(self):
        self.assertEqual(ask(letters("b a/x", "-"), key("x-b"), join("= x\n= a\n= b\n"), key("x-b"), said())[1:],
                         [[2, 1, 0, 1, 0, 0, 0], [3], [2, 1, 0, 1, 0, 0, 0], counted("= b\n= a\n= x\n")])

    def test_join_and_then_the_same_join(self):
        first, second = "= a\n- x\n> like b\n= b\n- p\n", "= b\n- q\n= c\n> see b\n"
        once, twice = ask(read(first), join(second), said(), join(second), said())[2::2]
        # The second's b is put with the joined b #2 now, so nothing is new.
        self.assertEqual(twice, once)


if __name__ == "__main__":
    unittest.main()
