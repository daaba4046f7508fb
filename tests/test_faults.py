"""faults: wrong pointers of the four kinds."""

import unittest

from helper import ask, begins, faults, last, letters, read


class FaultsTest(unittest.TestCase):
    def wrong(self, text, *expected):
        """Each wrong one: which of the four, the entry's place, the sense, the pointer's place."""
        self.assertEqual(last(read(text), faults()), [len(expected)] + [number for each in expected for number in each])


class NowhereTest(FaultsTest):
    def test_none_is_wrong(self):
        self.assertEqual(ask(faults()), [[0]])
        self.wrong("")
        self.wrong("= a\n- x\n= b\n")
        self.wrong("= a\n- x\n> under b\n> part b\n> like c\n= b\n- x\n= c\n- x\n> like a\n= d\n> see a\n> see b\n")

    def test_each_kind_may_lead_nowhere(self):
        self.wrong("= a\n- x\n> like n\n> unlike n\n> under n\n> part n\n= b\n> see n\n",
                   (1, 0, 1, 0), (1, 0, 1, 1), (1, 0, 1, 2), (1, 0, 1, 3), (1, 1, 0, 0))

    def test_by_entries_senses_pointers(self):
        self.wrong("= b\n- x\n> part m\n> like m\n- y\n> part a .1\n> under m\n= c\n> see a\n> see m\n> see n\n"
                   "= a\n- x\n- y\n- z\n> part m\n",
                   (1, 0, 3, 0), (1, 1, 1, 0), (1, 1, 1, 1), (1, 1, 2, 1), (1, 2, 0, 1), (1, 2, 0, 2))

    def test_numbers_that_are_not_there(self):
        self.wrong("= a\n- x\n> part b\n> part b #1\n> part b #3\n> part b #2 .1\n> part b #2 .2\n> part a #1\n"
                   "= b #1\n- x\n= b #2\n- x\n", (1, 0, 1, 0), (1, 0, 1, 2), (1, 0, 1, 4), (1, 0, 1, 5))

    def test_entries_without_senses(self):
        self.wrong("= a\n- x\n> part b\n> part b .1\n= b\n= c\n> see b\n> see b .1\n",
                   (1, 0, 1, 0), (1, 0, 1, 1), (1, 2, 0, 1))

    def test_a_see_with_a_sense_number(self):
        self.wrong("= a\n> see b\n> see b .1\n> see b .2\n> see b .3\n= b\n- x\n- y\n", (1, 0, 0, 3))


class NotAnsweredTest(FaultsTest):
    def test_answered_by_the_same_kind(self):
        for kind, other in (("like", "unlike"), ("unlike", "like")):
            self.wrong("= a\n- x\n> %s b\n= b\n- x\n> %s a\n" % (kind, kind))
            self.wrong("= a\n- x\n> %s b\n= b\n- x\n> %s a\n" % (kind, other), (2, 0, 1, 0), (2, 1, 1, 0))
            self.wrong("= a\n- x\n> %s b\n= b\n- x\n" % kind, (2, 0, 1, 0))
            self.wrong("= a\n- x\n> %s b\n= b\n- x\n> under a\n> part a\n" % kind, (2, 0, 1, 0))

    def test_the_very_sense_answers(self):
        self.wrong("= a\n- x\n> like b .2\n= b\n- x\n> like a\n- y\n", (2, 0, 1, 0), (2, 1, 1, 0))
        self.wrong("= a\n- x\n> like b .2\n- y\n= b\n- x\n- y\n> like a .2\n", (2, 0, 1, 0), (2, 1, 2, 0))
        self.wrong("= a\n- x\n- y\n> like b .2\n= b\n- x\n- y\n> like a .2\n")

    def test_however_the_pointer_back_is_told(self):
        self.wrong("= a\n- x\n> like b\n= b\n- x\n> like a .1\n")
        self.wrong("= a\n- x\n> like b\n> like b .1\n= b\n- x\n> under a\n> like n\n> like a\n", (1, 1, 1, 1))
        self.wrong("= a #1\n- x\n> like b\n= a #2\n- x\n= b\n- x\n> like a #2\n", (2, 0, 1, 0), (2, 2, 1, 0))
        self.wrong("= a #1\n- x\n> like a #2\n= a #2\n- x\n> like a #1 .1\n")

    def test_a_sense_that_is_like_itself(self):
        self.wrong("= a\n- x\n> like a\n> unlike a .1\n")
        self.wrong("= a\n- x\n> like a .2\n- y\n> like a .1\n")

    def test_a_ring_of_three_is_not_answered(self):
        self.wrong("= a\n- x\n> like b\n= b\n- x\n> like c\n= c\n- x\n> like a\n",
                   (2, 0, 1, 0), (2, 1, 1, 0), (2, 2, 1, 0))

    def test_nowhere_counts_first(self):
        self.wrong("= a\n- x\n> like b .2\n= b\n- x\n> like a\n", (1, 0, 1, 0), (2, 1, 1, 0))


class RingTest(FaultsTest):
    def test_of_one_sense(self):
        for kind in ("under", "part"):
            self.wrong("= a\n- x\n> %s a\n" % kind, (3, 0, 1, 0))
            self.wrong("= a\n- x\n- y\n> %s a .2\n> %s a\n" % (kind, kind), (3, 0, 2, 0))

    def test_of_several(self):
        for kind in ("under", "part"):
            text = "= a\n- x\n> K b\n= b\n- x\n> K c .2\n= c\n- x\n- y\n> K a\n".replace("K", kind)
            self.wrong(text, (3, 0, 1, 0), (3, 1, 1, 0), (3, 2, 2, 0))
            self.wrong(text.replace("c .2", "c"))

    def test_two_senses_of_one_entry(self):
        self.wrong("= a\n- x\n> under a .2\n- y\n> under a .1\n", (3, 0, 1, 0), (3, 0, 2, 0))

    def test_a_ring_keeps_to_one_kind(self):
        self.wrong("= a\n- x\n> under b\n= b\n- x\n> part a\n")
        self.wrong("= a\n- x\n> under b\n> part b\n= b\n- x\n> part a\n", (3, 0, 1, 1), (3, 1, 1, 0))
        self.wrong("= a\n- x\n> like b\n> under b\n= b\n- x\n> like a\n")

    def test_a_way_into_a_ring_and_out_of_it_is_right(self):
        self.wrong("= a\n- x\n> under b\n= b\n- x\n> under c\n> under d\n= c\n- x\n> under b\n= d\n- x\n",
                   (3, 1, 1, 0), (3, 2, 1, 0))

    def test_a_way_between_two_rings_is_right(self):
        self.wrong("= a\n- x\n> part a\n> part b\n= b\n- x\n> part c\n= c\n- x\n> part c\n",
                   (3, 0, 1, 0), (3, 2, 1, 0))

    def test_two_rings_through_one_sense(self):
        self.wrong("= a\n- x\n> under b\n> under c\n= b\n- x\n> under a\n= c\n- x\n> under d\n= d\n- x\n> under a\n",
                   (3, 0, 1, 0), (3, 0, 1, 1), (3, 1, 1, 0), (3, 2, 1, 0), (3, 3, 1, 0))

    def test_a_long_way_back_of_a_short_pointer(self):
        self.wrong("= a\n- x\n> under d\n> under b\n= b\n- x\n> under d\n= c\n- x\n> under a\n= d\n- x\n> under c\n",
                   (3, 0, 1, 0), (3, 0, 1, 1), (3, 1, 1, 0), (3, 2, 1, 0), (3, 3, 1, 0))

    def test_both_ways_of_telling_a_pointer_are_wrong(self):
        self.wrong("= a\n- x\n> under b\n> under b .1\n> under n\n= b\n- x\n> under a .1\n",
                   (3, 0, 1, 0), (3, 0, 1, 1), (1, 0, 1, 2), (3, 1, 1, 0))

    def test_a_ring_of_all_senses(self):
        lines = ["= %03d\n- x\n> under %03d\n" % (number, (number + 1) % 300) for number in range(300)]
        self.wrong("".join(lines), *[(3, place, 1, 0) for place in range(300)])
        self.wrong("".join(lines[:299]) + "= 299\n- x\n")


class RoundTest(FaultsTest):
    def test_an_entry_that_sees_itself(self):
        self.wrong("= a\n> see a\n", (4, 0, 0, 0))

    def test_a_ring(self):
        self.wrong("= a\n> see b\n= b\n> see c\n= c\n> see a\n", (4, 0, 0, 0), (4, 1, 0, 0), (4, 2, 0, 0))

    def test_an_entry_that_leads_into_a_ring(self):
        self.wrong("= a\n> see b\n= b\n> see c\n= c\n> see b\n", (4, 0, 0, 0), (4, 1, 0, 0), (4, 2, 0, 0))
        self.wrong("= c\n> see b\n= a\n> see b\n= b\n> see a\n", (4, 0, 0, 0), (4, 1, 0, 0), (4, 2, 0, 0))

    def test_every_see_of_such_an_entry_but_those_that_lead_nowhere(self):
        self.wrong("= a\n> see a\n> see b\n> see n\n> see b .1\n> see b .2\n= b\n- x\n",
                   (4, 0, 0, 0), (4, 0, 0, 1), (1, 0, 0, 2), (4, 0, 0, 3), (1, 0, 0, 4))

    def test_only_the_first_pointer_leads_round(self):
        self.wrong("= a\n> see b\n> see a\n= b\n- x\n= c\n> see n\n> see c\n", (1, 2, 0, 0))

    def test_followed_it_leads_nowhere(self):
        self.wrong("= a\n> see b\n= b\n> see c\n= c\n")
        self.wrong("= a\n> see b\n= b\n> see n\n", (1, 1, 0, 0))

    def test_ways_that_meet(self):
        self.wrong("= a\n> see c\n= b\n> see c\n= c\n> see d\n= d\n- x\n= e\n> see g\n= f\n> see g\n= g\n> see g\n",
                   (4, 4, 0, 0), (4, 5, 0, 0), (4, 6, 0, 0))


class PlacesTest(FaultsTest):
    def test_all_four(self):
        self.wrong("= a\n- x\n> under n\n> like b\n> part a\n= b\n- x\n= c\n> see c\n",
                   (1, 0, 1, 0), (2, 0, 1, 1), (3, 0, 1, 2), (4, 2, 0, 0))

    def test_letters_told_anew(self):
        text = "= a\n- x\n> under n\n= b\n- x\n> like a\n= c\n> see c\n"
        self.assertEqual(ask(read(text), letters("c b a"), faults(), begins(), faults())[2:],
                         [[3, 4, 0, 0, 0, 2, 1, 1, 0, 1, 2, 1, 0], [0], [0]])


if __name__ == "__main__":
    unittest.main()
