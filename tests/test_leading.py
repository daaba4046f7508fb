"""follow, above, common, and where pointers lead."""

import unittest

from helper import above, ask, begins, common, faults, follow, last, letters, read

WRONG_NOWHERE = [1, 1, 0, 1, 0]
NONE_WRONG = [0]


class WhereAPointerLeadsTest(unittest.TestCase):
    def leads(self, aim, others, expected):
        """Where an under of the entry a, which stands first, leads to: place and number, or None."""
        text = "= a\n- one\n> under " + aim + "\n" + others
        nowhere = expected is None
        self.assertEqual(ask(read(text), above(0, 1), faults())[1:],
                         [[0], WRONG_NOWHERE] if nowhere else [[1, *expected, 1], NONE_WRONG], aim)

    def test_without_a_number(self):
        self.leads("b", "= b\n- x\n- y\n", (1, 1))
        self.leads("b c", "= b\n- x\n= b c\n- y\n", (2, 1))
        self.leads("b", "= b #1\n- x\n= b #2\n- y\n", None)
        self.leads("b", "= bb\n- x\n", None)
        self.leads("c", "= b\n- x\n", None)

    def test_with_a_number(self):
        self.leads("b #1", "= b #1\n- x\n= b #2\n- y\n", (1, 1))
        self.leads("b #2", "= b #1\n- x\n= b #2\n- y\n", (2, 1))
        self.leads("b #3", "= b #1\n- x\n= b #2\n- y\n", None)
        self.leads("b #1", "= b\n- x\n", None)

    def test_with_a_sense_number(self):
        self.leads("b .1", "= b\n- x\n- y\n", (1, 1))
        self.leads("b .2", "= b\n- x\n- y\n", (1, 2))
        self.leads("b .3", "= b\n- x\n- y\n", None)
        self.leads("b .12", "= b\n" + "".join("- %d\n" % sense for sense in range(12)), (1, 12))
        self.leads("b #2 .2", "= b #1\n- x\n= b #2\n- x\n- y\n", (2, 2))
        self.leads("b #1 .2", "= b #1\n- x\n= b #2\n- x\n- y\n", None)
        self.leads("b .1", "= b #1\n- x\n= b #2\n- y\n", None)

    def test_to_an_entry_without_senses(self):
        self.leads("b", "= b\n", None)
        self.leads("b", "= b\n> see c\n= c\n- x\n", None)
        self.leads("b .1", "= b\n> see c\n= c\n- x\n", None)

    def test_heads_that_sort_alike_are_not_one_head(self):
        text = "= a\n- one\n> under b-\n= b\n- x\n"
        self.assertEqual(ask(letters("a b", "-"), read(text), above(0, 1))[2:], [[0]])

    def test_a_see(self):
        for aim, others, expected in [
                ("b", "= b\n- x\n", [0, 1, 1]), ("b .1", "= b\n- x\n", [0, 1, 1]),
                ("b .2", "= b\n- x\n- y\n", [0, 1, 1]),
                ("b .2", "= b\n- x\n", [-5]), ("b", "= b\n", [-5]), ("b", "", [-5]), ("b #1", "= b\n- x\n", [-5]),
                ("b", "= b #1\n- x\n= b #2\n- y\n", [-5]), ("b #2", "= b #1\n- x\n= b #2\n- y\n", [0, 2, 1]),
                ("b #2 .1", "= b #1\n- x\n= b #2\n- y\n", [0, 2, 1]), ("b", "= b\n> see c\n= c\n- x\n", [0, 2, 2]),
                ("b .1", "= b\n> see c\n= c\n- x\n", [-5])]:
            self.assertEqual(last(read("= a\n> see " + aim + "\n" + others), follow(0)), expected, (aim, others))

    def test_a_see_without_a_sense_number_leads_to_an_entry_without_senses(self):
        self.assertEqual(last(read("= a\n> see b\n> see b .1\n= b\n"), faults()), [1, 1, 0, 0, 1])


class FollowTest(unittest.TestCase):
    def test_an_entry_with_senses_is_come_to(self):
        self.assertEqual(last(read("= a\n- x\n> like b\n= b\n- y\n"), follow(0)), [0, 0, 0])

    def test_one_behind_another(self):
        text = "= a\n> see b\n= b\n> see c\n= c\n> see d .1\n= d\n- x\n"
        self.assertEqual(ask(read(text), *[follow(place) for place in range(4)])[1:],
                         [[0, 3, 3], [0, 3, 2], [0, 3, 1], [0, 3, 0]])

    def test_the_first_pointer_alone_counts(self):
        text = "= a\n> see b\n> see c\n= b\n= c\n- x\n= d\n> see c\n> see d\n> see nil\n= e\n> see nil\n> see c\n"
        self.assertEqual(ask(read(text), follow(0), follow(3), follow(4))[1:], [[-5], [0, 2, 1], [-5]])

    def test_nowhere(self):
        text = "= a\n= b\n> see x\n= c\n> see a\n= d\n> see c\n= e\n> see f .2\n= f\n- x\n= g\n> see e\n"
        self.assertEqual(ask(read(text), *[follow(place) for place in (0, 1, 2, 3, 4, 6)])[1:], [[-5]] * 6)

    def test_round(self):
        self.assertEqual(last(read("= a\n> see a\n"), follow(0)), [-4])
        text = "= a\n> see b\n= b\n> see c\n= c\n> see b\n= d\n> see a\n> see e\n= e\n- x\n"
        self.assertEqual(ask(read(text), *[follow(place) for place in range(5)])[1:], [[-4]] * 4 + [[0, 4, 0]])

    def test_no_such_entry(self):
        self.assertEqual(ask(follow(0), read("= a\n- x\n= b\n> see a\n"), follow(1), follow(2), follow(4294967295)),
                         [[-6], [2], [0, 0, 1], [-6], [-6]])

    def test_a_way_through_all_entries(self):
        way = ["= %03d\n> see %03d\n" % (number, number + 1) for number in range(299)]
        self.assertEqual(last(read("".join(way) + "= 299\n- x\n"), follow(0)), [0, 299, 299])
        self.assertEqual(last(read("".join(way) + "= 299\n> see 000\n"), follow(0)), [-4])
        self.assertEqual(last(read("".join(way) + "= 299\n"), follow(0)), [-5])

    def test_places_are_those_in_the_order_that_there_is(self):
        text = "= a\n> see b\n= b\n- x\n= c\n> see a\n"
        self.assertEqual(ask(read(text), follow(2), letters("c b a"), follow(0), follow(2), begins(), follow(0))[1:],
                         [[0, 1, 2], [3], [0, 1, 2], [0, 1, 1], [0], [-6]])


class AboveTest(unittest.TestCase):
    def test_a_way_up(self):
        text = "= a\n- x\n> under b\n= b\n- x\n- y\n> under c\n- z\n> under b .2\n= c\n- x\n> under b .3\n"
        self.assertEqual(ask(read(text), above(0, 1), above(1, 1), above(1, 2), above(1, 3))[1:],
                         [[1, 1, 1, 1], [0], [2, 2, 1, 1, 1, 3, 2], [2, 1, 2, 1, 2, 1, 2]])

    def test_by_steps_then_places_then_numbers(self):
        text = ("= m\n- x\n> under z .2\n> under z\n> under b .2\n> under b\n> under a\n"
                "= a\n- x\n> under c .2\n= b\n- x\n- y\n> under c\n= c\n- x\n- y\n= z\n- x\n> under y\n- y\n= y\n- x\n")
        self.assertEqual(last(read(text), above(3, 1)),
                         [8, 0, 1, 1, 1, 1, 1, 1, 2, 1, 5, 1, 1, 5, 2, 1, 2, 1, 2, 2, 2, 2, 4, 1, 2])

    def test_a_sense_that_is_come_to_by_two_ways(self):
        text = ("= a\n- x\n> under b\n> under c\n> under d\n= b\n- x\n> under d\n= c\n- x\n> under e\n"
                "= d\n- x\n> under e\n= e\n- x\n")
        self.assertEqual(last(read(text), above(0, 1)), [4, 1, 1, 1, 2, 1, 1, 3, 1, 1, 4, 1, 2])
        self.assertEqual(last(read("= a\n- x\n> under b\n> under b .1\n= b\n- x\n"), above(0, 1)), [1, 1, 1, 1])

    def test_a_longer_way_that_is_told_first(self):
        text = "= a\n- x\n> under b\n> under d\n= b\n- x\n> under c\n= c\n- x\n> under d\n= d\n- x\n"
        self.assertEqual(last(read(text), above(0, 1)), [3, 1, 1, 1, 3, 1, 1, 2, 1, 2])

    def test_the_sense_itself_is_not_above_it(self):
        self.assertEqual(last(read("= a\n- x\n> under a\n"), above(0, 1)), [0])
        text = "= a\n- x\n> under b\n= b\n- x\n> under c\n= c\n- x\n> under a\n"
        self.assertEqual(ask(read(text), above(0, 1), above(1, 1))[1:], [[2, 1, 1, 1, 2, 1, 2], [2, 2, 1, 1, 0, 1, 2]])

    def test_another_sense_of_the_entry_is_another(self):
        self.assertEqual(last(read("= a\n- x\n> under a .2\n- y\n> under a\n"), above(0, 1)), [1, 0, 2, 1])

    def test_by_under_alone(self):
        text = "= a\n- x\n> like b\n> unlike c\n> part d\n= b\n- x\n= c\n- x\n= d\n- x\n> under b\n"
        self.assertEqual(ask(read(text), above(0, 1), above(3, 1))[1:], [[0], [1, 1, 1, 1]])

    def test_a_pointer_that_leads_nowhere_adds_nothing(self):
        text = "= a\n- x\n> under n\n> under b .2\n> under c\n> under b\n= b\n- x\n= c\n> see b\n"
        self.assertEqual(last(read(text), above(0, 1)), [1, 1, 1, 1])

    def test_no_such_entry_or_sense(self):
        text = "= a\n- x\n- y\n= b\n> see a\n"
        calls = [above(0, 0), above(0, 3), above(0, 4294967295), above(1, 1), above(1, 0), above(2, 1),
                 above(4294967295, 1)]
        self.assertEqual(ask(read(text), *calls, above(0, 1), above(0, 2))[1:], [[-6]] * 7 + [[0], [0]])
        self.assertEqual(ask(above(0, 1), above(0, 0)), [[-6], [-6]])

    def test_places_are_those_in_the_order_that_there_is(self):
        text = "= a\n- x\n> under b\n= b\n- x\n> under c\n= c\n- x\n"
        self.assertEqual(ask(read(text), letters("c b a"), above(2, 1), above(0, 1))[2:], [[2, 1, 1, 1, 0, 1, 2], [0]])


class CommonTest(unittest.TestCase):
    def test_the_nearest_above_both(self):
        text = "= cat\n- x\n> under pet\n= dog\n- x\n> under pet\n= pet\n- x\n> under thing\n= thing\n- x\n"
        self.assertEqual(ask(read(text), common(0, 1, 1, 1), common(0, 1, 3, 1), common(2, 1, 0, 1))[1:],
                         [[0, 2, 1, 1, 1], [0, 3, 1, 2, 0], [0, 2, 1, 0, 1]])

    def test_the_sense_itself(self):
        self.assertEqual(last(read("= a\n- x\n- y\n> under a\n"), common(0, 2, 0, 2)), [0, 0, 2, 0, 0])
        self.assertEqual(last(read("= a\n- x\n- y\n> under a\n"), common(0, 2, 0, 1)), [0, 0, 1, 1, 0])

    def test_the_fewest_together(self):
        text = ("= a\n- x\n> under m\n= b\n- x\n> under n\n= m\n- x\n> under m .2\n- y\n> under top\n"
                "= n\n- x\n> under m .2\n= top\n- x\n= z\n- x\n")
        self.assertEqual(last(read(text), common(0, 1, 1, 1)), [0, 2, 2, 2, 2])

    def test_of_such_the_fewest_from_the_first(self):
        text = ("= a\n- x\n> under p\n> under q\n= b\n- x\n> under q\n> under r\n= p\n- x\n> under p .2\n- y\n"
                "= q\n- x\n> under p .2\n= r\n- x\n> under p\n= c\n- x\n> under d\n= d\n- x\n> under c\n")
        self.assertEqual(last(read(text), common(0, 1, 1, 1)), [0, 5, 1, 1, 1])
        two = ("= a\n- x\n> under p\n> under s\n= b\n- x\n> under q\n> under r\n= p\n- x\n= q\n- x\n> under p\n"
               "= r\n- x\n= s\n- x\n> under r\n")
        self.assertEqual(last(read(two), common(0, 1, 1, 1)), [0, 2, 1, 1, 2])
        self.assertEqual(last(read(two), common(1, 1, 0, 1)), [0, 4, 1, 1, 2])

    def test_then_by_places_and_numbers(self):
        text = ("= m\n- x\n> under z\n> under b .2\n> under b\n= n\n- x\n> under b .2\n> under b\n> under z\n"
                "= b\n- x\n- y\n= z\n- x\n")
        self.assertEqual(last(read(text), common(1, 1, 2, 1)), [0, 0, 1, 1, 1])
        self.assertEqual(last(read(text.replace("> under b\n", "")), common(1, 1, 2, 1)), [0, 0, 2, 1, 1])
        self.assertEqual(last(read(text), letters("z"), common(2, 1, 3, 1)), [0, 0, 1, 1, 1])

    def test_the_ring_of_two(self):
        text = "= a\n- x\n> under b\n= b\n- x\n> under a\n"
        self.assertEqual(ask(read(text), common(0, 1, 1, 1), common(1, 1, 0, 1))[1:],
                         [[0, 0, 1, 0, 1], [0, 1, 1, 0, 1]])

    def test_there_is_none(self):
        text = "= a\n- x\n> under c\n- y\n= b\n- x\n> like a\n> part c\n= c\n- x\n"
        self.assertEqual(ask(read(text), common(0, 1, 1, 1), common(0, 2, 0, 1), common(1, 1, 2, 1))[1:], [[-5]] * 3)

    def test_no_such_entry_or_sense(self):
        text = "= a\n- x\n= b\n- x\n= c\n"
        for wrong in ((0, 0, 1, 1), (0, 1, 1, 0), (0, 2, 1, 1), (0, 1, 1, 2), (3, 1, 0, 1), (0, 1, 3, 1), (2, 1, 0, 1),
                      (0, 1, 2, 1), (4294967295, 1, 0, 1), (0, 1, 0, 4294967295), (2, 0, 2, 0)):
            self.assertEqual(last(read(text), common(*wrong)), [-6], wrong)
        self.assertEqual(last(read(text), common(0, 1, 1, 1)), [-5])
        self.assertEqual(ask(common(0, 1, 0, 1)), [[-6]])


class NothingChangesTest(unittest.TestCase):
    def test_a_refusal_changes_nothing(self):
        text = "= a\n- x\n> under b\n= b\n- y\n= c\n> see c\n= d\n"
        asked = [follow(0), above(0, 1), common(0, 1, 1, 1), faults()]
        refused = [follow(2), follow(3), follow(9), above(0, 9), above(9, 1), common(0, 1, 1, 9)]
        given = ask(read(text), *asked, *refused, *asked)
        self.assertEqual(given[5:11], [[-4], [-5], [-6], [-6], [-6], [-6]])
        self.assertEqual(given[11:], given[1:5])


if __name__ == "__main__":
    unittest.main()
