"""The largest that may be handed in: what is answered there, and that it comes in reasonable time."""

import time
import unittest

from helper import (above, ask, common, counted, ends, faults, find, follow, join, letters, read, rhymes, said,
                    sections, starts)

# Some times what is needed here, and far less than a way that isn't thought out would need.
SECONDS = 20


def sign(number):
    """One of 300 signs that stand in this order without letters."""
    return chr(256 + number)


def under_ring():
    """300 entries of three senses each, one ring by under through all of them."""
    text = ""
    for number in range(300):
        text += "= %s\n- x\n> under %s .2\n- y\n> under %s .3\n- z\n> under %s\n" % (
            sign(number), sign(number), sign(number), sign((number + 1) % 300))
    return text


def full_text():
    """20000 signs with 300 entries, one of them with 12 senses, one with 12 pointers of a sense, one with 12 sees."""
    text = "= a\n" + "".join("- %d\n" % sense for sense in range(12))
    text += "= b\n- x\n" + "".join("> part a .%d\n" % sense for sense in range(1, 13))
    text += "= c\n" + "".join("> see a .%d\n" % sense for sense in range(1, 13))
    for number in range(296):
        text += "= %s\n- %s\n" % (sign(number), "x" * 59)
    rest = 20000 - len(text) - len("= \uffff\n- \n")
    return text + "= \uffff\n- " + "x" * rest + "\n"


class BoundsTest(unittest.TestCase):
    def timely(self, *calls):
        self.assertLessEqual(len(calls), 100)
        self.assertLessEqual(sum(len(call) for call in calls), 30000)
        start = time.process_time()
        given = ask(*calls)
        self.assertLess(time.process_time() - start, SECONDS)
        return given

    def test_a_full_text(self):
        text = full_text()
        self.assertEqual(len(text), 20000)
        given = self.timely(read(text), said(), join(text[:9000].rpartition("= ")[0]), said(), faults(), sections(),
                            rhymes(), follow(2), follow(1), above(0, 12), common(0, 12, 0, 11), starts(""), ends(""))
        every = list(range(300))
        self.assertEqual(given[:5], [[300], counted(text), [300], counted(text), [0]])
        self.assertEqual(given[5][:7], [300, 97, 1, 98, 1, 99, 1])
        self.assertEqual(given[6:], [[300] + every, [0, 0, 1], [0, 1, 0], [0], [-5], [300] + every, [300] + every])

    def test_joined_a_text_may_be_longer_than_one_that_is_read(self):
        first = "".join("= %02d\n- %s\n" % (number, "x" * 192) for number in range(100))
        second = "".join("= %02d\n- %s\n" % (number, "y" * 192) for number in range(40))
        given = self.timely(read(first), join(second), said())
        self.assertEqual([given[1], len(given[2]), given[2][0]], [[140], 28241, 28240])
        self.assertEqual(given[2][1:9], [ord(each) for each in "= 00 #1\n"])

    def test_a_hundred_times_the_wrong_pointers_of_a_ring(self):
        given = self.timely(read(under_ring()), *[faults()] * 99)
        wrong = [number for place in range(300) for sense in (1, 2, 3) for number in (3, place, sense, 0)]
        self.assertEqual(given[1:], [[900] + wrong] * 99)

    def test_a_hundred_times_what_stands_above(self):
        given = self.timely(read(under_ring()), *[above(299, 3)] * 50, *[common(0, 1, 299, 3)] * 49)
        steps = [number for count in range(1, 900) for number in ((count - 1) // 3, (count - 1) % 3 + 1, count)]
        self.assertEqual(given[1:51], [[899] + steps] * 50)
        self.assertEqual(given[51:], [[0, 0, 1, 0, 1]] * 49)

    def test_a_hundred_times_round(self):
        text = "".join("= %s\n> see %s\n" % (sign(number), sign((number + 1) % 300)) for number in range(300))
        given = self.timely(read(text), *[faults()] * 50, *[follow(7)] * 49)
        wrong = [number for place in range(300) for number in (4, place, 0, 0)]
        self.assertEqual(given[1:], [[300] + wrong] * 50 + [[-4]] * 49)

    def test_a_hundred_joins(self):
        text = under_ring()
        given = self.timely(read(text), *[join("= %s\n- z\n- w\n> part %s .2\n" % (sign(number), sign(number)))
                                          for number in range(98)], said())
        for number in range(98):
            end, behind = "> under %s\n" % sign(number + 1), "= %s\n" % sign(number + 1)
            text = text.replace(end + behind, end + "- w\n> part %s .4\n" % sign(number) + behind)
        self.assertEqual(given[1:], [[300]] * 98 + [counted(text)])

    def test_a_hundred_times_letters_told_anew(self):
        text = "".join("= %s%s\n" % (sign(number), "x" * 39) for number in range(300))
        turned = letters("x " + sign(1) + " " + sign(0), "-", 1)
        given = self.timely(read(text), *[turned, ends("xx"), find(sign(0)), rhymes()] * 24)
        self.assertEqual(given[1:5] * 24, given[1:])
        self.assertEqual(given[1:5], [[3], [300] + list(range(300)), [0, 1], [300] + list(range(300))])

    def test_pointers_that_are_many(self):
        text = ""
        for number in range(90):
            text += "= %s\n" % sign(number)
            for sense in range(2):
                text += "- %d\n" % sense + "".join("> like %s\n" % sign((number * 7 + each) % 90) for each in range(12))
        text = text[:20000].rpartition("= ")[0]
        given = self.timely(read(text), *[faults()] * 49, *[join("")] * 50)
        self.assertEqual(given[1:50], [given[1]] * 49)
        self.assertEqual(given[50:], [given[0]] * 50)


if __name__ == "__main__":
    unittest.main()
