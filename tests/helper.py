"""How the tests write calls down and take answers apart."""

from wordhouse.dictionary import answers


class Untouchable(list):
    """A list that can be read but not changed, not for a while either."""

    def refuse(self, *args, **kwargs):
        raise AssertionError("what was handed in is changed")

    __setitem__ = __delitem__ = __iadd__ = __imul__ = refuse
    append = clear = extend = insert = pop = remove = reverse = sort = refuse


def signs(text):
    return [ord(sign) for sign in text] if isinstance(text, str) else list(text)


def row(text):
    return [len(text)] + signs(text)


def begins():
    return [0]


def letters(text, passed="", from_end=0):
    return [1, from_end] + row(text) + row(passed)


def key(word):
    return [2] + row(word)


def order(first, second):
    return [3] + row(first) + row(second)


def read(text):
    return [4] + row(text)


def said():
    return [5]


def entry(place):
    return [6, place]


def find(word):
    return [7] + row(word)


def starts(word):
    return [8] + row(word)


def ends(word):
    return [9] + row(word)


def sections():
    return [10]


def rhymes():
    return [11]


def follow(place):
    return [12, place]


def above(place, sense):
    return [13, place, sense]


def common(place, sense, other_place, other_sense):
    return [14, place, sense, other_place, other_sense]


def faults():
    return [15]


def join(text):
    return [16] + row(text)


def counted(text):
    """A text as it is answered: its length, then its signs."""
    return row(text)


def ask(*calls):
    """The answers to these calls, a list of numbers each."""
    handed_in = [number for call in calls for number in call]
    given = answers(Untouchable(handed_in))
    assert type(given) is list and all(type(number) is int for number in given)
    taken = []
    place = 0
    while place < len(given):
        end = place + 1 + given[place]
        taken.append(given[place + 1:end])
        place = end
    assert place == len(given) and len(taken) == len(calls), given
    return taken


def last(*calls):
    """The answer to the last of these calls."""
    return ask(*calls)[-1]
