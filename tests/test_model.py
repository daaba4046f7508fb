"""The calls beside a second, slower way to the same answers, on inputs that are drawn from fixed seeds."""

import random
import re
import unittest
from functools import cmp_to_key

from helper import ask, begins, entry, find, key, letters, order, read, said, starts

# A head ends where what may stand behind it begins; that its blanks are right is looked at by itself.
ENTRY_LINE = re.compile(r"= (?P<head>[^#.]{1,40}?)(?: #(?P<number>[1-9]))?")
SENSE_LINE = re.compile(r"- .{1,200}")
POINTER_LINE = re.compile(r"> (?P<kind>see|like|unlike|under|part) (?P<head>[^#.]{1,40}?)(?: #[1-9])?"
                          r"(?: \.(?:[1-9]|1[0-2]))?")


def well_spaced(head):
    return "" not in head.split(" ")


class Model:
    def __init__(self):
        self.begins()

    def begins(self):
        self.forms, self.letter_count, self.passed, self.from_end, self.entries = {}, 0, "", 0, []
        return [0]

    def letters(self, text, passed, from_end):
        places, fault = {}, None
        rank = variant = form = 0
        for found in re.finditer(r"([^ /,\n]*)([ /,\n]|$)", text):
            told, end, start = found.group(1), found.group(2), found.start()
            if len(told) > 4:
                fault = start + 4
            elif end == "\n":
                fault = found.end() - 1
            elif not told or told in places or len(places) == 400:
                fault = start
            if fault is not None:
                return [-3, fault]
            places[told] = (rank, variant, form)
            form += 1
            if end == "/":
                variant, form = variant + 1, 0
            elif end == " ":
                rank, variant, form = rank + 1, 0, 0
            elif end == "":
                break
        if any(sign in places for sign in passed):
            return [-4]
        self.forms, self.letter_count, self.passed, self.from_end = places, rank + 1, passed, from_end
        return [rank + 1]

    def pieces(self, word):
        """The pieces by one regular expression whose longer choices stand first."""
        choices = sorted(self.forms, key=len, reverse=True)
        pattern = "|".join([re.escape(form) for form in choices] + ["."])
        found = [piece.group() for piece in re.finditer(pattern, word, re.DOTALL)]
        kept = [piece for piece in found if piece in self.forms or piece not in self.passed]
        return [self.forms.get(piece) or (self.letter_count + ord(piece), 0, 0) for piece in kept]

    def key(self, word):
        pieces = self.pieces(word)
        return [len(pieces)] + [piece[which] for which in range(3) for piece in pieces]

    def order(self, first, second):
        return [0, self.compare(first, second)]

    def compare(self, first, second):
        one, other = self.pieces(first), self.pieces(second)
        step = -1 if self.from_end else 1
        rows = [([p[0] for p in one], [p[0] for p in other]),
                ([p[1] for p in one][::step], [p[1] for p in other][::step]),
                ([p[2] for p in one], [p[2] for p in other]),
                ([ord(sign) for sign in first], [ord(sign) for sign in second])]
        for left, right in rows:
            for a, b in zip(left, right):
                if a != b:
                    return -1 if a < b else 1
            if len(left) != len(right):
                return -1 if len(left) < len(right) else 1
        return 0

    def read(self, text):
        *lines, rest = text.split("\n")
        entries, place = [], 0
        for line in lines:
            kind = self.take(entries, line, place)
            if kind:
                return [-3, kind, place]
            place += len(line) + 1
        if rest:
            return [-3, 1, len(text)]
        names = [(told["head"], told["number"]) for told in entries]
        for at, (head, number) in enumerate(names):
            alike = len([name for name in names if name[0] == head])
            if (head, number) in names[:at]:
                return [-3, 2, entries[at]["place"]]
            if number not in (range(1) if alike == 1 else range(1, alike + 1)):
                return [-3, 3, entries[at]["place"]]
        self.entries = entries
        return [len(entries)]

    def take(self, entries, line, place):
        told, sense, pointer = [kind.fullmatch(line) for kind in (ENTRY_LINE, SENSE_LINE, POINTER_LINE)]
        if (told or pointer) and not well_spaced((told or pointer)["head"]):
            return 1
        if told:
            entries.append({"head": told["head"], "number": int(told["number"] or 0), "place": place, "lines": [line],
                            "senses": []})
            return 5 if len(entries) > 300 else 0
        if not entries or not (sense or pointer):
            return 1
        now = entries[-1]
        group = now["lines"][1:]
        if sense:
            if group and not now["senses"]:
                return 1
            kind = 4 if line in now["senses"] else 5 if len(now["senses"]) == 12 else 0
            now["senses"] += [] if kind else [line]
        else:
            if (pointer["kind"] == "see") == bool(now["senses"]):
                return 1
            while any(each.startswith("- ") for each in group):
                group = group[1:]
            kind = 4 if line in group else 5 if len(group) == 12 else 0
        now["lines"] += [] if kind else [line]
        return kind

    def placed(self):
        def compare(one, other):
            return self.compare(one["head"], other["head"]) or one["number"] - other["number"]
        return sorted(self.entries, key=cmp_to_key(compare))

    def said(self):
        text = "".join(line + "\n" for told in self.placed() for line in told["lines"])
        return [len(text)] + [ord(sign) for sign in text]

    def entry(self, place):
        if place >= len(self.entries):
            return [-6]
        text = "".join(line + "\n" for line in self.placed()[place]["lines"])
        return [len(text)] + [ord(sign) for sign in text]

    def find(self, word):
        return [len([told for told in self.entries if told["head"] == word]),
                len([told for told in self.entries if self.compare(told["head"], word) < 0])]

    def starts(self, word):
        ranks = [piece[0] for piece in self.pieces(word)]
        places = [place for place, told in enumerate(self.placed())
                  if [piece[0] for piece in self.pieces(told["head"])][:len(ranks)] == ranks]
        return [len(places)] + places


class Draw:
    """Inputs that are often right, and else nearly so."""

    def __init__(self, seed):
        self.random = random.Random(seed)

    def word(self, most=5):
        return "".join(self.random.choice("aabbcchA-'x ") for _ in range(self.random.randrange(most + 1)))

    def head(self):
        drawn = self.word().strip(" ") if self.random.random() < 0.98 else self.word()
        return drawn or self.random.choice("abch")

    def letters(self):
        forms = ["a", "A", "b", "c", "h", "ch", "hc", "abc", "abca", "-a", "x", "ab"]
        self.random.shuffle(forms)
        text = "a"
        for form in forms[:self.random.randrange(1, 10)]:
            text += self.random.choice("   //,") + form
        if text.startswith("a ") and "a" in forms:
            text = text[2:] if self.random.random() < 0.9 else text
        return self.nearly(text, " /,\nabc", 0.1), self.random.choice(["", "", "-", "-'", "-' ", "x"])

    def aim(self, senses):
        text = self.head()
        if self.random.random() < 0.4:
            text += " #%d" % self.random.randrange(1, 10)
        if senses and self.random.random() < 0.4:
            text += " .%d" % self.random.randrange(1, 13)
        return text

    def some(self, counts):
        return 13 if self.random.random() < 0.01 else self.random.choice(counts)

    def entry(self, name):
        lines = ["= " + name]
        if self.random.random() < 0.4:
            lines += ["> see " + self.aim(True) for _ in range(self.some([0, 1, 2, 2]))]
        else:
            for sense in range(self.some([1, 2, 3, 3])):
                lines += ["- %s%d" % (self.word(), sense)]
                lines += ["> " + self.random.choice(["like", "unlike", "under", "part"]) + " " + self.aim(True)
                          for _ in range(self.some([0, 0, 1, 2]))]
        return "".join(line + "\n" for line in lines)

    def text(self):
        heads = sorted({self.head() for _ in range(self.random.randrange(9))})
        names = []
        for head in heads:
            alike = self.random.choice([1, 1, 1, 2, 3])
            names += [head] if alike == 1 else [head + " #%d" % number for number in range(1, alike + 1)]
        self.random.shuffle(names)
        if names and self.random.random() < 0.1:
            names.append(self.random.choice(names))
        return self.nearly("".join(self.entry(name) for name in names), "=->#. 0129\nab", 0.4)

    def nearly(self, text, pool, chance):
        if self.random.random() >= chance:
            return text
        at = self.random.randrange(len(text) + 1)
        return self.random.choice([text[:at] + self.random.choice(pool) + text[at:],
                                   text[:at] + self.random.choice(pool) + text[at + 1:],
                                   text[:at] + text[at + 1:], text[:at],
                                   text + "".join(text.splitlines(True)[-1:])])


class ModelTest(unittest.TestCase):
    def draw_call(self, draw, model):
        """A call as it is handed in, and what the model answers to it."""
        which = draw.random.choice(["letters", "key", "order", "order", "read", "read", "said", "entry", "find", "starts"])
        if draw.random.random() < 0.02:
            return begins(), model.begins()
        if which == "letters":
            (text, passed), from_end = draw.letters(), draw.random.randrange(2)
            return letters(text, passed, from_end), model.letters(text, passed, from_end)
        if which == "order":
            first, second = draw.word(), draw.word()
            return order(first, second), model.order(first, second)
        if which == "read":
            text = draw.text()
            return read(text), model.read(text)
        if which == "said":
            return said(), model.said()
        if which == "entry":
            place = draw.random.randrange(9)
            return entry(place), model.entry(place)
        word = draw.word(2 if which == "starts" else 5)
        return {"key": key, "find": find, "starts": starts}[which](word), getattr(model, which)(word)

    def test_the_same_answers(self):
        seen = {}
        for seed in range(300):
            draw, model = Draw(seed), Model()
            calls, expected = [], []
            for _ in range(20):
                call, answer = self.draw_call(draw, model)
                calls.append(call)
                expected.append(answer)
                if answer[0] < 0:
                    seen[(call[0], *answer[:2])] = True
            given = ask(*calls)
            for call, answer, model_answer in zip(calls, given, expected):
                self.assertEqual(answer, model_answer, (seed, call))
        for refusal in [(4, -3, 1), (4, -3, 2), (4, -3, 3), (4, -3, 4), (4, -3, 5), (1, -4), (6, -6)]:
            self.assertIn(refusal, seen)


if __name__ == "__main__":
    unittest.main()
