"""The calls about pointers, ranks and joins beside a second, slower way to the same answers, from fixed seeds."""

import itertools
import unittest

from helper import (above, ask, begins, common, ends, faults, find, follow, join, letters, read, rhymes, said, sections,
                    starts)
from test_model import Draw, Model

KINDS = ["see", "like", "unlike", "under", "part"]


def parse_aim(text):
    head, _, rest = text.partition(" #")
    number = int(rest[0]) if rest else 0
    tail = rest if rest else head
    sense = int(tail.partition(" .")[2] or 0)
    return head.partition(" .")[0], number, sense


def parse(told):
    """An entry's lines as groups: the entry's own pointers under None, then each sense's text and its pointers."""
    groups = [(None, [])]
    for line in told["lines"][1:]:
        if line.startswith("- "):
            groups.append((line[2:], []))
        else:
            kind, _, aim = line[2:].partition(" ")
            groups[-1][1].append((kind, *parse_aim(aim)))
    return groups


def texts(told):
    return [text for text, _ in parse(told)[1:]]


def tell(pointer):
    kind, head, number, sense = pointer
    return "> %s %s%s%s" % (kind, head, " #%d" % number if number else "", " .%d" % sense if sense else "")


class PointerModel(Model):
    def ranks(self, word):
        return [piece[0] for piece in self.pieces(word)]

    def ends(self, word):
        turned = self.ranks(word)[::-1]
        places = [place for place, told in enumerate(self.placed())
                  if self.ranks(told["head"])[::-1][:len(turned)] == turned]
        return [len(places)] + places

    def sections(self):
        firsts = [self.ranks(told["head"])[0] for told in self.placed() if self.ranks(told["head"])]
        groups = [(rank, len(list(group))) for rank, group in itertools.groupby(firsts)]
        return [len(groups)] + [number for group in groups for number in group]

    def rhymes(self):
        rows = sorted((self.ranks(told["head"])[::-1], place) for place, told in enumerate(self.placed()))
        return [len(rows)] + [place for _, place in rows]

    def lead(self, entries, pointer):
        """The entry's place and the sense's number (0 for a see without one), or None."""
        kind, head, number, sense = pointer
        for place, told in enumerate(entries):
            if (told["head"], told["number"]) == (head, number):
                if kind == "see" and sense == 0:
                    return place, 0
                return (place, sense or 1) if (sense or 1) <= len(texts(told)) else None
        return None

    def follow(self, place):
        entries, passed = self.placed(), 0
        if place >= len(entries):
            return [-6]
        while not texts(entries[place]):
            pointers = parse(entries[place])[0][1]
            aim = self.lead(entries, pointers[0]) if pointers else None
            if aim is None:
                return [-5]
            place, passed = aim[0], passed + 1
            if passed > len(entries):
                return [-4]
        return [0, place, passed]

    def distances(self, kind):
        """The fewest steps between any two senses, made shorter until nothing gets shorter."""
        entries = self.placed()
        steps, edges = {}, []
        for place, told in enumerate(entries):
            for number, (_, pointers) in enumerate(parse(told)):
                if number:
                    steps[(place, number), (place, number)] = 0
                    edges += [((place, number), self.lead(entries, pointer)) for pointer in pointers
                              if pointer[0] == kind and self.lead(entries, pointer)]
        senses = [start for start, _ in steps]
        changed = True
        while changed:
            changed = False
            for start, (one, other) in itertools.product(senses, edges):
                if (start, one) in steps and steps[start, one] + 1 < steps.get((start, other), 10 ** 6):
                    steps[start, other] = steps[start, one] + 1
                    changed = True
        return steps

    def above(self, place, number):
        steps = self.distances("under")
        start = (place, number)
        if (start, start) not in steps:
            return [-6]
        rows = sorted((count, *aim) for (one, aim), count in steps.items() if one == start != aim)
        return [len(rows)] + [each for count, at, sense in rows for each in (at, sense, count)]

    def common(self, *numbers):
        steps = self.distances("under")
        first, second = numbers[:2], numbers[2:]
        if (first, first) not in steps or (second, second) not in steps:
            return [-6]
        rows = sorted((steps[first, aim] + steps[second, aim], steps[first, aim], aim, steps[second, aim])
                      for _, aim in steps if (first, aim) in steps and (second, aim) in steps)
        return [0, *rows[0][2], rows[0][1], rows[0][3]] if rows else [-5]

    def which(self, distances, own, pointer):
        entries = self.placed()
        kind, aim = pointer[0], self.lead(entries, pointer)
        if aim is None:
            return 1
        if kind == "see":
            return 4 if self.follow(own[0]) == [-4] else 0
        if kind in ("like", "unlike"):
            back = parse(entries[aim[0]])[aim[1]][1]
            return 0 if any(each[0] == kind and self.lead(entries, each) == own for each in back) else 2
        return 3 if (aim, own) in distances[kind] else 0

    def faults(self):
        distances = {kind: self.distances(kind) for kind in ("under", "part")}
        rows = [(self.which(distances, (place, number), pointer), place, number, at)
                for place, told in enumerate(self.placed())
                for number, (_, pointers) in enumerate(parse(told)) for at, pointer in enumerate(pointers)]
        rows = [each for each in rows if each[0]]
        return [len(rows)] + [number for each in rows for number in each]

    def join(self, text):
        first, second = self.placed(), PointerModel()
        second.__dict__.update(self.__dict__)
        answer = second.read(text)
        if answer[0] == -3:
            return answer
        second = second.placed()
        pairs = [[told, None] for told in first]
        for told in second:
            for pair in pairs[:len(first)]:
                shared = set(texts(told)) & set(texts(pair[0])) or not texts(told) + texts(pair[0])
                if pair[1] is None and pair[0]["head"] == told["head"] and shared:
                    pair[1] = told
                    break
            else:
                pairs.append([None, told])
        return self.take_pairs(first, second, pairs)

    def take_pairs(self, first, second, pairs):
        heads = [(one or other)["head"] for one, other in pairs]
        numbers = [0 if heads.count(head) == 1 else heads[:at].count(head) + 1 for at, head in enumerate(heads)]
        senses = [list(dict.fromkeys((texts(one) if one else []) + (texts(other) if other else [])))
                  for one, other in pairs]

        def retell(which, entries, pointer):
            kind, head, number, sense = pointer
            aim = self.lead(entries, ("see", head, number, sense))
            if aim is None:
                return tell(pointer)
            at = [pair[which] is entries[aim[0]] for pair in pairs].index(True)
            return tell((kind, head, numbers[at], sense and senses[at].index(texts(entries[aim[0]])[sense - 1]) + 1))

        joined = []
        for at, pair in enumerate(pairs):
            lines = ["= " + heads[at] + (" #%d" % numbers[at] if numbers[at] else "")]
            for text in [None] + senses[at]:
                told = [retell(which, entries, pointer) for which, entries in enumerate((first, second)) if pair[which]
                        for own, pointers in parse(pair[which]) if own == text for pointer in pointers]
                lines += ([] if text is None else ["- " + text]) + list(dict.fromkeys(told))
                if len(set(told)) > 12:
                    return [-7]
            joined.append({"head": heads[at], "number": numbers[at], "lines": lines, "senses": senses[at]})
        if len(joined) > 300 or max(numbers, default=0) > 9 or any(len(each) > 12 for each in senses):
            return [-7]
        self.entries = joined
        return [len(joined)]


class PointerDraw(Draw):
    """Few heads and few texts, so that much is alike and pointers often lead somewhere."""

    def head(self):
        return self.random.choice(["a", "b", "c", "ch", "-", "a-b", "A"])

    def aim(self, senses):
        number = self.random.choice([0, 0, 0, 1, 1, 2, 3])
        sense = self.random.choice([0, 0, 1, 2, 3])
        return tell(("", self.head(), number, sense))[3:]

    def some(self, counts):
        return self.random.choice([9, 12]) if self.random.random() < 0.02 else self.random.choice(counts)

    def distinct(self, draw, count):
        return list(dict.fromkeys(draw() for _ in range(count)))

    def entry(self, name):
        lines = ["= " + name]
        if self.random.random() < 0.45:
            lines += self.distinct(lambda: "> see " + self.aim(True), self.some([0, 1, 2]))
        else:
            for text in self.distinct(lambda: self.random.choice("xxyyzwvutsrqponmlk"), self.some([1, 2, 3]) * 2):
                lines += ["- " + text] + self.distinct(
                    lambda: "> %s %s" % (self.random.choice(KINDS[1:]), self.aim(True)), self.some([0, 1, 2, 3]))
        return "".join(line + "\n" for line in lines)

    def text(self):
        names = []
        for head in self.distinct(self.head, self.random.randrange(1, 7)):
            alike = self.random.choice([1, 1, 1, 2, 3, 5])
            names += [head] if alike == 1 else [head + " #%d" % number for number in range(1, alike + 1)]
        self.random.shuffle(names)
        return self.nearly("".join(self.entry(name) for name in names), "=->#. 0129\nab", 0.1)


class PointerModelTest(unittest.TestCase):
    def draw_call(self, draw, model):
        """A call as it is handed in, and what the model answers to it."""
        which = draw.random.choice([ends, starts, find, sections, rhymes, follow, follow, follow, above, above, common,
                                    common, faults, join, join, said, read, letters])
        if draw.random.random() < 0.01:
            return begins(), model.begins()
        if which in (read, join):
            told = (draw.text(),)
        elif which is letters:
            told = (*draw.letters(), draw.random.randrange(2))
        elif which in (ends, starts, find):
            told = (draw.word(3),)
        elif which in (follow, above, common):
            count = len(model.entries) + 1
            pair = [draw.random.randrange(count), draw.random.randrange(4), draw.random.randrange(count),
                    draw.random.randrange(4)]
            told = tuple(pair[:{follow: 1, above: 2, common: 4}[which]])
        else:
            told = ()
        return which(*told), getattr(model, which.__name__)(*told)

    def test_the_same_answers(self):
        seen = {}
        for seed in range(120):
            draw, model = PointerDraw(seed), PointerModel()
            text = draw.text()
            calls, expected = [read(text)], [model.read(text)]
            for _ in range(20):
                call, answer = self.draw_call(draw, model)
                calls.append(call)
                expected.append(answer)
                seen[(call[0], min(answer[0], 0))] = True
                if call[0] == 15:
                    seen.update({("wrong", which): True for which in answer[1::4]})
            for call, answer, model_answer in zip(calls, ask(*calls), expected):
                self.assertEqual(answer, model_answer, (seed, call))
        for each in [(12, 0), (12, -4), (12, -5), (12, -6), (13, 0), (13, -6), (14, 0), (14, -5), (14, -6), (16, 0),
                     (16, -3), (16, -7), ("wrong", 1), ("wrong", 2), ("wrong", 3), ("wrong", 4)]:
            self.assertIn(each, seen)


if __name__ == "__main__":
    unittest.main()
