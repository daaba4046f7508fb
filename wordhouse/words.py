"""What a word is in an order of letters, and which of two words is first."""

from wordhouse.letters import LONGEST_FORM


class WordKey:
    """A word's ranks, variants and forms: three rows of one length."""

    def __init__(self):
        self.ranks = []
        self.variants = []
        self.forms = []


def form_length(letters, word, place):
    """How many signs the longest form at this place has; 0 if none stands there."""
    length = min(LONGEST_FORM, len(word) - place)
    while length > 0 and tuple(word[place:place + length]) not in letters.forms:
        length -= 1
    return length


def word_key(letters, word):
    """The word's key; a sign that is passed over leaves nothing in it."""
    key = WordKey()
    place = 0
    while place < len(word):
        length = form_length(letters, word, place)
        if length > 0:
            add_piece(key, letters.forms[tuple(word[place:place + length])])
            place += length
        else:
            if word[place] not in letters.passed_over:
                add_piece(key, (letters.count + word[place], 0, 0))
            place += 1
    return key


def add_piece(key, piece):
    """Put a piece's rank, variant and form behind those of the pieces before it."""
    key.ranks.append(piece[0])
    key.variants.append(piece[1])
    key.forms.append(piece[2])


def sorting_row(letters, word):
    """What words are compared by: Python compares such rows as the order of words asks."""
    key = word_key(letters, word)
    variants = key.variants
    if letters.from_end == 1:
        variants = list(reversed(variants))
    return (key.ranks, variants, key.forms, word)


def compare_words(letters, first, second):
    """-1 if the first word is before the second, 1 if it is behind it, 0 if they are the same."""
    first_row = sorting_row(letters, first)
    second_row = sorting_row(letters, second)
    if first_row < second_row:
        return -1
    if first_row > second_row:
        return 1
    return 0
