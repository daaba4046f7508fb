"""A dictionary said as a text."""

from wordhouse.entries import KINDS
from wordhouse.signs import LINE_END, signs_of


def say_entries(entries):
    """The text of these entries, one behind another."""
    text = []
    for entry in entries:
        text.extend(say_entry(entry))
    return text


def say_entry(entry):
    """An entry's lines, each with its end."""
    lines = signs_of("= ") + say_aim(entry.head, entry.number, 0) + [LINE_END]
    lines.extend(say_pointers(entry.pointers))
    for sense in entry.senses:
        lines.extend(signs_of("- ") + sense.text + [LINE_END])
        lines.extend(say_pointers(sense.pointers))
    return lines


def say_pointers(pointers):
    """The lines of these pointers."""
    lines = []
    for pointer in pointers:
        name = KINDS[pointer.kind]
        aim = say_aim(pointer.head, pointer.number, pointer.sense)
        lines.extend(signs_of(f"> {name} ") + aim + [LINE_END])
    return lines


def say_aim(head, number, sense):
    """A head, with a number and a sense's number where they aren't 0."""
    aim = list(head)
    if number != 0:
        aim.extend(signs_of(f" #{number}"))
    if sense != 0:
        aim.extend(signs_of(f" .{sense}"))
    return aim
