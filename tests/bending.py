"""Texts bent in every way, and where the first item stands that no right text can have there."""

import random

ODD = ("", "-", "/", ":", "+1", "-0", "00", "01", "-1", "0", "1", "x", "1.0", "1" * 61, "\u0661", "1\n", "\t1", "1_0")


def wrong_item(text, is_right, ends):
    """The index that the text's error must tell, or None for a right text; a row of items can
    stand if it is right with one of the ends."""
    if is_right(text):
        return None
    items = text.split(" ")
    for at in range(len(items)):
        begun = " ".join(items[:at + 1])
        if not any(is_right(begun + end) for end in ends):
            return at
    return len(items)


def bent(text, chance, odd_items=ODD):
    """Texts that differ from the text by one item, put in, left out, exchanged or told twice."""
    items = text.split(" ")
    found = [text + " ", " " + text, text + " /", text + " / ", text + " :", text.replace(" ", "  ", 1)]
    for at in range(len(items) + 1):
        odd = chance.choice(odd_items)
        found.append(" ".join(items[:at]))
        found.append(" ".join(items[:at] + [odd] + items[at:]))
        if at < len(items):
            found.append(" ".join(items[:at] + items[at + 1:]))
            found.append(" ".join(items[:at] + [odd] + items[at + 1:]))
            found.append(" ".join(items[:at] + [items[at], items[at]] + items[at + 1:]))
            other = chance.randrange(len(items))
            swapped = list(items)
            swapped[at], swapped[other] = items[other], items[at]
            found.append(" ".join(swapped))
    return found


def fixed_chance():
    """Choices that are the same in each run."""
    return random.Random(11)
