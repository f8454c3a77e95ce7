"""Numbers, ids, labels and names as they are written, and the chains of names."""

DIGITS = "0123456789"
LETTERS = "abcdefghijklmnopqrstuvwxyz0123456789"
MAX_DIGITS = 5
MAX_ID = 4
MAX_LABEL = 8
MAX_LABELS = 4


def is_word(text, letters, most):
    """Tell if the value is a text of 1 to `most` of the letters."""
    # Each character is looked for alone: Python's own tests for digits and
    # letters also take those that are not written 0-9 or a-z.
    return isinstance(text, str) and 1 <= len(text) <= most and all([letter in letters for letter in text])


def is_number(text):
    """Tell if the text is a number as it is written in a line."""
    return is_word(text, DIGITS, MAX_DIGITS) and (text == "0" or text[0] != "0")


def is_id(text):
    """Tell if the text is an id."""
    return is_word(text, LETTERS, MAX_ID)


def is_label(text):
    """Tell if the text is a label."""
    return is_word(text, LETTERS, MAX_LABEL)


def is_name(text):
    """Tell if the text is a name."""
    if not isinstance(text, str):
        return False
    if text == ".":
        return True
    parts = text.split(".")
    return len(parts) <= MAX_LABELS and all([is_label(part) for part in parts])


def labels(name):
    """Return the labels of a name, from the root on."""
    if name == ".":
        return []
    return name.split(".")[::-1]


def ends(name, other):
    """Tell if the name ends with the other one."""
    return other == "." or name == other or name.endswith(f".{other}")


def chain(zones, name):
    """Return the zones that the name ends with, the shortest one first."""
    found = [zone for zone in zones if ends(name, zone)]
    return sorted(found, key=lambda zone: len(labels(zone)))


def zone_of(zones, name):
    """Return the zone of a name: the last one of its chain."""
    return chain(zones, name)[-1]
