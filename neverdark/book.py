"""The book of a hand: what was asked for and seen done, line by line."""

from neverdark.errors import BadText
from neverdark.names import is_number


def entry_line(entry):
    """Return the line of an entry, with its newline."""
    word, k, moment = entry
    return f"{word} {k} {moment}\n"


def is_entry(entries, words):
    """Tell if the words are those of a line behind the ones with these entries."""
    if len(words) != 3 or not is_number(words[1]) or not is_number(words[2]):
        return False
    last = entries[-1][2] if entries else 0
    if len(entries) % 2 == 0:
        return words[0] == "asked" and int(words[2]) > last and int(words[1]) == len(entries) // 2 + 1
    return words[0] == "done" and int(words[2]) >= last and int(words[1]) == entries[-1][1]


def read_book(text):
    """Return the list of the entries of the whole lines; what stands behind the last newline is dropped."""
    entries = []
    for at, line in enumerate(text.split("\n")[:-1], start=1):
        words = line.split(" ")
        if not is_entry(entries, words):
            raise BadText(at)
        entries.append((words[0], int(words[1]), int(words[2])))
    return entries
