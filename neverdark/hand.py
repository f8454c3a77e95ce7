"""The hand: it follows a table of waits, and knows from its book where it is."""

from neverdark.book import entry_line, read_book
from neverdark.errors import NotAllowed
from neverdark.tables import ask_moment


def follows_table(table, count, entries):
    """Tell if the entries are of so many deeds, none of which was asked for before the table lets it."""
    done = []
    for word, k, moment in entries:
        if k > count or (word == "asked" and moment < ask_moment(table, done)):
            return False
        if word == "done":
            done.append(moment)
    return True


class Hand:
    """A hand with a table for so many deeds, and the book that a text begins."""

    def __init__(self, table, count, text):
        self._table = table
        self._count = count
        self._entries = read_book(text)
        if not follows_table(table, count, self._entries):
            raise NotAllowed("book")

    def next(self, moment):
        """Return what there is to do at the moment; a deed to ask for is in the book then."""
        if moment < self._latest():
            raise NotAllowed("time")
        done = self.done()
        k = len(done) + 1
        if k > self._count:
            return ("end",)
        if self._is_open():
            return ("open", k)
        least = ask_moment(self._table, done)
        if moment < least:
            return ("wait", least)
        self._entries.append(("asked", k, moment))
        return ("ask", k)

    def see(self, moment):
        """Write down that the open deed was done at the moment."""
        if not self._is_open():
            raise NotAllowed("deed")
        if moment < self._latest():
            raise NotAllowed("time")
        self._entries.append(("done", self._entries[-1][1], moment))

    def book(self):
        """Return the text of the book."""
        return "".join([entry_line(entry) for entry in self._entries])

    def done(self):
        """Return the tuple of the moments at which deeds were seen done."""
        return tuple([moment for word, _, moment in self._entries if word == "done"])

    def _latest(self):
        """Return the greatest moment in the book: that of its last line."""
        return self._entries[-1][2] if self._entries else 0

    def _is_open(self):
        return len(self._entries) > 0 and self._entries[-1][0] == "asked"
