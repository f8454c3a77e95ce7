"""10.1 and 10.2: the book of a hand."""

import unittest

from neverdark.book import entry_line, read_book
from neverdark.errors import BadText

BOOK = "asked 1 3\ndone 1 3\nasked 2 4\ndone 2 17\nasked 3 100\ndone 3 9999\nasked 4 10000\ndone 4 99999\n"
ENTRIES = [("asked", 1, 3), ("done", 1, 3), ("asked", 2, 4), ("done", 2, 17), ("asked", 3, 100), ("done", 3, 9999),
           ("asked", 4, 10000), ("done", 4, 99999)]
LINES = BOOK.split("\n")[:-1]


class Books(unittest.TestCase):
    def assert_bad(self, text, line):
        with self.assertRaises(BadText) as caught:
            read_book(text)
        self.assertEqual(caught.exception.line, line, text)


class EntryLineTest(Books):
    def test_lines(self):
        self.assertEqual(entry_line(("asked", 1, 3)), "asked 1 3\n")
        self.assertEqual(entry_line(("done", 6, 10000)), "done 6 10000\n")
        self.assertEqual(entry_line(("asked", 12, 0)), "asked 12 0\n")

    def test_reading_gives_the_entries_back(self):
        for size in range(len(ENTRIES) + 1):
            text = "".join([entry_line(entry) for entry in ENTRIES[:size]])
            self.assertEqual(text, "".join([f"{line}\n" for line in LINES[:size]]))
            self.assertEqual(read_book(text), ENTRIES[:size])


class ReadBookTest(Books):
    def test_every_beginning(self):
        for size in range(len(BOOK) + 1):
            text = BOOK[:size]
            self.assertEqual(read_book(text), ENTRIES[:text.count("\n")], text)

    def test_no_whole_line(self):
        for text in ("", " ", "x", "asked 1 3", "done", "asked 1 3\r", "\t", "asked 1 3 "):
            self.assertEqual(read_book(text), [])

    def test_the_list_may_be_changed(self):
        read_book(BOOK).clear()
        self.assertEqual(read_book(BOOK), ENTRIES)

    def test_faults(self):
        """Each fault in each line: an error when it is whole, nothing when it is the last one and not whole."""
        for at, line in enumerate(LINES):
            word, k, moment = line.split(" ")
            before = "".join([f"{other}\n" for other in LINES[:at]])
            others = ["done" if word == "asked" else "asked", "ask", "Asked", "Done", "", f"{word}s", word.upper(), "0"]
            wrong = [f"{other} {k} {moment}" for other in others]
            numbers = [str(int(k) + 1), str(int(k) - 1), "0", f"0{k}", f"+{k}", f"-{k}", f"{k}.0", "x", "", "\u0661",
                       "000001", "100000", f"{k}_0", f"{k}\r"]
            wrong.extend([f"{word} {other} {moment}" for other in numbers])
            moments = [f"0{moment}", f"+{moment}", f"-{moment}", "123456", "100000", f"{moment}.0", "x", "", "-1",
                       "\u0663", "\uff13", f"{moment}_0", f"{moment}\r", f"{moment}\x0b", "00"]
            wrong.extend([f"{word} {k} {other}" for other in moments])
            wrong.extend([f"{word}  {k} {moment}", f"{word} {k}  {moment}", f" {line}", f"{line} ", f"{line}\t", "", " ",
                          f"{word}{k} {moment}", f"{word} {k}{moment}", f"{word} {k}", word, f"{line} {moment}",
                          f"{word}\t{k} {moment}", f"{word} {k}\t{moment}", f"{word} {k},{moment}",
                          f"{word}\xa0{k} {moment}", f"{line}{line}", f"{line} {line}"])
            for other in wrong:
                for behind in ("", "x", f"{line}\n", "nonsense\n", "\n"):
                    self.assert_bad(f"{before}{other}\n{behind}", at + 1)
                self.assertEqual(read_book(f"{before}{other}"), ENTRIES[:at])

    def test_moments(self):
        for text, line in [("asked 1 0\n", 1), ("asked 1 1\ndone 1 0\n", 2), ("asked 1 5\ndone 1 4\n", 2),
                           ("asked 1 5\ndone 1 5\nasked 2 5\n", 3), ("asked 1 5\ndone 1 7\nasked 2 7\n", 3),
                           ("asked 1 5\ndone 1 7\nasked 2 6\n", 3), ("asked 1 5\ndone 1 7\nasked 2 0\n", 3),
                           ("asked 1 5\ndone 1 7\nasked 2 8\ndone 2 7\n", 4),
                           ("asked 1 99999\ndone 1 99999\nasked 2 99999\n", 3)]:
            self.assert_bad(text, line)
            self.assertEqual(len(read_book(text[:-1])), line - 1)
        for text in ("asked 1 1\n", "asked 1 1\ndone 1 1\n", "asked 1 1\ndone 1 1\nasked 2 2\n",
                     "asked 1 99999\ndone 1 99999\n"):
            self.assertEqual(len(read_book(text)), text.count("\n"))

    def test_the_order_of_the_lines(self):
        for at in range(len(LINES) - 1):
            turned = LINES[:at] + [LINES[at + 1], LINES[at]] + LINES[at + 2:]
            self.assert_bad("\n".join(turned) + "\n", at + 1)
        for at in range(len(LINES)):
            doubled = LINES[:at] + [LINES[at]] + LINES[at:]
            self.assert_bad("\n".join(doubled) + "\n", at + 2)
        for at in range(len(LINES) - 1):
            missing = LINES[:at] + LINES[at + 1:]
            self.assert_bad("\n".join(missing) + "\n", at + 1)

    def test_the_first_wrong_line_counts(self):
        self.assert_bad("asked 1 3\ndone 1 2\nasked 3 1\n\n", 2)
        self.assert_bad("\n\n", 1)
        self.assert_bad(BOOK + "\n", 9)
        self.assert_bad(BOOK + "x\nasked 5 99999\n", 9)

    def test_newlines_of_other_kinds(self):
        for mark in ("\r", "\x0b", "\x0c", "\x1c", "\x85", "\u2028"):
            self.assertEqual(read_book(f"asked 1 3{mark}"), [])
            self.assert_bad(f"asked 1 3{mark}\n", 1)
            self.assert_bad(f"asked 1 3{mark}done 1 3\n", 1)

    def test_many_deeds(self):
        lines = []
        for k in range(1, 41):
            lines.extend([f"asked {k} {k}\n", f"done {k} {k}\n"])
        self.assertEqual(len(read_book("".join(lines))), 80)


if __name__ == "__main__":
    unittest.main()
