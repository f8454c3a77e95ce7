"""10.3 to 10.7: the hand."""

import random
import unittest

from neverdark.book import entry_line, read_book
from neverdark.errors import BadText, NotAllowed
from neverdark.hand import Hand
from neverdark.tables import run_table

TABLE = ((1, 0, 3), (2, 1, 5))


class Hands(unittest.TestCase):
    def assert_not_allowed(self, word, hand, method, moment):
        """Check that a call of the hand is not allowed and changes nothing."""
        book, done = hand.book(), hand.done()
        with self.assertRaises(NotAllowed) as caught:
            getattr(hand, method)(moment)
        self.assertEqual(caught.exception.word, word)
        self.assert_book(hand, book, done)

    def assert_refused(self, table, count, text):
        with self.assertRaises(NotAllowed) as caught:
            Hand(table, count, text)
        self.assertEqual(caught.exception.word, "book", text)

    def assert_bad(self, table, count, text, line):
        with self.assertRaises(BadText) as caught:
            Hand(table, count, text)
        self.assertEqual(caught.exception.line, line, text)

    def assert_book(self, hand, book, done):
        self.assertEqual(hand.book(), book)
        self.assertEqual(hand.done(), done)

    def assert_next(self, hand, moment, answer):
        """Check an answer that does not change the book."""
        book, done = hand.book(), hand.done()
        self.assertEqual(hand.next(moment), answer)
        self.assert_book(hand, book, done)


class ExampleTest(Hands):
    def test_the_example(self):
        hand = Hand(TABLE, 2, "")
        self.assertEqual(hand.next(2), ("wait", 3))
        self.assertEqual(hand.next(4), ("ask", 1))
        self.assertIsNone(hand.see(6))
        self.assertEqual(Hand(TABLE, 2, hand.book()[:-2]).next(7), ("open", 1))
        self.assertEqual(Hand(TABLE, 2, hand.book()).next(7), ("wait", 11))


class NextTest(Hands):
    def test_a_whole_run(self):
        hand = Hand(TABLE, 2, "")
        self.assert_book(hand, "", ())
        for moment in (0, 1, 2, 2):
            self.assert_next(hand, moment, ("wait", 3))
        self.assertEqual(hand.next(3), ("ask", 1))
        self.assert_book(hand, "asked 1 3\n", ())
        for moment in (3, 4, 4, 50):
            self.assert_next(hand, moment, ("open", 1))
        hand.see(6)
        self.assert_book(hand, "asked 1 3\ndone 1 6\n", (6,))
        for moment in (6, 7, 10):
            self.assert_next(hand, moment, ("wait", 11))
        self.assertEqual(hand.next(11), ("ask", 2))
        self.assert_book(hand, "asked 1 3\ndone 1 6\nasked 2 11\n", (6,))
        self.assert_next(hand, 11, ("open", 2))
        hand.see(11)
        self.assert_book(hand, "asked 1 3\ndone 1 6\nasked 2 11\ndone 2 11\n", (6, 11))
        for moment in (11, 12, 10000):
            self.assert_next(hand, moment, ("end",))

    def test_without_rows(self):
        hand = Hand((), 2, "")
        self.assert_next(hand, 0, ("wait", 1))
        self.assertEqual(hand.next(1), ("ask", 1))
        hand.see(1)
        self.assert_next(hand, 1, ("wait", 2))
        self.assertEqual(hand.next(2), ("ask", 2))

    def test_later_than_need_be(self):
        hand = Hand(TABLE, 2, "")
        self.assertEqual(hand.next(10000), ("ask", 1))
        self.assertEqual(hand.book(), "asked 1 10000\n")
        hand.see(10000)
        self.assert_next(hand, 10000, ("wait", 10005))

    def test_the_moment_of_a_wait(self):
        for table, done, least in [((), (4, 9), 10), (((3, 2, 2),), (4, 9), 11), (((3, 1, 2),), (4, 9), 10),
                                   (((3, 1, 6),), (4, 9), 10), (((3, 1, 7),), (4, 9), 11), (((3, 0, 40),), (4, 9), 40),
                                   (((3, 0, 12), (3, 1, 9), (3, 2, 2)), (4, 9), 13), (((2, 1, 4),), (4, 9), 10),
                                   (((3, 0, 12), (3, 1, 7), (3, 2, 5)), (4, 9), 14)]:
            book = f"asked 1 {done[0]}\ndone 1 {done[0]}\nasked 2 {done[1]}\ndone 2 {done[1]}\n"
            self.assert_next(Hand(table, 3, book), least - 1, ("wait", least))
            for moment in (least, least + 1, 10000):
                hand = Hand(table, 3, book)
                self.assertEqual(hand.next(moment), ("ask", 3))
                self.assertEqual(hand.book(), f"{book}asked 3 {moment}\n")

    def test_a_moment_less_than_that_of_a_line(self):
        hand = Hand(TABLE, 2, "")
        hand.next(5)
        for moment in (0, 4):
            self.assert_not_allowed("time", hand, "next", moment)
        hand.see(9)
        for moment in (0, 5, 8):
            self.assert_not_allowed("time", hand, "next", moment)
        self.assert_next(hand, 9, ("wait", 14))
        hand.next(20)
        self.assert_not_allowed("time", hand, "next", 19)
        hand.see(20)
        # Also when there is nothing more to do.
        self.assert_not_allowed("time", hand, "next", 19)
        self.assert_next(hand, 20, ("end",))

    def test_an_earlier_moment_than_that_of_another_call(self):
        # Only the lines of the book count.
        hand = Hand(TABLE, 2, "")
        self.assert_next(hand, 2, ("wait", 3))
        self.assert_next(hand, 0, ("wait", 3))
        hand.next(3)
        self.assert_next(hand, 70, ("open", 1))
        self.assert_next(hand, 3, ("open", 1))
        hand.see(3)


class SeeTest(Hands):
    def test_without_an_open_deed(self):
        hand = Hand(TABLE, 2, "")
        for moment in (0, 3, 10000):
            self.assert_not_allowed("deed", hand, "see", moment)
        hand.next(3)
        hand.see(4)
        for moment in (0, 3, 4, 9):
            self.assert_not_allowed("deed", hand, "see", moment)

    def test_behind_the_last_done_line(self):
        hand = Hand((), 1, "asked 1 5\ndone 1 7\n")
        for moment in (0, 5, 6, 7, 8):
            self.assert_not_allowed("deed", hand, "see", moment)

    def test_a_moment_less_than_that_of_the_asked_line(self):
        hand = Hand(TABLE, 2, "")
        hand.next(5)
        for moment in (0, 4):
            self.assert_not_allowed("time", hand, "see", moment)
        self.assertIsNone(hand.see(5))
        self.assert_book(hand, "asked 1 5\ndone 1 5\n", (5,))


class TextTest(Hands):
    BOOK = "asked 1 3\ndone 1 6\nasked 2 11\ndone 2 400\n"

    def test_each_cut(self):
        for size in range(len(self.BOOK) + 1):
            hand = Hand(TABLE, 2, self.BOOK[:size])
            lines = self.BOOK[:size].count("\n")
            whole = "".join([f"{line}\n" for line in self.BOOK.split("\n")[:lines]])
            self.assert_book(hand, whole, ((), (), (6,), (6,), (6, 400))[lines])
            answer = (("ask", 1), ("open", 1), ("ask", 2), ("open", 2), ("end",))[lines]
            self.assertEqual(hand.next(500), answer)

    def test_an_open_deed_is_told_again(self):
        hand = Hand(TABLE, 2, "asked 1 3\ndone 1 6\nasked 2 11\ndone 2 4")
        self.assert_next(hand, 11, ("open", 2))
        self.assert_next(hand, 12, ("open", 2))
        self.assert_not_allowed("time", hand, "next", 10)
        hand.see(400)
        self.assertEqual(hand.book(), self.BOOK)

    def test_an_asked_line_that_is_too_early(self):
        for done, first in ((6, 11), (3, 8), (70, 75)):
            begun = f"asked 1 3\ndone 1 {done}\n"
            self.assertEqual(Hand(TABLE, 2, f"{begun}asked 2 {first}\n").next(first), ("open", 2))
            self.assert_refused(TABLE, 2, f"{begun}asked 2 {first - 1}\n")
            self.assert_refused(TABLE, 2, f"{begun}asked 2 {first - 1}\ndone 2 99\n")
            self.assertEqual(Hand(TABLE, 2, f"{begun}asked 2 {first - 1}").book(), begun)
        self.assert_refused(TABLE, 2, "asked 1 2\n")
        self.assert_refused(TABLE, 2, "asked 1 1\ndone 1 8\nasked 2 50\n")
        self.assertEqual(Hand(TABLE, 2, "asked 1 3\n").book(), "asked 1 3\n")
        self.assertEqual(Hand((), 1, "asked 1 1\n").book(), "asked 1 1\n")
        rows = ((3, 0, 12), (3, 1, 7))
        for first, moment, right in ((1, 12, True), (1, 11, False), (6, 13, True), (6, 12, False)):
            text = f"asked 1 1\ndone 1 {first}\nasked 2 7\ndone 2 7\nasked 3 {moment}\n"
            if right:
                self.assertEqual(Hand(rows, 3, text).book(), text)
            else:
                self.assert_refused(rows, 3, text)

    def test_entries_of_more_deeds(self):
        for count in range(1, 7):
            lines = []
            for k in range(1, count + 1):
                lines.extend([f"asked {k} {10 * k}\n", f"done {k} {10 * k + 3}\n"])
            text = "".join(lines)
            self.assertEqual(Hand((), count, text).next(10000), ("end",))
            more = f"{text}asked {count + 1} 900\n"
            self.assert_refused((), count, more)
            self.assert_refused((), count, f"{more}done {count + 1} 901\n")
            self.assertEqual(Hand((), count, more[:-1]).book(), text)
            if count < 6:
                self.assertEqual(Hand((), count + 1, more).next(10000), ("open", count + 1))

    def test_both_errors(self):
        # A wrong whole line goes first, wherever it stands.
        self.assert_bad(TABLE, 2, "asked 1 2\ndone 1 1\n", 2)
        self.assert_bad(TABLE, 2, "asked 1 2\nx\n", 2)
        self.assert_bad((), 1, "asked 1 2\ndone 1 2\nasked 2 3\ndone 2 x\n", 4)
        self.assert_refused((), 1, "asked 1 2\ndone 1 2\nasked 2 3\ndone 2 x")
        self.assert_refused(TABLE, 2, "asked 1 2\nx")
        self.assert_bad(TABLE, 2, "\n", 1)

    def test_what_is_dropped_does_not_belong_to_the_book(self):
        hand = Hand(TABLE, 2, "asked 1 3\nnonsense")
        self.assertEqual(hand.book(), "asked 1 3\n")
        hand.see(7)
        self.assertEqual(hand.book(), "asked 1 3\ndone 1 7\n")
        self.assertEqual(Hand(TABLE, 2, "nonsense").book(), "")

    def test_hands_do_not_share_their_books(self):
        first, second = Hand(TABLE, 2, ""), Hand(TABLE, 2, "")
        first.next(3)
        self.assert_book(second, "", ())
        self.assert_book(Hand(TABLE, 2, first.book()), "asked 1 3\n", ())


class World:
    """Others who do what they are asked for, each deed once, some time later."""

    def __init__(self, delays):
        self.delays = delays
        self.done = {}
        self.asked = []

    def ask(self, k, moment):
        self.asked.append((k, moment))
        if k not in self.done:
            self.done[k] = moment + self.delays[k - 1]

    def tell(self, hand, moment):
        """Let the hand see what is done; tell if it saw something."""
        k = len(hand.done()) + 1
        if hand.book().count("\n") % 2 == 1 and self.done[k] <= moment:
            hand.see(self.done[k])
            return True
        return False


def plain_run(table, count, delays, cuts, end):
    """Run a hand whose book is cut at some moments; return its book and what was asked for and done."""
    world = World(delays)
    hand = Hand(table, count, "")
    for moment in range(end + 1):
        if moment in cuts:
            # What the hand acted on is in the book whole, so no asked line is cut.
            book = hand.book()
            kept = len(book) if book.count("\n") % 2 else len(book) - cuts[moment]
            hand = Hand(table, count, book[:max(kept, len("".join(book.splitlines(True)[:-1])))])
        while world.tell(hand, moment):
            pass
        answer = hand.next(moment)
        if answer[0] == "ask":
            world.ask(answer[1], moment)
            world.tell(hand, moment)
        elif answer[0] == "open":
            world.ask(answer[1], moment)
    return hand, world


class CutRunsTest(Hands):
    """10.7."""

    def draw(self, seed):
        draw = random.Random(seed)
        count = draw.randint(1, 6)
        table = tuple([(k, j, draw.randint(1, 12)) for k in range(1, count + 1) for j in range(k)
                       if draw.random() < 0.4])
        return draw, count, table, tuple([draw.choice([0, 0, 1, 5]) for _ in range(count)])

    def test_runs_with_cuts(self):
        for seed in range(150):
            draw, count, table, delays = self.draw(seed)
            asked, done = run_table(table, [(delay, delay) for delay in delays], delays)
            end = done[-1] + 2
            plain, _ = plain_run(table, count, delays, {}, end)
            self.assertEqual(plain.done(), done)
            self.assertEqual([entry[2] for entry in read_book(plain.book())[::2]], list(asked))
            cuts = {draw.randint(0, end): draw.randint(0, 20) for _ in range(draw.randint(1, 8))}
            hand, world = plain_run(table, count, delays, cuts, end)
            self.assert_book(hand, plain.book(), done)
            self.assertEqual(world.done, dict(enumerate(done, start=1)))
            # The first time that each deed was asked for is that of the table.
            self.assertEqual([dict(world.asked[::-1])[k] for k in range(1, count + 1)], list(asked))

    def test_a_cut_at_any_character(self):
        # What was lost is written again with the same moments.
        for seed in range(40):
            _, count, table, delays = self.draw(seed)
            done = run_table(table, [(delay, delay) for delay in delays], delays)[1]
            plain, _ = plain_run(table, count, delays, {}, done[-1])
            book = plain.book()
            for size in range(len(book) + 1):
                hand = Hand(table, count, book[:size])
                left = read_book(book)[book[:size].count("\n"):]
                for word, k, moment in left:
                    if word == "asked":
                        self.assertEqual(hand.next(moment), ("ask", k))
                    else:
                        self.assertEqual(hand.next(moment), ("open", k))
                        hand.see(moment)
                self.assert_book(hand, book, done)
                self.assertEqual(hand.next(done[-1]), ("end",))

    def test_no_deed_with_a_done_line_is_asked_for_again(self):
        for seed in range(40):
            draw, count, table, _ = self.draw(seed)
            entries = []
            moment = 0
            for k in range(1, count + 1):
                moment = max(Hand(table, count, "".join(map(entry_line, entries))).next(moment)[1], moment + 1)
                moment += draw.randint(0, 9)
                entries.append(("asked", k, moment))
                moment += draw.randint(0, 9)
                entries.append(("done", k, moment))
                hand = Hand(table, count, "".join(map(entry_line, entries)))
                for later in range(moment, moment + 40):
                    answer = hand.next(later)
                    self.assertNotIn(answer, [("ask", one) for one in range(1, k + 1)])
                    self.assertNotIn(answer, [("open", one) for one in range(1, k + 1)])


if __name__ == "__main__":
    unittest.main()
