"""11.1 to 11.4: cases, reports and plays."""

import itertools
import random
import time
import unittest

from neverdark.askers import run_history
from neverdark.errors import NotAllowed
from neverdark.orders import best_order
from neverdark.printer import case_text, table_text
from neverdark.reader import read_case
from neverdark.tables import is_row_of_deeds, least_table, plan_of, run_table
from neverdark.whole import Play, cut_book, is_case, play, report
from neverdark.worlds import World
from tests.samples import CASE, EMPTY_CASE, SEALED_ITEM, STATE
from tests.samples import REALM as GREAT_REALM
from tests.small import all_delays, draw_history, hosts, item, order_cases, realm_of, state_of

REALM = realm_of({".": 1, "land": 2}, ((".", "ns"), ("land", "v")))
HOSTS = ("hosts", "land")
SET = ("set", "land", "v")
START = state_of(REALM, {HOSTS: hosts("s", 9)})
# A server is replaced: the deed 3 waits for the old hosts item of life 9, put away by 2, to be over.
CHANGE = (("on", "t", "land"), ("put", HOSTS, hosts("t", 4)), ("off", "s", "land"))
BOUNDS = ((0, 3), (1, 4), (0, 5))
GOOD = (REALM, START, CHANGE, BOUNDS, ((1, 2), (2, 3)), 23)
FREE = tuple([("on", server, "land") for server in "abcdef"])


def case_of(realm=REALM, state=START, deeds=CHANGE, bounds=BOUNDS, before=((1, 2), (2, 3)), end=23):
    return (realm, state, deeds, bounds, before, end)


class IsCaseTest(unittest.TestCase):
    def assert_case(self, right, **parts):
        case = case_of(**parts)
        self.assertIs(is_case(case), right, parts)
        # The text of a case is read back.
        self.assertEqual(read_case(case_text(case)), case)

    def test_right_cases(self):
        self.assert_case(True)
        self.assert_case(True, before=())
        for count in range(1, 7):
            self.assert_case(True, deeds=FREE[:count], bounds=((0, 1000),) * count, before=())
        put = ("put", ("keys", "d.c.b.a"), SEALED_ITEM)
        self.assert_case(True, realm=GREAT_REALM, state=STATE, deeds=(put,), bounds=((5, 5),), before=())

    def test_a_spoilt_realm(self):
        zones, anchors, sets = REALM
        for realm in [(zones[::-1], anchors, sets), (zones, (), sets), (zones, ("r", "k"), sets),
                      (zones, anchors, sets[::-1]), (zones, anchors, sets[:1]), (zones[1:], anchors, sets),
                      ((), (), ()), (((".", 101), ("land", 2)), anchors, sets), (zones, tuple("abcd"), sets)]:
            self.assert_case(False, realm=realm)

    def test_a_spoilt_state(self):
        items, on = START
        for state in [(items[1:], on), (items[::-1], on), (items + items[:1], on), (items, (("s", "."),)),
                      (items, (("t", "land"), ("s", "land"))), (items, (("s", "land"),) * 2), ((), ()),
                      (items, (("s", "shop"),)), (((items[0][0], item("k", "k", 0)),) + items[1:], on)]:
            self.assert_case(False, state=state)

    def test_spoilt_deeds(self):
        for deeds in [(CHANGE[0], CHANGE[0], CHANGE[2]), (("on", "s", "land"),) + CHANGE[1:], CHANGE[:2] + CHANGE[:1],
                      CHANGE[:2] + (("put", ("set", "land", "w"), item("v", "k")),),
                      CHANGE[:2] + (("put", ("link", "."), item("v", "k")),), CHANGE[:2] + (("on", "u", "."),),
                      CHANGE[:2] + (("put", SET, item("v", "k", 1001)),)]:
            self.assert_case(False, deeds=deeds)
        self.assert_case(False, deeds=(), bounds=(), before=())
        self.assert_case(True, deeds=FREE, bounds=((0, 0),) * 6, before=())
        self.assert_case(False, deeds=FREE + CHANGE[:1], bounds=((0, 0),) * 7, before=())

    def test_spoilt_bounds(self):
        for at in range(3):
            for pair, right in [((0, 0), True), ((0, 1000), True), ((1000, 1000), True), ((0, 1001), False),
                                ((3, 2), False), ((1001, 1001), False)]:
                self.assert_case(right, bounds=BOUNDS[:at] + (pair,) + BOUNDS[at + 1:])
        for bounds in ((), BOUNDS[:2], BOUNDS + ((0, 0),)):
            self.assertIs(is_case(case_of(bounds=bounds)), False)

    def test_pairs(self):
        for before, right in [((), True), (((1, 2),), True), (((2, 1),), True), (((1, 3), (2, 3)), True),
                              (((1, 2), (1, 3), (2, 3)), True), (((3, 1), (3, 2)), True), (((1, 3), (2, 1)), True),
                              (((0, 1),), False), (((1, 0),), False), (((4, 1),), False), (((1, 4),), False),
                              (((1, 2), (1, 2)), False), (((2, 3), (1, 2)), False), (((1, 3), (1, 2)), False),
                              (((1, 1),), False), (((3, 3),), False), (((1, 2), (2, 2)), False),
                              (((1, 2), (2, 1)), False), (((1, 3), (3, 1)), False), (((2, 3), (3, 2)), False),
                              (((1, 2), (2, 3), (3, 1)), False), (((1, 3), (2, 1), (3, 2)), False),
                              (((1, 2), (1, 3), (2, 3), (3, 2)), False), (((99999, 1),), False)]:
            self.assert_case(right, before=before)

    def test_pairs_of_six_deeds(self):
        pairs = list(itertools.permutations(range(1, 7), 2))
        down = tuple([pair for pair in pairs if pair[0] < pair[1]])
        for before, right in [(tuple(pairs), False), (down, True), (tuple([pair[::-1] for pair in down[::-1]]), False),
                              (((1, 2), (2, 3), (3, 4), (4, 5), (5, 6)), True),
                              (((1, 2), (2, 3), (3, 4), (4, 5), (5, 6), (6, 1)), False),
                              (((1, 2), (2, 3), (4, 5), (5, 6), (6, 4)), False)]:
            self.assert_case(right, deeds=FREE, bounds=((0, 0),) * 6, before=before)

    def test_drawn_pairs(self):
        draw = random.Random(5)
        found = {True: 0, False: 0}
        for _ in range(300):
            count = draw.randint(2, 5)
            pairs = [pair for pair in itertools.product(range(1, count + 1), repeat=2) if draw.random() < 0.2]
            # There is an order that keeps all pairs exactly if no deed stands before itself.
            right = any(all(order.index(i) < order.index(j) for i, j in pairs)
                        for order in itertools.permutations(range(1, count + 1)))
            self.assert_case(right, deeds=FREE[:count], bounds=((0, 0),) * count, before=tuple(pairs))
            found[right] += 1
        self.assertGreater(min(found.values()), 50)

    def test_ends(self):
        for end, right in ((0, True), (1, True), (10000, True), (10001, False), (99999, False)):
            self.assert_case(right, end=end)

    def test_raw_cases(self):
        for raw in (CASE, EMPTY_CASE, (CASE[0], START, CHANGE, BOUNDS, (), 5), (REALM, CASE[1], CHANGE, BOUNDS, (), 5),
                    (REALM, START, CASE[2], CASE[3], CASE[4], 5), (REALM, START, CHANGE, BOUNDS, CASE[4], 5),
                    (REALM, ((), ()), (), (), (), 0), (((), (), ()), START, CHANGE, BOUNDS, (), 5)):
            self.assertIs(is_case(raw), False)
            self.assertEqual(read_case(case_text(raw)), raw)

    def test_drawn_raw_cases(self):
        # Lines of raw cases put together anyhow.
        draw = random.Random(7)
        found = {True: 0, False: 0}
        texts = [case_text(case).split("\n") for case in (CASE, GOOD, case_of(GREAT_REALM, STATE))]
        groups = [[[line for line in lines if is_in_group(line, at)] for lines in texts] for at in range(8)]
        for _ in range(2000):
            lines = []
            for group in groups[:-1]:
                chosen = list(draw.choice(group))
                for _ in range(draw.choice([0, 0, 0, 1, 2])):
                    if chosen:
                        line = draw.choice(draw.choice([chosen] + group) or chosen)
                        chosen.insert(draw.randint(0, len(chosen)), line)
                lines.extend(chosen)
            raw = read_case("\n".join(lines + ["end 30"]))
            found[is_case(raw)] += 1
        self.assertEqual(sum(found.values()), 2000)
        self.assertGreater(found[False], 1000)


def is_in_group(line, at):
    """Tell if the line of a case belongs to the group with this number."""
    words = line.split(" ")
    kinds = {"zone": 0, "anchor": 1, "on": 4, "deed": 5, "before": 6, "end": 7}
    return at == kinds.get(words[0], 3 if "=" in words else 2)


def drawn_cases(seeds):
    """Return cases whose deeds are allowed in their turn."""
    found = []
    for realm, state, deeds, bounds, end, before in order_cases(seeds):
        if is_row_of_deeds(realm, state, deeds):
            found.append((realm, state, deeds, bounds, before, end))
    return found


class ReportTest(unittest.TestCase):
    def assert_report(self, lines, **parts):
        case = case_of(**parts)
        self.assertIs(is_case(case), True)
        told = report(case)
        self.assertIsInstance(told, list)
        self.assertEqual(told, lines)

    def test_a_table_and_an_order(self):
        # 1, 2 + 1, 3 + 9 at the earliest; 1 + 3, 5 + 4, 9 + 9 + 5 at the latest.
        self.assert_report(["wait 3 2 9", "done 12 to 23", "order 1 2 3 until 23"])
        self.assert_report(["wait 3 2 9", "done 12 to 23", "order 1 2 3 until 23"], end=10000, before=())

    def test_a_table_without_rows(self):
        self.assert_report(["done 4 to 11", "order 1 2 until 11"], deeds=FREE[:2], bounds=((1, 4), (1, 5)), before=())
        self.assert_report(["done 1 to 1", "order 1 until 1"], deeds=FREE[:1], bounds=((0, 0),), before=())

    def test_a_table_with_several_rows(self):
        deeds = (("put", SET, item("v", "k", 2, 9)), ("put", SET, item("w", "k", 2, 20)), ("off", "s", "land"))
        rows = ["wait 1 0 8", "wait 2 0 20", "done 20 to 20", "order 1 2 until 20"]
        self.assert_report(rows, deeds=deeds[:2], bounds=((1, 1), (0, 0)), before=())

    def test_one_moment_too_early(self):
        self.assert_report(["no table", "no order"], end=22)
        # With the least delays alone it would do.
        self.assert_report(["wait 3 2 9", "done 12 to 12", "order 1 2 3 until 12"],
                           bounds=((0, 0), (1, 1), (0, 0)), end=12)
        self.assert_report(["no table", "no order"], bounds=((0, 0), (1, 1), (0, 0)), end=11)
        self.assert_report(["no table", "no order"], bounds=((0, 0), (1, 2), (0, 0)), end=12)

    def test_an_order_but_no_table(self):
        turned = (CHANGE[2], CHANGE[1], CHANGE[0])
        self.assert_report(["no table", "order 3 2 1 until 23"], deeds=turned, bounds=BOUNDS[::-1], before=())
        self.assert_report(["no table", "no order"], deeds=turned, bounds=BOUNDS[::-1], before=((1, 2),))

    def test_a_table_but_no_order(self):
        # `before` forbids the only order that has a finish.
        self.assert_report(["wait 3 2 9", "done 12 to 23", "no order"], before=((2, 1),))

    def test_another_order_than_that_of_the_table(self):
        self.assert_report(["done 4 to 4", "order 2 1 3 4 until 4"], deeds=FREE[:4], bounds=((0, 0),) * 4,
                           before=((2, 1),))
        self.assert_report(["done 6 to 6", "order 6 5 4 3 2 1 until 6"], deeds=FREE, bounds=((0, 0),) * 6,
                           before=((2, 1), (3, 2), (4, 3), (5, 4), (6, 5)))

    def test_what_is_returned_may_be_changed(self):
        report(GOOD).clear()
        self.assertEqual(len(report(GOOD)), 3)

    def test_the_words_of_the_document(self):
        found = set()
        for case in drawn_cases(300):
            realm, state, deeds, bounds, before, end = case
            self.assertIs(is_case(case), True)
            lines = report(case)
            table = least_table(realm, state, deeds, bounds, end)
            wanted = ["no table"]
            if table is not None:
                moments = sorted([run_table(table, bounds, delays)[1][-1] for delays in all_delays(bounds)])
                wanted = [line for line in table_text(table).split("\n") if line]
                wanted.append(f"done {moments[0]} to {moments[-1]}")
            best = best_order(*case[:4], end, before)
            wanted.append("no order" if best is None else f"order {' '.join(map(str, best[0]))} until {best[1]}")
            self.assertEqual(lines, wanted)
            found.add((table is None, best is None))
        self.assertEqual(len(found), 4)


class FallTest(unittest.TestCase):
    """11.3 step by step: what a fall loses, and what the book of the hand says after each moment."""

    def test_what_is_lost(self):
        for book in ("", "asked 1 3\n", "asked 1 3\ndone 1 6\nasked 2 11\n"):
            for count in (0, 1, 2, 9, 10, 11, 99):
                self.assertEqual(cut_book(book, count), book)
        for begun in ("asked 1 3\n", "asked 1 3\ndone 1 6\nasked 2 11\n"):
            line = "done 2 9999\n"
            for count in range(len(line) + 1):
                self.assertEqual(cut_book(begun + line, count), begun + line[:len(line) - count])
            for count in (len(line) + 1, len(line) + 9, 99999):
                self.assertEqual(cut_book(begun + line, count), begun)

    def test_the_book_after_each_moment(self):
        # What a fall lost is seen again at the moment of the fall, so the book is that of a run without falls.
        table = least_table(*GOOD[:4], GOOD[5])
        draw = random.Random(3)
        for delays in all_delays(BOUNDS):
            asked, done = run_table(table, BOUNDS, delays)
            for falls in ({}, {moment: 99 for moment in range(24)}, {moment: 1 for moment in range(24)},
                          {moment: draw.randint(0, 12) for moment in range(24) if draw.random() < 0.5}):
                stage = Play(table, delays)
                for moment in range(24):
                    stage.step(moment, falls)
                    lines = []
                    for k, (first, last) in enumerate(zip(asked, done), start=1):
                        lines.extend([f"asked {k} {first}\n"] if first <= moment else [])
                        lines.extend([f"done {k} {last}\n"] if last <= moment else [])
                    self.assertEqual(stage._hand.book(), "".join(lines), (delays, falls, moment))
                self.assertEqual(stage.result(CHANGE), plan_of(CHANGE, done))


class PlayTest(unittest.TestCase):
    def run_plan(self, case, delays):
        realm, state, deeds, bounds, _, end = case
        table = least_table(realm, state, deeds, bounds, end)
        return plan_of(deeds, run_table(table, bounds, delays)[1])

    def assert_play(self, case, delays, falls=(), history=()):
        """Check a play against the run of the least table."""
        plan, answers = play(case, delays, tuple(falls), history)
        self.assertIsInstance(plan, tuple)
        self.assertIsInstance(answers, list)
        self.assertEqual(plan, self.run_plan(case, delays), (delays, falls))
        self.assertEqual(answers, run_history(World(*case[:2], plan), history))

    def assert_not_allowed(self, word, case, delays, falls=()):
        with self.assertRaises(NotAllowed) as caught:
            play(case, delays, falls, ())
        self.assertEqual(caught.exception.word, word)

    def test_without_falls(self):
        for delays in all_delays(BOUNDS):
            self.assert_play(GOOD, delays)
        self.assertEqual(play(GOOD, (0, 1, 0), (), ())[0], ((1, CHANGE[0]), (3, CHANGE[1]), (12, CHANGE[2])))

    def test_one_fall_at_each_moment_with_each_count(self):
        # Delays of 0: asked for and done at one moment; others: a fall while a deed is open.
        for delays in ((0, 1, 0), (3, 4, 5), (2, 1, 3), (0, 4, 0)):
            for moment in range(24):
                for count in [*range(12), 100, 10000]:
                    self.assert_play(GOOD, delays, ((moment, count),))

    def test_falls_one_after_another(self):
        for delays in ((0, 1, 0), (3, 4, 5), (3, 1, 5)):
            for first, second, third in itertools.product([0, 1, 7, 99], repeat=3):
                for begin in range(22):
                    falls = ((begin, first), (begin + 1, second), (begin + 2, third))
                    self.assert_play(GOOD, delays, falls)
            for count in (0, 1, 3, 9, 10, 11, 99):
                self.assert_play(GOOD, delays, [(moment, count) for moment in range(24)])

    def test_falls_behind_the_end(self):
        for falls in (((24, 5),), ((23, 9), (24, 9), (10000, 9)), ((99999, 1),)):
            self.assert_play(GOOD, (3, 4, 5), falls)

    def test_a_fall_when_all_is_done(self):
        case = case_of(end=40)
        for delays in ((0, 1, 0), (3, 4, 5)):
            for moment in range(8, 41):
                self.assert_play(case, delays, ((moment, 4),))
                self.assert_play(case, delays, ((moment, 4), (moment + 1, 99)))

    def test_the_answers(self):
        history = []
        for moment in (0, 3, 5, 6, 12, 14, 20, 23, 24, 60, 10000):
            history.append(("go", moment))
            history.append(("ask", "land", "v", (1, 1, 2, 0, 1)))
        for delays in ((0, 1, 0), (3, 4, 5)):
            self.assert_play(GOOD, delays, ((5, 3), (9, 9)), tuple(history))
        told = play(GOOD, (3, 4, 5), (), tuple(history))[1]
        self.assertEqual(len(told), len(history))
        self.assertEqual([answer[0] for answer in told], ["gone", "told"] * 11)

    def test_all_events(self):
        history = (("fill", HOSTS, ()), ("plant", SET, item("x", "k")), ("lose", "land", "k"), ("ask", "land", "v", ()),
                   ("drop", SET), ("drop", SET), ("go", 4), ("plant", HOSTS, hosts("")), ("go", 4),
                   ("fill", ("keys", "land"), ()))
        self.assert_play(GOOD, (3, 4, 5), (), history)
        self.assertEqual(play(GOOD, (3, 4, 5), (), history)[1][-2:], [("gone",), ("dark", "hosts", HOSTS)])

    def test_a_history_that_goes_back(self):
        with self.assertRaises(NotAllowed) as caught:
            play(GOOD, (3, 4, 5), (), (("go", 5), ("go", 4)))
        self.assertEqual(caught.exception.word, "time")

    def test_not_allowed(self):
        for delays in ((-1, 1, 0), (4, 1, 0), (0, 0, 0), (0, 5, 0), (0, 1, -1), (0, 1, 6), (0, 1), (0, 1, 0, 0), ()):
            self.assert_not_allowed("delays", GOOD, delays)
            self.assert_not_allowed("delays", case_of(end=22), delays)
        for delays in all_delays(BOUNDS):
            self.assert_not_allowed("table", case_of(end=22), delays, ((3, 5),))

    def test_the_arguments_stay(self):
        falls, history, delays = ((3, 5), (9, 1)), (("go", 3), ("ask", "land", "v", ())), (3, 4, 5)
        kept = repr((GOOD, delays, falls, history))
        play(GOOD, delays, falls, history)[1].clear()
        self.assertEqual(repr((GOOD, delays, falls, history)), kept)
        self.assertEqual(len(play(GOOD, delays, falls, history)[1]), 2)

    def test_a_great_end(self):
        deeds = tuple([("put", SET, item("v", "k", 1000, 1500 * at)) for at in range(1, 7)])
        case = case_of(deeds=deeds, bounds=((0, 1000),) * 6, before=(), end=10000)
        history = tuple([event for moment in range(0, 10001, 500)
                         for event in (("go", moment), ("ask", "land", "v", ()))])
        begun = time.perf_counter()
        self.assert_play(case, (0, 1000, 5, 7, 1, 1000), (), history)
        self.assertLess(time.perf_counter() - begun, 2)
        self.assert_play(case, (0, 1000, 5, 7, 1, 1000), [(moment, moment % 14) for moment in range(10001)])
        self.assertLess(time.perf_counter() - begun, 20)

    def test_no_answer_is_dark(self):
        plays = answers = 0
        for seed, case in enumerate(drawn_cases(500)):
            realm, state, deeds, bounds, _, end = case
            if least_table(realm, state, deeds, bounds, end) is None:
                continue
            draw = random.Random(seed)
            for _ in range(3):
                delays = draw.choice(all_delays(bounds))
                count = draw.randint(0, 6)
                falls = tuple([(moment, draw.choice([0, 1, 3, 8, 10, 50]))
                               for moment in sorted(draw.sample(range(end + 9), count))])
                events = draw_history(draw, realm, state, self.run_plan(case, delays), end)
                events = tuple([event for event in events if event[0] != "go" or event[1] <= end])
                self.assert_play(case, delays, falls, events)
                told = play(case, delays, falls, events)[1]
                self.assertNotIn("dark", [answer[0] for answer in told])
                plays += 1
                answers += len(told)
        self.assertGreater(plays, 150)
        self.assertGreater(answers, 10000)


if __name__ == "__main__":
    unittest.main()
