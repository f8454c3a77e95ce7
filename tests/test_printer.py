"""1.4 to 1.8 and 1.10: printing, and reading what was printed."""

import itertools
import unittest

from neverdark.printer import case_text, history_text, plan_text, table_text
from neverdark.reader import read_case, read_history, read_plan, read_table
from tests import samples


class Printing(unittest.TestCase):
    def assert_same(self, value, other):
        self.assertEqual(value, other)
        self.assertEqual(repr(value), repr(other))


class PlansTest(Printing):
    def test_each_deed(self):
        for text, deed in samples.deeds():
            self.assertEqual(plan_text(((5, deed),)), f"at 5 {text}")

    def test_many_lines(self):
        plan = tuple([(99999 - at, deed) for at, (_, deed) in enumerate(samples.deeds() * 2)])
        rows = [f"at {99999 - at} {text}" for at, (text, _) in enumerate(samples.deeds() * 2)]
        self.assertEqual(plan_text(plan), "\n".join(rows))
        self.assert_same(read_plan(plan_text(plan)), plan)

    def test_no_lines(self):
        self.assertEqual(plan_text(()), "")
        self.assert_same(read_plan(plan_text(())), ())

    def test_the_numbers(self):
        for number in (0, 9, 10, 99999):
            item = (("a",), number, ("b",), number, number)
            plan = ((number, ("put", ("keys", "."), item)),)
            self.assertEqual(plan_text(plan), f"at {number} put keys . = a life {number} by b "
                                              f"from {number} to {number}")
            self.assert_same(read_plan(plan_text(plan)), plan)


class TablesTest(Printing):
    def test_rows(self):
        table = ((1, 0, 3), (0, 99999, 10), (1, 0, 3))
        self.assertEqual(table_text(table), "wait 1 0 3\nwait 0 99999 10\nwait 1 0 3")
        self.assert_same(read_table(table_text(table)), table)

    def test_no_rows(self):
        self.assertEqual(table_text(()), "")
        self.assert_same(read_table(table_text(())), ())


class HistoriesTest(Printing):
    def test_each_event(self):
        for text, event in samples.events():
            self.assertEqual(history_text((event,)), text)
            self.assert_same(read_history(history_text((event,))), (event,))

    def test_many_events(self):
        rows = samples.events() + samples.events()[::-1]
        history = tuple([event for _, event in rows])
        self.assertEqual(history_text(history), "\n".join([text for text, _ in rows]))
        self.assert_same(read_history(history_text(history)), history)

    def test_no_events(self):
        self.assertEqual(history_text(()), "")
        self.assert_same(read_history(history_text(())), ())


class CasesTest(Printing):
    def test_a_case_with_all_groups(self):
        self.assertEqual(case_text(samples.CASE), samples.CASE_TEXT)
        self.assert_same(read_case(case_text(samples.CASE)), samples.CASE)

    def test_the_empty_case(self):
        self.assertEqual(case_text(samples.EMPTY_CASE), "end 0")
        self.assert_same(read_case(case_text(samples.EMPTY_CASE)), samples.EMPTY_CASE)

    def test_each_item(self):
        for text, pair in samples.placed():
            case = (((), (), ()), ((pair,), ()), (), (), (), 0)
            self.assertEqual(case_text(case), f"{text}\nend 0")
            self.assert_same(read_case(case_text(case)), case)

    def test_each_deed(self):
        for text, deed in samples.deeds():
            case = (((), (), ()), ((), ()), (deed,), ((0, 99999),), (), 99999)
            self.assertEqual(case_text(case), f"deed 0 99999 {text}\nend 99999")
            self.assert_same(read_case(case_text(case)), case)

    def test_any_of_the_groups_may_be_empty(self):
        realm, state, deeds, bounds, before, end = samples.CASE
        parts = [realm[0], realm[1], realm[2], state[0], state[1], tuple(zip(deeds, bounds)), before]
        for kept in itertools.product((True, False), repeat=7):
            zones, anchors, sets, items, on, pairs, rest = [
                part if keep else () for part, keep in zip(parts, kept)]
            case = ((zones, anchors, sets), (items, on), tuple([deed for deed, _ in pairs]),
                    tuple([pair for _, pair in pairs]), rest, end)
            self.assert_same(read_case(case_text(case)), case)
            self.assertEqual(len(case_text(case).split("\n")),
                             1 + sum([len(part) for part, keep in zip(parts, kept) if keep]))


class BackTest(Printing):
    """No two texts are read as one value: what is read prints as the text that was read."""

    def test_texts_come_back(self):
        self.assertEqual(case_text(read_case(samples.CASE_TEXT)), samples.CASE_TEXT)
        for text, _ in samples.events():
            self.assertEqual(history_text(read_history(text)), text)
        for text, _ in samples.deeds():
            self.assertEqual(plan_text(read_plan(f"at 0 {text}")), f"at 0 {text}")


if __name__ == "__main__":
    unittest.main()
