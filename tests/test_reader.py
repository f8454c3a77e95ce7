"""1.4 to 1.10, the reading side."""

import unittest

from neverdark.errors import BadText, NeverdarkError
from neverdark.reader import read_case, read_history, read_plan, read_table
from tests import samples


class Reading(unittest.TestCase):
    def assert_bad(self, read, text, line):
        with self.assertRaises(BadText, msg=repr(text)) as caught:
            read(text)
        self.assertEqual(caught.exception.line, line, repr(text))
        self.assertIsInstance(caught.exception, NeverdarkError)

    def assert_same(self, value, other):
        """Assert that both are equal and made of the same kinds of values throughout."""
        self.assertEqual(value, other)
        self.assertEqual(repr(value), repr(other))

    def assert_spoilt(self, read, forms, other):
        """Assert that each form is read, and that each way to spoil it is told with its line."""
        for form in forms:
            line = samples.good(form)
            self.assertEqual(len(read(f"{line}\n{other}\n{line}")), 3, line)
            for wrong in samples.spoilt(form):
                self.assert_bad(read, f"{wrong}\n{other}", 1)
                self.assert_bad(read, f"{line}\n{other}\n{wrong}", 3)
                self.assert_bad(read, f"{other}\n{wrong}\n{wrong}\n{line}\n", 2)
            for wrong in samples.broken(form):
                self.assertRaises(BadText, read, wrong)


class ExamplesTest(Reading):
    def test_the_history_of_the_interface(self):
        text = "go 5\nfill keys land 3 0\nask www.land a\ndrop set www.land a"
        self.assert_same(read_history(text), (
            ('go', 5), ('fill', ('keys', 'land'), (3, 0)), ('ask', 'www.land', 'a', ()),
            ('drop', ('set', 'www.land', 'a'))))

    def test_the_table_of_the_interface(self):
        self.assert_bad(read_table, "wait 1 0 3\nwait 2 01 4", 2)


class PlansTest(Reading):
    def test_each_deed(self):
        for text, deed in samples.deeds():
            self.assert_same(read_plan(f"at 5 {text}"), ((5, deed),))

    def test_many_lines_in_any_order(self):
        rows = samples.deeds()
        text = "\n".join([f"at {99999 - at} {row}" for at, (row, _) in enumerate(rows + rows)])
        plan = tuple([(99999 - at, deed) for at, (_, deed) in enumerate(rows + rows)])
        self.assert_same(read_plan(text), plan)
        self.assert_same(read_plan("at 0 on a b\nat 0 on a b"), ((0, ("on", "a", "b")), (0, ("on", "a", "b"))))

    def test_the_empty_text(self):
        self.assert_same(read_plan(""), ())

    def test_spoilt_lines(self):
        self.assert_spoilt(read_plan, samples.PLAN_FORMS, "at 3 off s land")

    def test_lines_of_other_texts(self):
        for text in ("wait 1 0 3", "go 5", "end 5", "on s land", "keys . = r life 20 by r from 0 to 90",
                     "at 5", "at 5 lose . r", "at 5 deed 1 2 on s land", "at 5 put", "at 5 set land a"):
            self.assert_bad(read_plan, text, 1)


class TablesTest(Reading):
    def test_rows(self):
        self.assert_same(read_table("wait 1 0 3"), ((1, 0, 3),))
        self.assert_same(read_table("wait 99999 10 0\nwait 1 1 1\nwait 1 1 1"), ((99999, 10, 0), (1, 1, 1), (1, 1, 1)))

    def test_the_empty_text(self):
        self.assert_same(read_table(""), ())

    def test_spoilt_lines(self):
        self.assert_spoilt(read_table, samples.TABLE_FORMS, "wait 1 0 3")

    def test_lines_of_other_texts(self):
        for text in ("at 5 on s land", "go 5", "end 5", "before 1 2", "wait 1 2", "wait 1 2 3 4", "wait"):
            self.assert_bad(read_table, text, 1)


class HistoriesTest(Reading):
    def test_each_event(self):
        for text, event in samples.events():
            self.assert_same(read_history(text), (event,))

    def test_many_lines_in_any_order(self):
        rows = samples.events() + samples.events()
        text = "\n".join([row for row, _ in rows])
        self.assert_same(read_history(text), tuple([event for _, event in rows]))

    def test_a_kind_of_digits_is_no_pick(self):
        self.assert_same(read_history("fill set land 3 4"), (("fill", ("set", "land", "3"), (4,)),))
        self.assert_same(read_history("ask land 3 4"), (("ask", "land", "3", (4,)),))
        self.assert_same(read_history("fill keys 3 4"), (("fill", ("keys", "3"), (4,)),))

    def test_the_empty_text(self):
        self.assert_same(read_history(""), ())

    def test_spoilt_lines(self):
        self.assert_spoilt(read_history, samples.HISTORY_FORMS, "go 5")

    def test_spoilt_picks(self):
        for start in ("ask www.land a", "fill keys land", "fill set www.land a", "fill hosts land"):
            for pick in samples.KINDS["<number>"][1]:
                if "\n" not in pick:
                    self.assert_bad(read_history, f"go 1\n{start} {pick}\ngo 2", 2)
                    self.assert_bad(read_history, f"go 1\n{start} 1 {pick}\ngo 2", 2)
                    self.assert_bad(read_history, f"go 1\n{start} {pick} 1\ngo x", 2)
        self.assert_bad(read_history, "drop keys land 1", 1)
        self.assert_bad(read_history, "ask www.land a 1  2", 1)
        self.assert_bad(read_history, "ask www.land a 1,2", 1)

    def test_lines_of_other_texts(self):
        for text in ("look", "look 1", "at 5 on s land", "wait 1 0 3", "end 5", "fill", "drop", "plant", "ask", "lose",
                     "go", "fill land", "plant keys .", "drop set land", "drop www land", "fill set land"):
            self.assert_bad(read_history, text, 1)


class ItemsTest(Reading):
    def test_hosts_items_have_no_seal(self):
        seal = "by r from 0 to 90"
        for start in ("at 1 put", "deed 1 2 put"):
            read = read_plan if start[0] == "a" else read_case
            self.assert_bad(read, f"{start} hosts land = s life 5 {seal}", 1)
            self.assert_bad(read, f"{start} keys land = s life 5", 1)
            self.assert_bad(read, f"{start} link land = s life 5", 1)
            self.assert_bad(read, f"{start} set land a = s life 5", 1)
        self.assert_bad(read_history, f"plant hosts land = s life 5 {seal}", 1)
        self.assert_bad(read_history, "plant keys land = s life 5", 1)

    def test_hosts_items_are_good_for_ever(self):
        self.assert_same(read_plan("at 1 put hosts land = s life 5"),
                         ((1, ("put", ("hosts", "land"), (("s",), 5, (), 0, 10000))),))


class LineEndsTest(Reading):
    def test_a_newline_at_the_end(self):
        self.assert_bad(read_plan, "at 1 on s land\n", 2)
        self.assert_bad(read_table, "wait 1 0 3\nwait 2 0 3\n", 3)
        self.assert_bad(read_history, "go 1\n", 2)
        self.assert_bad(read_case, "end 1\n", 2)

    def test_only_newlines(self):
        for read in (read_plan, read_table, read_history, read_case):
            self.assert_bad(read, "\n", 1)
            self.assert_bad(read, "\n\n", 1)
            self.assert_bad(read, " ", 1)

    def test_empty_lines(self):
        self.assert_bad(read_history, "\ngo 1", 1)
        self.assert_bad(read_history, "go 1\n\ngo 2", 2)
        self.assert_bad(read_case, "zone . lag 0\n\nend 1", 2)

    def test_other_line_ends(self):
        for end in ("\r\n", "\n\r", "\r", "\x0b", "\x0c", "\x1c", "\x85", "\u2028", "\u2029"):
            first = 2 if end == "\n\r" else 1
            self.assert_bad(read_history, f"go 1{end}go 2", first)
            self.assert_bad(read_table, f"wait 1 0 3{end}wait 2 0 3", first)
            self.assert_bad(read_plan, f"at 1 on s land{end}at 2 off s land", first)
            self.assert_bad(read_case, f"zone . lag 0{end}end 2", first)

    def test_the_first_wrong_line_is_told(self):
        self.assert_bad(read_history, "go 1\ngo x\n\ngo y", 2)
        self.assert_bad(read_table, "wait 1 0 3\nwait 2 0 3\nwait\nwait", 3)


class CasesTest(Reading):
    def test_a_case_with_all_groups(self):
        self.assert_same(read_case(samples.CASE_TEXT), samples.CASE)

    def test_only_the_end(self):
        self.assert_same(read_case("end 0"), samples.EMPTY_CASE)
        self.assert_same(read_case("end 99999"), samples.EMPTY_CASE[:5] + (99999,))

    def test_each_item(self):
        for text, pair in samples.placed():
            self.assert_same(read_case(f"{text}\nend 0"), (((), (), ()), ((pair,), ()), (), (), (), 0))

    def test_each_deed(self):
        for text, deed in samples.deeds():
            self.assert_same(read_case(f"deed 0 99999 {text}\nend 7"),
                             (((), (), ()), ((), ()), (deed,), ((0, 99999),), (), 7))

    def test_a_set_of_the_realm_and_an_item_of_a_set(self):
        text = "set land a\nset land a = - life 1 by - from 0 to 1\nend 0"
        item = (("set", "land", "a"), ((), 1, (), 0, 1))
        self.assert_same(read_case(text), (((), (), (("land", "a"),)), ((item,), ()), (), (), (), 0))

    def test_spoilt_lines(self):
        groups = [[samples.good(form) for form in forms] for forms in samples.CASE_FORMS]
        for at, forms in enumerate(samples.CASE_FORMS):
            above = sum(groups[:at], [])
            below = sum(groups[at + 1:], [])
            for form in forms:
                read_case("\n".join(above + [samples.good(form)] + below))
                for wrong in samples.spoilt(form):
                    rows = above + [wrong] + below
                    self.assert_bad(read_case, "\n".join(rows), len(above) + 1)
                    self.assert_bad(read_case, "\n".join(rows + ["end x", ""]), len(above) + 1)
                    self.assert_bad(read_case, "\n".join([wrong]), 1)

    def test_lines_of_other_texts(self):
        for text in ("at 5 on s land", "wait 1 0 3", "go 5", "ask land a", "off s land", "put keys . = - life 1",
                     "deed on s land", "deed 1 on s land", "deed 1 2 lose . r", "deed 1 2", "zone", "end", "keys ."):
            self.assert_bad(read_case, f"{text}\nend 5", 1)


class OrderOfCasesTest(Reading):
    def setUp(self):
        self.groups = [samples.good(forms[0]) for forms in samples.CASE_FORMS]

    def test_groups_may_be_missing(self):
        for at in range(7):
            read_case("\n".join(self.groups[:at] + self.groups[at + 1:]))
            read_case("\n".join([self.groups[at], self.groups[7]]))

    def test_a_line_of_an_earlier_group_below(self):
        for later in range(8):
            for earlier in range(later):
                rows = [self.groups[later], self.groups[earlier], self.groups[7]]
                self.assert_bad(read_case, "\n".join(rows), 2)
                rows = self.groups[:later + 1] + [self.groups[earlier]] + self.groups[later:]
                self.assert_bad(read_case, "\n".join(rows), later + 2)

    def test_below_the_end_line(self):
        for row in self.groups:
            self.assert_bad(read_case, f"end 5\n{row}", 2)
            self.assert_bad(read_case, f"zone . lag 0\nend 5\n{row}\nend x", 3)
        self.assert_bad(read_case, "end 5\nend 5", 2)
        self.assert_bad(read_case, "end 5\n\nend 5", 2)
        self.assert_bad(read_case, "end 5\nend x", 2)

    def test_no_end_line(self):
        for many in range(8):
            self.assert_bad(read_case, "\n".join(self.groups[:many]), many + 1)

    def test_the_empty_text(self):
        self.assert_bad(read_case, "", 1)

    def test_a_wrong_line_above_and_below_one_out_of_order(self):
        self.assert_bad(read_case, "anchor r\nzone . lag 0\nanchor\nend 1", 2)
        self.assert_bad(read_case, "anchor r\nanchor\nzone . lag 0\nend 1", 2)
        self.assert_bad(read_case, "anchor\nanchor r\nzone . lag 0\nend 1", 1)
        self.assert_bad(read_case, "anchor r\nzone . lag 0", 2)
        self.assert_bad(read_case, "anchor r\nset land a\nend 1\nanchor", 4)

    def test_a_wrong_line_is_told_before_a_missing_end(self):
        self.assert_bad(read_case, "anchor\nzone . lag 0", 1)
        self.assert_bad(read_case, "zone . lag 0\nanchor", 2)


if __name__ == "__main__":
    unittest.main()
