"""0.3 and 0.5 to 0.7: what is promised over the whole program."""

import copy
import importlib
import inspect
import os
import random
import unittest

from neverdark import (book, chains, errors, follow, follow_tables, followers, hand, holding, judge, lost, names,
                       order_papers, orders, printer, reader, realms, rings, tables, waits, whole)
from neverdark.askers import Asker, run_history
from neverdark.worlds import World
from tests.follow_small import draw_followed, draw_rhythm, follow_worlds
from tests.samples import CASE, CASE_TEXT
from tests.small import LAST, draw_bounds, draw_change, draw_moments, hosts, item, plan_at, realm_of, state_of
from tests.test_interface import FUNCTIONS

PACKAGE = os.path.dirname(errors.__file__)
REALM = realm_of({".": 1, "land": 2}, ((".", "ns"), ("land", "v")))
ROOT = ("keys", ".")
HOSTS = ("hosts", "land")
SET = ("set", "land", "v")
START = state_of(REALM, {HOSTS: hosts("s", 9)})
CHANGE = (("on", "t", "land"), ("put", HOSTS, hosts("t", 4)), ("off", "s", "land"))
BOUNDS = ((0, 3), (1, 4), (0, 5))
PLAN = plan_at((2, 5, 20), CHANGE)
LOST = (("land", "k", 3),)
EVENTS = (("go", 3), ("fill", SET, (1, 0, 2)), ("ask", "land", "v", ()), ("drop", SET), ("go", 60),
          ("plant", SET, item("x", "k")), ("lose", "land", "k"), ("ask", "land", "v", (3,)))
CASE_HERE = (REALM, START, CHANGE, BOUNDS, ((1, 2),), 40)


def every_call():
    """Return calls of all functions of the interface: the function and its arguments, lists and dicts where allowed."""
    held = {slot: START[0][at][1] for at, slot in enumerate(realms.slots(REALM))}
    rows = list(waits.rows_of(REALM, START, CHANGE, 40))
    whole_case = (REALM, START, CHANGE, BOUNDS)
    paper = order_papers.order_paper(*whole_case, 40, ())
    best = orders.best_order(*whole_case, 40, ())
    ring = [(1, 0, 5), (0, 1, -3)]
    return [
        (names.is_id, ("k",)), (names.is_label, ("land",)), (names.is_name, ("www.land",)),
        (names.labels, ("www.land",)), (names.ends, ("www.land", "land")),
        (names.chain, ([".", "land", "shop.land"], "www.shop.land")), (names.zone_of, ([".", "land"], "www.land")),
        (reader.read_case, (CASE_TEXT,)), (reader.read_plan, (printer.plan_text(PLAN),)),
        (reader.read_table, ("wait 2 1 4",)), (reader.read_history, (printer.history_text(EVENTS),)),
        (printer.case_text, (CASE,)), (printer.plan_text, (PLAN,)), (printer.table_text, (((2, 1, 4),),)),
        (printer.history_text, (EVENTS,)),
        (realms.is_realm, (REALM,)), (realms.zone_names, (REALM,)), (realms.slots, (REALM,)),
        (realms.parent, (REALM, "land")), (realms.home, (REALM, SET)), (realms.lag_of, (REALM, SET)),
        (realms.is_slot, (REALM, SET)), (realms.is_item, (SET, item("v", "k"))), (realms.is_state, (REALM, START)),
        (realms.item_of, (START, SET)), (realms.is_on, (START, "s", "land")),
        (realms.is_deed, (REALM, START, CHANGE[0])), (realms.after, (REALM, START, CHANGE[0])),
        (realms.is_plan, (REALM, START, PLAN)), (realms.state_at, (REALM, START, PLAN, 5)),
        (chains.needed, (REALM, "land", "v")), (chains.is_good, (item("v", "k"), 5)),
        (chains.fits, (SET, item("v", "k"), ("keys", "land"), item("k", "k"))),
        (chains.fault, (REALM, held, "land", "v", 5)), (run_history, (World(REALM, START, PLAN), EVENTS)),
        (holding.spans, (REALM, START, PLAN, HOSTS)), (holding.off_spans, (START, PLAN, "t", "land")),
        (holding.over, (REALM, SET, item("v", "k"), 7)), (holding.can_hold, (REALM, START, PLAN, HOSTS, 5)),
        (judge.judge, (REALM, START, PLAN[:2], LAST)), (judge.history, (REALM, START, PLAN[2:], LAST)),
        (waits.rows_of, (REALM, START, CHANGE, 40)), (waits.begun_rows, (REALM, START, CHANGE, 40)),
        (rings.keeps, (rows, [2, 5, 20])), (rings.least_moments, (rows, 3)), (rings.find_ring, (list(ring), 1)),
        (rings.is_ring, (list(ring), list(ring))),
        (tables.is_row_of_deeds, (REALM, START, CHANGE)), (tables.is_bounds, (3, BOUNDS)),
        (tables.is_table, (3, ((3, 2, 9),))), (tables.run_table, (((3, 2, 9),), BOUNDS, (0, 1, 0))),
        (tables.plan_of, (CHANGE, (1, 3, 12))), (tables.check_table, (*whole_case, ((3, 2, 8),), 40)),
        (tables.table_of_rows, (rows, BOUNDS)), (tables.least_table, (*whole_case, 40)),
        (tables.too_early, (*whole_case, 40, (1, 3), 5)),
        (orders.is_possible, (REALM, START, CHANGE, ((1, 2),), (1, 2, 3))),
        (orders.finish, (*whole_case, 40, (1, 2, 3))), (orders.bound, (*whole_case, 40, (1, 2))),
        (orders.best_order, (*whole_case, 40, ((1, 2),))),
        (order_papers.order_paper, (*whole_case, 40, ((1, 2),))),
        (order_papers.check_paper, (*whole_case, 40, (), best, paper)),
        (lost.is_lost, (REALM, LOST)), (lost.is_strange, (REALM, START, PLAN, "land", "x")),
        (lost.can_plant, (REALM, START, PLAN, LOST, SET, item("x", "k"), 5)),
        (lost.can_be_false, (REALM, START, PLAN, LOST, "land", "v", 5)),
        (lost.clean_from, (REALM, START, PLAN, LOST, "land", "v", 5)),
        (lost.false_history, (REALM, START, PLAN, LOST, "land", "v", 5)),
        (book.read_book, ("asked 1 3\ndone 1 6\n",)), (book.entry_line, (("asked", 1, 3),)),
        (whole.is_case, (CASE_HERE,)), (whole.report, (CASE_HERE,)),
        (whole.play, (CASE_HERE, (0, 1, 0), ((3, 9),), EVENTS)),
        (followers.is_followed, (REALM, START, list(CHANGE))),
        (followers.run_follower, (World(REALM, START, PLAN), (60, 3), (*EVENTS, ("look", ())))),
        (follow.in_mind, (REALM, START, PLAN, (2, 3), 5)), (follow.follow_judge, (REALM, START, PLAN, (2, 3), 9)),
        (follow.follow_history, (REALM, START, PLAN[2:], (2, 3), LAST)),
        (follow_tables.follow_rows, (REALM, START, CHANGE, (2, 3), 40)),
        (follow_tables.follow_table, (*whole_case, (2, 3), 40)),
        (follow_tables.check_follow, (*whole_case, ((3, 2, 8),), (2, 3), 40)),
    ]


def spoil(value):
    """Change the lists in a value."""
    if isinstance(value, (list, tuple)):
        for part in value:
            spoil(part)
    if isinstance(value, list):
        value.append("spoilt")
        value.reverse()


def plain(value):
    """Return the value, with the fields of a world instead of it."""
    if isinstance(value, World):
        return (value.realm, value.state, value.plan)
    return tuple([plain(part) for part in value]) if isinstance(value, tuple) else value


class ArgumentsTest(unittest.TestCase):
    """0.5."""

    def test_all_functions_are_called(self):
        called = {function for function, _ in every_call()}
        modules = (names, reader, printer, realms, chains, holding, judge, waits, rings, tables, orders, order_papers,
                   lost, book, whole, followers, follow, follow_tables)
        wanted = {getattr(module, name) for module in modules
                  for name in FUNCTIONS[module.__name__.rpartition(".")[2]]}
        self.assertEqual(called, wanted | {run_history})

    def test_no_function_modifies_its_arguments(self):
        for function, arguments in every_call():
            kept = copy.deepcopy(plain(arguments))
            function(*arguments)
            self.assertEqual(plain(arguments), kept, function.__name__)

    def test_what_is_returned_may_be_changed(self):
        for function, arguments in every_call():
            told = function(*arguments)
            kept = copy.deepcopy(told)
            spoil(told)
            self.assertEqual(function(*arguments), kept, function.__name__)

    def test_what_was_passed_may_be_changed_afterwards(self):
        for function, arguments in every_call():
            told = function(*arguments)
            kept = copy.deepcopy(told)
            for argument in arguments:
                if isinstance(argument, (list, dict)):
                    argument.clear()
            self.assertEqual(told, kept, function.__name__)

    def test_kinds_of_values(self):
        def check(value, what):
            self.assertIn(type(value), (int, str, bool, type(None), tuple, list), what)
            if isinstance(value, (tuple, list)):
                for part in value:
                    check(part, what)
        for function, arguments in every_call():
            told = function(*arguments)
            check(told, function.__name__)
            # True and False are told by questions alone, and never among other values.
            questions = ("is_", "ends", "fits", "keeps", "can_plant", "can_be_false", "check_paper")
            self.assertEqual(isinstance(told, bool), function.__name__.startswith(questions), function.__name__)
            if isinstance(told, (tuple, list)):
                self.assertNotIn("bool", [type(part).__name__ for part in flat(told)], function.__name__)

    def test_lists_where_the_interface_says_so(self):
        lists = {"labels", "chain", "run_history", "spans", "off_spans", "can_hold", "find_ring", "read_book", "report",
                 "run_follower", "in_mind"}
        for function, arguments in every_call():
            self.assertEqual(isinstance(function(*arguments), list), function.__name__ in lists, function.__name__)

    def test_objects(self):
        world = World(REALM, START, PLAN)
        self.assertEqual((world.realm, world.state, world.plan), (REALM, START, PLAN))
        for asker in (Asker(world), followers.Follower(world, (60, 3))):
            for event in EVENTS:
                spoil(asker.handle(event))
                spoil(asker.kept())
            self.assertEqual(asker.kept(), sorted(asker.kept(), key=lambda row: realms.slots(REALM).index(row[0])))
            self.assertNotIn("spoilt", asker.kept())
        one = hand.Hand(((1, 0, 3),), 2, "")
        one.next(3)
        spoil([one.done(), one.book()])
        self.assertEqual((one.done(), one.book()), ((), "asked 1 3\n"))


def flat(value):
    """Return all values in a value that are no tuples and lists."""
    if not isinstance(value, (tuple, list)):
        return [value]
    return [one for part in value for one in flat(part)]


class ErrorsTest(unittest.TestCase):
    """0.6."""

    def test_all_errors_are_of_one_kind(self):
        found = []
        for name in sorted(os.listdir(PACKAGE)):
            if name.endswith(".py"):
                module = importlib.import_module(f"neverdark.{name[:-3]}" if name != "__init__.py" else "neverdark")
                for _, held in inspect.getmembers(module, inspect.isclass):
                    if issubclass(held, BaseException):
                        self.assertTrue(issubclass(held, errors.NeverdarkError), held)
                        found.append(held)
        self.assertIn(errors.BadText, found)
        self.assertTrue(issubclass(errors.NeverdarkError, ValueError))

    def test_the_errors_that_the_document_names(self):
        other = hand.Hand((), 1, "asked 1 3\n")
        calls = [
            ("line", 1, lambda: reader.read_table("x")), ("line", 2, lambda: book.read_book("asked 1 3\nx\n")),
            ("word", "deed", lambda: realms.after(REALM, START, ("on", "s", "land"))),
            ("word", "time", lambda: run_history(World(REALM, START, ()), (("go", 3), ("go", 2)))),
            ("word", "deeds", lambda: waits.rows_of(REALM, START, CHANGE[:1] * 2, 40)),
            ("word", "deeds", lambda: follow_tables.follow_rows(REALM, START, CHANGE[:1] * 2, (2, 3), 40)),
            ("word", "delays", lambda: tables.run_table((), ((0, 0),), (1,))),
            ("word", "delays", lambda: whole.play(CASE_HERE, (9, 9, 9), (), ())),
            ("word", "table", lambda: whole.play((*CASE_HERE[:5], 5), (0, 1, 0), (), ())),
            ("word", "time", lambda: other.next(2)), ("word", "time", lambda: other.see(2)),
            ("word", "deed", lambda: hand.Hand((), 1, "").see(2)),
            ("word", "book", lambda: hand.Hand((), 1, "asked 1 3\ndone 1 3\nasked 2 4\n")),
            ("word", "look", lambda: followers.Follower(World(REALM, START, ()), (2, 3)).handle(("go", 3))),
        ]
        for attribute, wanted, call in calls:
            with self.assertRaises(errors.NeverdarkError) as caught:
                call()
            self.assertIs(type(caught.exception), errors.BadText if attribute == "line" else errors.NotAllowed)
            self.assertEqual(getattr(caught.exception, attribute), wanted)


class MomentsTest(unittest.TestCase):
    """0.7."""

    def test_the_greatest_moment(self):
        plan = ((LAST, ("put", SET, item("x", "x"))),)
        self.assertEqual(judge.judge(REALM, START, plan, LAST), (LAST, "set", SET))
        self.assertEqual(run_history(World(REALM, START, plan), judge.history(REALM, START, plan, LAST))[-1],
                         ("dark", "set", SET))
        self.assertEqual(follow.follow_judge(REALM, START, plan, (1000, 1), LAST), (LAST, "set", SET))
        told = lost.false_history(REALM, START, (), (("land", "k", LAST),), "land", "v", LAST)
        self.assertEqual(run_history(World(REALM, START, ()), told)[-1][0], "told")
        one = hand.Hand(((1, 0, LAST),), 1, "")
        self.assertEqual(one.next(LAST - 1), ("wait", LAST))
        self.assertEqual(one.next(LAST), ("ask", 1))
        one.see(LAST)
        self.assertEqual(one.next(LAST), ("end",))
        late = (("put", SET, item("x", "k", 1, LAST)),)
        self.assertEqual(whole.report((REALM, START, late, ((0, 0),), (), LAST)),
                         ["wait 1 0 10000", "done 10000 to 10000", "order 1 until 10000"])
        self.assertEqual(whole.play((REALM, START, late, ((0, 0),), (), LAST), (0,), (), ()), (((LAST, late[0]),), []))


class GuaranteeTest(unittest.TestCase):
    """0.3: what is told about tables, and the histories that go with it."""

    def test_a_table_that_is_not_accepted_comes_with_a_dark_history(self):
        found = 0
        for seed in range(300):
            draw = random.Random(seed)
            realm, state, deeds = draw_change(seed, 4)
            bounds = draw_bounds(draw, len(deeds))
            end = draw.randint(10, 60)
            told = tables.check_table(realm, state, deeds, bounds, (), end)
            if told is None:
                continue
            done = tables.run_table((), bounds, told)[1]
            plan = tables.plan_of(deeds, done)
            events = judge.history(realm, state, plan, end)
            self.assertTrue(done[-1] > end or events is not None)
            if events is not None:
                self.assertEqual(run_history(World(realm, state, plan), events)[-1][0], "dark")
                found += 1
        self.assertGreater(found, 100)

    def test_the_same_for_followers(self):
        found = 0
        for seed in range(300):
            draw = random.Random(seed)
            realm, state, deeds = draw_followed(seed, 4)
            bounds = draw_bounds(draw, len(deeds))
            rhythm = draw_rhythm(draw)
            told = follow_tables.check_follow(realm, state, deeds, bounds, (), rhythm, 40)
            if told is None:
                continue
            done = tables.run_table((), bounds, told)[1]
            plan = tables.plan_of(deeds, done)
            events = follow.follow_history(realm, state, plan, rhythm, 40)
            self.assertTrue(done[-1] > 40 or events is not None)
            if events is not None:
                self.assertEqual(followers.run_follower(World(realm, state, plan), rhythm, events)[-1][0], "dark")
                found += 1
        self.assertGreater(found, 100)

    def test_texts_of_what_is_told(self):
        # Plans, histories and tables that the package makes are read back from their texts.
        for realm, state, plan, _ in follow_worlds(100):
            self.assertEqual(reader.read_plan(printer.plan_text(plan)), plan)
            events = judge.history(realm, state, plan, 40) or ()
            self.assertEqual(reader.read_history(printer.history_text(events)), events)
            lost_keys = tuple([(zone, "k", 3) for zone, _ in realm[0]])
            for name, kind in realm[2]:
                events = lost.false_history(realm, state, plan, lost_keys, name, kind, 9) or ()
                self.assertEqual(reader.read_history(printer.history_text(events)), events)
        for seed in range(50):
            draw = random.Random(seed)
            realm, state, deeds = draw_change(seed, 4)
            table = tables.least_table(realm, state, deeds, draw_bounds(draw, len(deeds)), 80) or ()
            self.assertEqual(reader.read_table(printer.table_text(table)), table)
            done = draw_moments(draw, len(deeds), 9)
            plan = tables.plan_of(deeds, done)
            self.assertEqual(reader.read_plan(printer.plan_text(plan)), plan)
            self.assertIs(realms.is_plan(realm, state, plan), True)


if __name__ == "__main__":
    unittest.main()
