"""8.5 and 8.6: papers that show that an answer is the best order."""

import itertools
import random
import time
import unittest

from neverdark.order_papers import check_paper, order_paper
from neverdark.orders import best_order, bound, finish, is_possible
from neverdark.realms import slots
from neverdark.tables import is_row_of_deeds, table_of_rows
from neverdark.waits import begun_rows
from tests.samples import wrong_kinds
from tests.small import chosen, draw_change, draw_world, hosts, item, order_cases, orders, realm_of, state_of

REALM = realm_of({".": 1, "land": 2}, ((".", "ns"), ("land", "v")))
HOSTS = ("hosts", "land")
TOP = ("set", ".", "ns")
START = state_of(REALM, {HOSTS: hosts("s", 9)})

# Deeds that do not depend on one another.
FREE = tuple([("on", server, "land") for server in "abcdef"])
# A server is replaced: there is one order only in which nobody is dark.
ON = ("on", "t", "land")
PUT = ("put", HOSTS, hosts("t", 4))
OFF = ("off", "s", "land")
# An item that stays and is late: no order that ends with it has a finish.
LATE = ("put", TOP, item("v", "k", 1, 0, 50))
GOOD = ("put", TOP, item("v", "k", 1))

WHOLE = ("whole",)
NONE = ("none",)
LATER = ("late",)
FORBIDDEN = ("forbidden",)
PAIR = (REALM, START, FREE[:2], ((1, 4), (2, 2)), 100, ())
PAIR_ANSWER = ((1, 2), 8)
PAIR_PAPER = ("next", ((1, ("next", ((2, WHOLE),))), (2, LATER)))


def node_at(paper, beginning):
    """Return the node of the paper for a beginning."""
    for k in beginning:
        paper = dict(paper[1])[k]
    return paper


def with_node(paper, beginning, node):
    """Return the paper with another node for a beginning."""
    if not beginning:
        return node
    children = [(k, with_node(child, beginning[1:], node) if k == beginning[0] else child) for k, child in paper[1]]
    return ("next", tuple(children))


def beginnings(paper, beginning=()):
    """Return the beginnings for which the paper has nodes."""
    found = [beginning]
    if paper[0] == "next":
        for k, node in paper[1]:
            found.extend(beginnings(node, (*beginning, k)))
    return found


def full_tree(count, closing, beginning=()):
    """Return a tree of `next` nodes down to all deeds, but for the nodes of a dict."""
    if beginning in closing:
        return closing[beginning]
    left = [k for k in range(1, count + 1) if k not in beginning]
    if not left:
        return WHOLE
    return ("next", tuple([(k, full_tree(count, closing, (*beginning, k))) for k in left]))


class PlainReading:
    """The words of 8.5, one after another."""

    def __init__(self, case, answer):
        self.realm, self.state, self.deeds, self.bounds, self.end, self.before = case
        self.case = case[:5]
        self.answer = answer

    def is_allowed(self, numbers):
        return not numbers or is_row_of_deeds(self.realm, self.state, chosen(self.deeds, numbers))

    def begun_table(self, numbers):
        rows = begun_rows(self.realm, self.state, chosen(self.deeds, numbers), self.end)
        return table_of_rows(rows, chosen(self.bounds, numbers))

    def closes(self, beginning, node):
        if not isinstance(node, tuple) or len(node) not in (1, 2) or not isinstance(node[0], str):
            return False
        names = {("next", 2): self.next, ("before", 2): self.before_node, ("forbidden", 1): self.forbidden,
                 ("none", 1): self.none, ("late", 1): self.late, ("whole", 1): self.whole}
        kind = (node[0], len(node))
        if kind not in names or (node[0] != "next" and not beginning):
            return False
        return names[kind](beginning, *node[1:])

    def next(self, beginning, children):
        if not isinstance(children, tuple) or not children:
            return False
        if not all(isinstance(child, tuple) and len(child) == 2 for child in children):
            return False
        left = sorted(set(range(1, len(self.deeds) + 1)) - set(beginning))
        if [child[0] for child in children] != left:
            return False
        return all(self.closes(beginning + (k,), node) for k, node in children)

    def before_node(self, beginning, i):
        return any(pair == (i, beginning[-1]) for pair in self.before) and i not in beginning

    def forbidden(self, beginning):
        return self.is_allowed(beginning[:-1]) and not self.is_allowed(beginning)

    def none(self, beginning):
        return self.is_allowed(beginning) and self.begun_table(beginning) is None

    def late(self, beginning):
        if self.answer is None or not self.is_allowed(beginning) or self.begun_table(beginning) is None:
            return False
        least = bound(*self.case, beginning)
        order, moment = self.answer
        return least > moment or (least == moment and beginning > order[:len(beginning)])

    def whole(self, beginning):
        if len(beginning) != len(self.deeds) or not self.is_allowed(beginning):
            return False
        moment = finish(*self.case, beginning)
        if moment is None:
            return True
        return self.answer is not None and not (moment, beginning) < self.answer[::-1]

    def takes(self, paper):
        if self.answer is not None:
            order, moment = self.answer
            if not is_possible(self.realm, self.state, self.deeds, self.before, order):
                return False
            if finish(*self.case, order) != moment:
                return False
        return self.closes((), paper)


class Papers(unittest.TestCase):
    def assert_taken(self, case, answer, paper):
        self.assertIs(check_paper(*case, answer, paper), True, (answer, paper))

    def assert_refused(self, case, answer, paper):
        self.assertIs(check_paper(*case, answer, paper), False, (answer, paper))

    def assert_node(self, right, case, answer, beginning, node, closing=()):
        """Check a node in a tree whose other nodes are `next` and `whole`, but for those of a dict."""
        paper = full_tree(len(case[2]), {**dict(closing), beginning: node})
        self.assertIs(check_paper(*case, answer, paper), right, (answer, beginning, node))


class OrderPaperTest(Papers):
    def test_the_example(self):
        self.assert_taken(PAIR, PAIR_ANSWER, PAIR_PAPER)
        self.assert_taken(PAIR, PAIR_ANSWER, order_paper(*PAIR))

    def test_an_order_of_one_deed(self):
        case = (REALM, START, (ON,), ((2, 7),), 100, ())
        self.assert_taken(case, ((1,), 8), order_paper(*case))
        self.assert_taken(case, ((1,), 8), ("next", ((1, WHOLE),)))
        for deed, end in ((ON, 7), (("on", "s", "land"), 100), (OFF, 100), (LATE, 100)):
            case = (REALM, START, (deed,), ((2, 7),), end, ())
            self.assertIsNone(best_order(*case))
            self.assert_taken(case, None, order_paper(*case))

    def check_drawn(self, cases, least):
        found = {True: 0, False: 0}
        kinds = set()
        for case in cases:
            answer = best_order(*case)
            paper = order_paper(*case)
            self.assert_taken(case, answer, paper)
            self.assertIs(PlainReading(case, answer).takes(paper), True, case)
            kinds |= {node_at(paper, beginning)[0] for beginning in beginnings(paper)}
            found[answer is None] += 1
        self.assertGreater(min(found.values()), least)
        return kinds

    def test_few_deeds(self):
        kinds = self.check_drawn(order_cases(300), 50)
        self.assertEqual(kinds, {"next", "before", "forbidden", "none", "late", "whole"})

    def test_many_deeds(self):
        self.check_drawn(order_cases(60, (5, 6)), 10)

    def test_six_deeds_of_which_no_order_has_a_finish(self):
        realm = realm_of({".": 100, "a": 7, "b.a": 9, "c.b.a": 3, "d.c.b.a": 50, "e": 0})
        late = ("put", ("set", ".", "v"), item("v", "k", 1, 0, 9000))
        row = tuple([("put", slot, item("k", "k", 900)) for slot in slots(realm) if slot[0] == "keys"])[:5] + (late,)
        case = (realm, state_of(realm, life=1000), row, ((3, 1000),) * 6, 10000, ())
        begun = time.perf_counter()
        self.assert_taken(case, None, order_paper(*case))
        free = (REALM, START, FREE, ((0, 1000),) * 6, 10000, ())
        self.assert_taken(free, (tuple(range(1, 7)), 6006), order_paper(*free))
        self.assertLess(time.perf_counter() - begun, 20)

    def test_the_arguments_stay(self):
        for seed in range(30):
            realm, state, deeds = draw_world(seed, 3, 1) if seed % 2 else draw_change(seed, 3)
            case = (realm, state, deeds, ((0, 2),) * len(deeds), 40, ())
            kept = repr(case)
            paper = order_paper(*case)
            self.assertIsInstance(paper, tuple)
            self.assertEqual(order_paper(*case), paper)
            check_paper(*case, best_order(*case), paper)
            self.assertEqual(repr(case), kept)


class NextTest(Papers):
    def test_children(self):
        # Three free deeds; the answer is the least tuple, so all whole orders are closed by `whole`.
        case = (REALM, START, FREE[:3], ((0, 3),) * 3, 100, ())
        answer = ((1, 2, 3), 12)
        paper = full_tree(3, {})
        self.assert_taken(case, answer, paper)
        for beginning in ((), (1,), (3,), (2, 3)):
            children = node_at(paper, beginning)[1]
            missing = [children[:at] + children[at + 1:] for at in range(len(children))]
            doubled = [children[:at] + (children[at],) + children[at:] for at in range(len(children))]
            more = [children + ((k, WHOLE),) for k in (0, 4, *beginning, "1", (1,))]
            first = [((k, WHOLE),) + children for k in (0, -1, *beginning)]
            turned = [order for order in itertools.permutations(children) if order != children]
            for wrong in missing + doubled + more + first + turned + [(), "", "ab", 5, children[0]]:
                self.assert_refused(case, answer, with_node(paper, beginning, ("next", wrong)))
            self.assert_refused(case, answer, with_node(paper, beginning, ("next",)))
            self.assert_refused(case, answer, with_node(paper, beginning, ("next", children, ())))
            self.assert_refused(case, answer, with_node(paper, beginning, ("next", *children)))

    def test_other_numbers_for_the_same_nodes(self):
        case = (REALM, START, FREE[:3], ((0, 3),) * 3, 100, ())
        paper = full_tree(3, {})
        for children in [((1, 0), (2, 0), (4, 0)), ((0, 0), (1, 0), (2, 0)), ((1, 0), (2, 0), (2, 0))]:
            wrong = tuple([(k, node) for (k, _), (_, node) in zip(children, paper[1])])
            self.assert_refused(case, ((1, 2, 3), 12), ("next", wrong))

    def test_children_that_are_no_pairs(self):
        case = (REALM, START, FREE[:1], ((0, 3),), 100, ())
        self.assert_taken(case, ((1,), 4), ("next", ((1, WHOLE),)))
        for child in [(1,), (1, WHOLE, WHOLE), (), 1, "ab", WHOLE, (1, "whole"), (1, 1), (WHOLE, 1), ("1", WHOLE)]:
            self.assert_refused(case, ((1,), 4), ("next", (child,)))

    def test_below_all_deeds(self):
        self.assert_node(True, PAIR, PAIR_ANSWER, (2, 1), WHOLE)
        for children in ((), ((1, WHOLE),), ((3, WHOLE),), ((2, ("next", ())),)):
            self.assert_node(False, PAIR, PAIR_ANSWER, (2, 1), ("next", children))

    def test_below_a_deed_that_is_not_allowed(self):
        # `next` may stand there; what stands below may be closed by a pair only.
        deeds = (("on", "s", "land"), ON, FREE[0])
        case = (REALM, START, deeds, ((0, 3),) * 3, 100, ((2, 3), (3, 2)))
        self.assertIsNone(best_order(*case[:5], ((2, 3),)))
        for word, right in ((("before", 3), True), (FORBIDDEN, False), (NONE, False), (WHOLE, False)):
            below = ("next", ((2, word), (3, ("before", 2))))
            paper = ("next", ((1, below), (2, ("before", 3)), (3, ("before", 2))))
            self.assert_node(right, case, None, (), paper)


class BeforeTest(Papers):
    CASE = (REALM, START, FREE[:3], ((0, 3),) * 3, 100, ((2, 1), (3, 1)))
    ANSWER = ((2, 3, 1), 12)
    CLOSING = {(1,): ("before", 2), (2, 1): ("before", 3), (3, 1): ("before", 2)}

    def assert_before(self, right, beginning, node):
        self.assert_node(right, self.CASE, self.ANSWER, beginning, node, self.CLOSING)

    def test_pairs(self):
        self.assert_taken(self.CASE, self.ANSWER, full_tree(3, self.CLOSING))
        for i in (2, 3):
            self.assert_before(True, (1,), ("before", i))
        self.assert_before(True, (2, 1), ("before", 3))
        self.assert_before(True, (3, 1), ("before", 2))

    def test_wrong_pairs(self):
        for i in (0, 1, 4, -1, "2", (2,), (), ((2, 1),), "", (2, 1)):
            self.assert_before(False, (1,), ("before", i))
        # The pair is one of 2 and 1, but 2 is in the beginning already.
        self.assert_before(False, (2, 1), ("before", 2))
        # It is not a pair of the last deed.
        for beginning in ((2,), (3,), (2, 3), (3, 2)):
            for i in (1, 2, 3):
                self.assert_before(False, beginning, ("before", i))

    def test_a_pair_of_a_deed_before_the_last_one(self):
        case = (REALM, START, FREE[:3], ((0, 3),) * 3, 100, ((3, 1),))
        answer = ((2, 3, 1), 12)
        closing = {(1,): ("before", 3), (2, 1): ("before", 3), (3,): LATER}
        self.assert_taken(case, answer, full_tree(3, closing))
        closing[(1,)] = ("next", ((2, ("before", 3)), (3, LATER)))
        self.assert_refused(case, answer, full_tree(3, closing))

    def test_at_the_root(self):
        for i in (0, 1, 2, 3):
            self.assert_refused(self.CASE, self.ANSWER, ("before", i))

    def test_other_shapes(self):
        for node in (("before",), ("before", 2, 1), ("before", 2, 2), ("before", (2, 1))):
            self.assert_before(False, (1,), node)


class ForbiddenTest(Papers):
    # The deed 1 is never allowed, 2 is allowed behind 3 only.
    DEEDS = (("on", "s", "land"), ("off", "t", "land"), ON)

    def test_the_last_deed(self):
        case = (REALM, START, self.DEEDS, ((0, 3),) * 3, 100, ())
        self.assertIsNone(best_order(*case))
        closing = {(1,): FORBIDDEN, (2,): FORBIDDEN, (3, 1): FORBIDDEN, (3, 2, 1): FORBIDDEN}
        self.assert_taken(case, None, full_tree(3, closing))
        # The deed that is not allowed does not stand at the end, but before it.
        closing.pop((2,))
        for other in ({(2, 1): FORBIDDEN, (2, 3): FORBIDDEN}, {(2, 1, 3): FORBIDDEN, (2, 3, 1): FORBIDDEN}):
            self.assert_refused(case, None, full_tree(3, {**closing, **other}))

    def test_a_last_deed_that_is_allowed(self):
        case = (REALM, START, self.DEEDS[1:], ((0, 3),) * 2, 100, ())
        answer = ((2, 1), 8)
        self.assert_taken(case, answer, full_tree(2, {(1,): FORBIDDEN}))
        self.assert_node(False, case, answer, (2,), FORBIDDEN, {(1,): FORBIDDEN})
        self.assert_node(False, case, answer, (2, 1), FORBIDDEN, {(1,): FORBIDDEN})
        self.assert_node(False, case, answer, (1, 2), FORBIDDEN)

    def test_at_the_root(self):
        case = (REALM, START, self.DEEDS[:1], ((0, 3),), 100, ())
        self.assert_taken(case, None, ("next", ((1, FORBIDDEN),)))
        self.assert_refused(case, None, FORBIDDEN)

    def test_other_shapes(self):
        case = (REALM, START, self.DEEDS[:1], ((0, 3),), 100, ())
        for node in (("forbidden", 1), ("forbidden", ()), ("Forbidden",), ("forbidden ",), "forbidden"):
            self.assert_refused(case, None, ("next", ((1, node),)))


class NoneTest(Papers):
    def test_a_begun_table_that_is_none(self):
        case = (REALM, START, (OFF, FREE[0]), ((0, 3),) * 2, 100, ())
        self.assertIsNone(best_order(*case))
        self.assert_taken(case, None, full_tree(2, {(1,): NONE, (2, 1): NONE}))
        self.assert_taken(case, None, full_tree(2, {}))
        self.assert_node(True, case, None, (1, 2), NONE)
        self.assert_node(False, case, None, (2,), NONE)

    def test_a_begun_table_that_is_not_none(self):
        # All orders with LATE at the end of its slot have no finish, but the beginnings have tables.
        case = (REALM, START, (LATE, FREE[0]), ((0, 3),) * 2, 100, ())
        self.assertIsNone(best_order(*case))
        self.assert_taken(case, None, full_tree(2, {}))
        for beginning in ((1,), (2,), (1, 2), (2, 1)):
            self.assert_node(False, case, None, beginning, NONE)

    def test_deeds_that_are_not_allowed(self):
        case = (REALM, START, (("on", "s", "land"), OFF), ((0, 3),) * 2, 100, ())
        self.assertIsNone(best_order(*case))
        closing = {(1,): FORBIDDEN, (2,): NONE}
        self.assert_taken(case, None, full_tree(2, closing))
        self.assert_node(False, case, None, (1,), NONE, closing)
        self.assert_node(False, case, None, (1, 2), NONE, {(2,): NONE})

    def test_at_the_root(self):
        # Even a beginning without deeds could have no table: here the end of a first item is late.
        state = state_of(REALM, {TOP: item("v", "x")})
        case = (REALM, state, (FREE[0],), ((0, 3),), 100, ())
        self.assert_taken(case, None, ("next", ((1, NONE),)))
        self.assert_refused(case, None, NONE)
        self.assert_refused(case, None, WHOLE)

    def test_other_shapes(self):
        case = (REALM, START, (OFF,), ((0, 3),), 100, ())
        self.assert_taken(case, None, ("next", ((1, NONE),)))
        for node in (("none", 1), ("none", ()), ("None",), (None,), None, "none", ()):
            self.assert_refused(case, None, ("next", ((1, node),)))


class LateTest(Papers):
    def test_bounds_and_finishes(self):
        # The old hosts item is over nine moments after PUT: there is one best order, and worse ones.
        deeds = (ON, PUT, FREE[0])
        case = (REALM, START, deeds, ((0, 0), (0, 0), (0, 2)), 100, ((1, 2),))
        self.assertEqual(best_order(*case), ((1, 2, 3), 5))
        for order in ((1, 2, 3), (1, 3, 2), (3, 1, 2)):
            answer = (order, 5)
            for beginning in ((1,), (3,), (1, 2), (1, 3), (3, 1), (1, 2, 3), (1, 3, 2), (3, 1, 2)):
                self.assertEqual(bound(*case[:5], beginning), 5)
                right = PlainReading(case, answer).closes(beginning, LATER)
                self.assertIs(right, beginning > order[:len(beginning)])
                closing = {(2,): ("before", 1), (3, 2): ("before", 1)}
                if order == (1, 2, 3):
                    self.assert_node(right, case, answer, beginning, LATER, closing)

    def test_a_bound_greater_than_the_finish_and_one_less(self):
        # Of ON, PUT, OFF and another deed: the other deed fills the wait for OFF.
        deeds = (ON, PUT, OFF, FREE[0])
        case = (REALM, START, deeds, ((0, 0), (0, 0), (0, 0), (0, 3)), 100, ())
        answer = best_order(*case)
        self.assertEqual(answer, ((1, 2, 4, 3), 11))
        closing = {(2,): NONE, (3,): NONE}
        tree = full_tree(4, closing)
        self.assert_taken(case, answer, tree)
        told = set()
        for beginning in beginnings(tree):
            if len(beginning) > 0 and beginning[0] in (1, 4):
                least = bound(*case[:5], beginning)
                right = least is not None and (least, beginning) > (11, answer[0][:len(beginning)])
                told.add((least, right))
                self.assert_node(right, case, answer, beginning, LATER, closing)
        self.assertLessEqual({(None, False), (15, True), (11, False), (7, False)}, told)

    def test_a_bound_equal_to_the_finish_and_one_less(self):
        # OFF waits for the old hosts item, put away by PUT, to be over; the third deed fills the wait.
        on = (("s", "land"), ("t", "land"))
        for life, finished, right in ((2, 3, True), (3, 4, False)):
            state = state_of(REALM, {HOSTS: hosts("s", life)}, on)
            case = (REALM, state, (OFF, PUT, FREE[0]), ((0, 0),) * 3, 100, ())
            answer = ((2, 3, 1), finished)
            self.assertEqual(best_order(*case), answer)
            self.assert_taken(case, answer, full_tree(3, {(1,): NONE}))
            for beginning in ((3,), (3, 2)):
                self.assertEqual(bound(*case[:5], beginning), 3)
                self.assert_node(right, case, answer, beginning, LATER, {(1,): NONE})
            # A beginning of the order itself is never late, and here its bound is less or equal.
            for beginning in ((2,), (2, 3), (2, 3, 1)):
                self.assert_node(False, case, answer, beginning, LATER, {(1,): NONE})
            # This one has a greater bound and is a lesser tuple than the beginning of the order.
            self.assertEqual(bound(*case[:5], (2, 1)), finished + 1)
            self.assert_node(True, case, answer, (2, 1), LATER, {(1,): NONE})

    def test_the_answer_none(self):
        case = (REALM, START, (OFF, FREE[0]), ((0, 3),) * 2, 100, ())
        for beginning in ((1,), (2,), (1, 2), (2, 1)):
            self.assert_node(False, case, None, beginning, LATER)
        case = (REALM, START, (LATE, FREE[0]), ((0, 3),) * 2, 100, ())
        for beginning in ((1,), (2,), (1, 2), (2, 1)):
            self.assertIsNotNone(bound(*case[:5], beginning))
            self.assert_node(False, case, None, beginning, LATER)

    def test_no_bound_and_deeds_that_are_not_allowed(self):
        case = (REALM, START, (ON, PUT, OFF), ((0, 0),) * 3, 100, ())
        answer = ((1, 2, 3), 11)
        closing = {(2,): NONE, (3,): NONE, (1, 3): NONE}
        self.assert_taken(case, answer, full_tree(3, closing))
        for beginning in closing:
            self.assertIsNone(bound(*case[:5], beginning))
            self.assert_node(False, case, answer, beginning, LATER, closing)
        case = (REALM, START, (ON, ("off", "t", "land")), ((0, 0),) * 2, 100, ())
        self.assert_taken(case, ((1, 2), 2), full_tree(2, {(2,): FORBIDDEN}))
        self.assert_node(False, case, ((1, 2), 2), (2,), LATER)
        self.assert_node(False, case, ((1, 2), 2), (2, 1), LATER)

    def test_at_the_root(self):
        self.assert_refused(PAIR, PAIR_ANSWER, LATER)

    def test_other_shapes(self):
        self.assert_node(True, PAIR, PAIR_ANSWER, (2,), LATER)
        for node in (("late", 1), ("late", ()), ("later",), "late"):
            self.assert_node(False, PAIR, PAIR_ANSWER, (2,), node)


class WholeTest(Papers):
    def test_the_order_of_the_answer_itself(self):
        self.assert_node(True, PAIR, PAIR_ANSWER, (1, 2), WHOLE)
        self.assert_node(True, PAIR, PAIR_ANSWER, (2, 1), WHOLE)

    def test_a_pair_that_is_less(self):
        # (2, 1) has the same finish, and is possible; (1, 2) is less.
        self.assertEqual(finish(*PAIR[:5], (2, 1)), 8)
        self.assert_refused(PAIR, ((2, 1), 8), full_tree(2, {}))
        self.assert_refused(PAIR, ((2, 1), 8), full_tree(2, {(1,): LATER}))
        self.assert_refused(PAIR, ((2, 1), 8), full_tree(2, {(1, 2): LATER}))

    def test_an_order_that_breaks_before(self):
        # Then its pair is less than that of the answer, and it needs a node `before`.
        case = PAIR[:5] + (((2, 1),),)
        answer = ((2, 1), 8)
        self.assertEqual(best_order(*case), answer)
        self.assert_node(False, case, answer, (1, 2), WHOLE)
        self.assert_node(True, case, answer, (1,), ("before", 2))
        # One that is not less may have a node `whole`, whatever `before` says.
        case = PAIR[:5] + (((1, 2),),)
        self.assert_node(True, case, PAIR_ANSWER, (2, 1), WHOLE)

    def test_no_finish(self):
        case = (REALM, START, (LATE, GOOD), ((0, 3),) * 2, 100, ())
        answer = ((1, 2), 8)
        self.assertEqual(best_order(*case), answer)
        self.assertIsNone(finish(*case[:5], (2, 1)))
        self.assert_taken(case, answer, full_tree(2, {}))
        case = case[:5] + (((2, 1),),)
        self.assertIsNone(best_order(*case))
        self.assert_taken(case, None, full_tree(2, {(1,): ("before", 2)}))
        self.assert_refused(case, None, full_tree(2, {}))

    def test_a_beginning_with_fewer_deeds(self):
        for beginning in ((1,), (2,)):
            self.assert_node(False, PAIR, PAIR_ANSWER, beginning, WHOLE)
        self.assert_refused(PAIR, PAIR_ANSWER, WHOLE)
        case = (REALM, START, (OFF, FREE[0]), ((0, 3),) * 2, 100, ())
        self.assert_node(False, case, None, (1,), WHOLE)

    def test_deeds_that_are_not_allowed(self):
        case = (REALM, START, (ON, ("off", "t", "land")), ((0, 0),) * 2, 100, ())
        self.assert_node(False, case, ((1, 2), 2), (2, 1), WHOLE)
        case = (REALM, START, (("on", "s", "land"),), ((0, 0),), 100, ())
        self.assert_refused(case, None, ("next", ((1, WHOLE),)))

    def test_the_answer_none(self):
        self.assert_node(False, PAIR, None, (1, 2), WHOLE)
        case = (REALM, START, (LATE,), ((0, 0),), 100, ())
        self.assert_taken(case, None, ("next", ((1, WHOLE),)))

    def test_other_shapes(self):
        for node in (("whole", 1), ("whole", ()), ("hole",), "whole", ()):
            self.assert_node(False, PAIR, PAIR_ANSWER, (1, 2), node)


class AnswerTest(Papers):
    def test_another_finish(self):
        for moment in (-1, 0, 7, 9, 100):
            self.assert_refused(PAIR, ((1, 2), moment), PAIR_PAPER)
            self.assert_refused(PAIR, ((1, 2), moment), full_tree(2, {}))

    def test_none_where_there_is_an_order(self):
        self.assert_refused(PAIR, None, PAIR_PAPER)
        self.assert_refused(PAIR, None, full_tree(2, {}))

    def test_an_order_where_there_is_none(self):
        case = (REALM, START, (OFF, FREE[0]), ((0, 3),) * 2, 100, ())
        paper = order_paper(*case)
        self.assert_taken(case, None, paper)
        for order in orders(2):
            for moment in (0, 8, 100):
                self.assert_refused(case, (order, moment), paper)

    def test_an_order_that_is_not_possible(self):
        case = PAIR[:5] + (((2, 1),),)
        self.assert_refused(case, PAIR_ANSWER, PAIR_PAPER)
        self.assert_taken(case, ((2, 1), 8), order_paper(*case))
        case = (REALM, START, (("off", "t", "land"), ON), ((0, 0),) * 2, 100, ())
        self.assert_taken(case, ((2, 1), 2), order_paper(*case))
        for moment in (2, 3):
            self.assert_refused(case, ((1, 2), moment), order_paper(*case))
            self.assert_refused(case, ((1, 2), moment), full_tree(2, {(1,): FORBIDDEN}))

    def test_orders_that_are_not_the_best(self):
        refused = 0
        for case in order_cases(150, (2, 3)):
            best = best_order(*case)
            for order in orders(len(case[2])):
                if best is None or not is_possible(*case[:3], case[5], order):
                    continue
                moment = finish(*case[:5], order)
                if moment is not None and order != best[0]:
                    self.assert_refused(case, (order, moment), order_paper(*case))
                    self.assert_refused(case, (order, moment), full_tree(len(case[2]), {}))
                    refused += 1
        self.assertGreater(refused, 100)


class OtherPapersTest(Papers):
    def test_papers_that_are_no_nodes(self):
        for paper in ((), "", "next", "whole", 0, 5, -1, ((),), ("",), (5,), (("next",),), ("next", "12"), ("next", 0),
                      ("", ()), ("other",), ("other", ()), (("next", PAIR_PAPER[1]),), (1, 2), PAIR_PAPER[1],
                      ("NEXT", PAIR_PAPER[1]), PAIR_PAPER + ((),)):
            self.assert_refused(PAIR, PAIR_ANSWER, paper)
            self.assert_refused(PAIR, None, paper)

    def test_deep_papers(self):
        for paper in ((), 5, "a", WHOLE):
            for _ in range(14):
                paper = ("next", ((1, paper),))
            self.assert_refused(PAIR, PAIR_ANSWER, paper)
        paper = ()
        for _ in range(30):
            paper = (paper,)
        for node in (paper, ("next", paper), ("before", paper), ("next", ((1, paper), (2, LATER)))):
            self.assert_refused(PAIR, PAIR_ANSWER, node)

    def test_one_place_of_another_kind(self):
        for paper in (PAIR_PAPER, order_paper(*PAIR[:5], ((2, 1),))):
            case = PAIR if paper == PAIR_PAPER else PAIR[:5] + (((2, 1),),)
            answer = best_order(*case)
            self.assert_taken(case, answer, paper)
            for other in wrong_kinds(paper):
                right = PlainReading(case, answer).takes(other)
                self.assertIs(check_paper(*case, answer, other), right, other)


class DrawnTest(Papers):
    """Papers with drawn changes, right ones and others, against the plain reading."""

    def nodes(self, draw, count, beginning):
        left = [k for k in range(1, count + 1) if k not in beginning]
        nodes = [("before", draw.randint(0, count + 1)), FORBIDDEN, NONE, LATER, WHOLE]
        nodes.append(("next", tuple([(k, draw.choice(nodes)) for k in left])))
        nodes.append(full_tree(count, {}, beginning))
        return nodes

    def test_changes(self):
        found = {True: 0, False: 0}
        kinds = set()
        for seed, case in enumerate(order_cases(250, (1, 2, 3))):
            draw = random.Random(seed)
            count = len(case[2])
            best = best_order(*case)
            answers = [best, None] + [(order, finish(*case[:5], order)) for order in orders(count)
                                      if is_row_of_deeds(*case[:2], chosen(case[2], order))][:3]
            for answer in answers:
                if answer is not None and answer[1] is None:
                    answer = (answer[0], 7)
                paper = order_paper(*case)
                for beginning in beginnings(paper):
                    for node in self.nodes(draw, count, beginning):
                        other = with_node(paper, beginning, node)
                        right = PlainReading(case, answer).takes(other)
                        self.assertIs(check_paper(*case, answer, other), right, (case, answer, other))
                        found[right] += 1
                        if right:
                            kinds.add(node[0])
                            # 8.6: an answer with a paper is the right one.
                            self.assertEqual(answer, best)
        self.assertGreater(min(found.values()), 500)
        self.assertEqual(kinds, {"next", "before", "forbidden", "none", "late", "whole"})


if __name__ == "__main__":
    unittest.main()
