"""4.2 to 4.7: one asker, event by event."""

import random
import unittest

from neverdark.askers import Asker, run_history
from neverdark.chains import needed
from neverdark.errors import NotAllowed
from neverdark.realms import lag_of, slots
from neverdark.worlds import World
from tests.small import draw_history, draw_moments, draw_world, hosts, item, plan_at, realm_of, state_of

ROOT_KEYS = ("keys", ".")
LINK = ("link", "land")
KEYS = ("keys", "land")
HOSTS = ("hosts", "land")
SET = ("set", "land", "v")
TOP = ("set", ".", "ns")
LOW_KEYS = ("keys", "b.land")
LOW_LINK = ("link", "b.land")
LOW_HOSTS = ("hosts", "b.land")
LOW_SET = ("set", "b.land", "v")
REALM = realm_of({".": 1, "land": 2, "b.land": 3}, ((".", "ns"), ("b.land", "v"), ("land", "v")))
GOOD = item("k", "k", 5)
SERVERS = hosts("s", 5)


def world_of(items=(), plan=(), on=None):
    """Return a world in which all is well, but for these items and what the plan does."""
    return World(REALM, state_of(REALM, items, on, 5), plan)


def asker_at(moment, items=(), plan=(), on=None):
    """Return a new asker that has gone to the moment."""
    asker = Asker(world_of(items, plan, on))
    asker.handle(("go", moment))
    return asker


def lives(slot, life):
    """Return items in which this slot alone has another life."""
    return {slot: hosts("s", life) if slot[0] == "hosts" else item("k", "k", life)}


class GoTest(unittest.TestCase):
    def test_a_new_asker(self):
        asker = Asker(world_of())
        self.assertEqual(asker.now(), 0)
        self.assertEqual(asker.kept(), [])

    def test_go(self):
        asker = Asker(world_of())
        for moment in (0, 3, 3, 4, 10000):
            self.assertEqual(asker.handle(("go", moment)), ("gone",))
            self.assertEqual(asker.now(), moment)

    def test_back_is_not_allowed(self):
        asker = asker_at(5)
        asker.handle(("fill", SET, ()))
        before = asker.kept()
        for moment in (4, 0):
            with self.assertRaises(NotAllowed) as caught:
                asker.handle(("go", moment))
            self.assertEqual(caught.exception.word, "time")
            self.assertEqual(asker.now(), 5)
            self.assertEqual(asker.kept(), before)
        self.assertEqual(asker.handle(("go", 5)), ("gone",))
        self.assertEqual(asker.kept(), before)

    def test_run_history_raises_too(self):
        with self.assertRaises(NotAllowed) as caught:
            run_history(world_of(), (("go", 5), ("go", 4)))
        self.assertEqual(caught.exception.word, "time")


class KeepTest(unittest.TestCase):
    def test_until(self):
        asker = asker_at(7, lives(TOP, 4))
        self.assertEqual(asker.handle(("fill", TOP, ())), ("kept", item("k", "k", 4)))
        for moment in (7, 10):
            asker.handle(("go", moment))
            self.assertEqual(asker.kept(), [(TOP, item("k", "k", 4), 11)])
        asker.handle(("go", 11))
        self.assertEqual(asker.kept(), [])

    def test_a_usable_item_is_not_fetched_again(self):
        new = item("l", "k", 9)
        asker = asker_at(7, lives(TOP, 4), ((8, ("put", TOP, new)),))
        asker.handle(("fill", TOP, ()))
        asker.handle(("go", 10))
        self.assertEqual(asker.handle(("fill", TOP, (0,))), ("kept", item("k", "k", 4)))
        self.assertEqual(asker.kept(), [(TOP, item("k", "k", 4), 11)])
        asker.handle(("go", 11))
        self.assertEqual(asker.handle(("fill", TOP, (0,))), ("kept", new))
        self.assertEqual(asker.kept(), [(TOP, new, 20)])

    def test_kept_in_slot_order(self):
        asker = asker_at(3, {**lives(KEYS, 1), **lives(ROOT_KEYS, 2)})
        for slot in (LOW_SET, KEYS, LINK, ROOT_KEYS, TOP):
            asker.handle(("fill", slot, ()))
        told = [slot for slot, _, _ in asker.kept()]
        self.assertEqual(told, [slot for slot in slots(REALM) if slot in told])
        self.assertEqual(set(told), {ROOT_KEYS, KEYS, LINK, HOSTS, LOW_HOSTS, LOW_SET, TOP})
        self.assertEqual(asker.kept()[0], (ROOT_KEYS, item("k", "k", 2), 5))
        asker.handle(("go", 4))
        self.assertEqual([slot for slot, _, _ in asker.kept()], [slot for slot in told if slot != KEYS])
        asker.handle(("go", 5))
        self.assertEqual([slot for slot, _, _ in asker.kept()],
                         [slot for slot in told if slot not in (KEYS, ROOT_KEYS)])

    def test_a_change_of_the_list_of_kept_items_has_no_effect(self):
        asker = asker_at(3)
        asker.handle(("fill", SET, ()))
        told = asker.kept()
        asker.kept().clear()
        asker.kept().append((TOP, GOOD, 99))
        self.assertEqual(asker.kept(), told)
        self.assertIsInstance(told, list)


class DropTest(unittest.TestCase):
    def test_a_usable_item(self):
        asker = asker_at(3)
        asker.handle(("fill", TOP, ()))
        asker.handle(("fill", ROOT_KEYS, ()))
        self.assertEqual(asker.handle(("drop", TOP)), ("dropped",))
        self.assertEqual(asker.kept(), [(ROOT_KEYS, GOOD, 8)])
        self.assertEqual(asker.handle(("drop", TOP)), ("none",))

    def test_what_was_dropped_is_fetched_again(self):
        new = item("l", "k", 9)
        asker = asker_at(7, plan=((8, ("put", TOP, new)),))
        asker.handle(("fill", TOP, ()))
        asker.handle(("go", 8))
        asker.handle(("drop", TOP))
        self.assertEqual(asker.handle(("fill", TOP, ())), ("kept", new))

    def test_no_item(self):
        asker = asker_at(3)
        for slot in slots(REALM):
            self.assertEqual(asker.handle(("drop", slot)), ("none",))
        self.assertEqual(asker.kept(), [])

    def test_an_item_that_ran_out(self):
        for moment, answer in ((7, "dropped"), (8, "none"), (9, "none")):
            asker = asker_at(3)
            asker.handle(("fill", TOP, ()))
            asker.handle(("go", moment))
            self.assertEqual(asker.handle(("drop", TOP)), (answer,))


class PlantTest(unittest.TestCase):
    def test_in_place_of_a_kept_item(self):
        asker = asker_at(3, lives(TOP, 50))
        asker.handle(("fill", TOP, ()))
        asker.handle(("go", 4))
        self.assertEqual(asker.handle(("plant", TOP, item("x", "", 2))), ("planted",))
        self.assertEqual(asker.kept(), [(TOP, item("x", "", 2), 6)])
        asker.handle(("go", 5))
        self.assertEqual(asker.handle(("fill", TOP, ())), ("kept", item("x", "", 2)))
        # The item that was there before is gone, although it would be usable still.
        asker.handle(("go", 6))
        self.assertEqual(asker.kept(), [])
        self.assertEqual(asker.handle(("drop", TOP)), ("none",))

    def test_where_nothing_is_kept(self):
        asker = Asker(world_of())
        self.assertEqual(asker.handle(("plant", LOW_KEYS, item("", "", 1))), ("planted",))
        self.assertEqual(asker.kept(), [(LOW_KEYS, item("", "", 1), 1)])

    def test_an_item_that_fits_nothing(self):
        asker = asker_at(3)
        asker.handle(("plant", LOW_KEYS, item("x", "x", 2)))
        self.assertEqual(asker.handle(("ask", "b.land", "v", ())), ("dark", "keys", LOW_KEYS))
        self.assertEqual(asker.handle(("ask", "land", "v", ()))[0], "told")

    def test_planted_hosts_items_are_used(self):
        asker = asker_at(3)
        asker.handle(("plant", HOSTS, hosts("", 2)))
        self.assertEqual(asker.handle(("fill", KEYS, ())), ("dark", "hosts", HOSTS))
        asker.handle(("plant", HOSTS, hosts("st", 2)))
        self.assertEqual(asker.handle(("fill", KEYS, (0, 1))), ("dark", "lame", HOSTS))
        self.assertEqual(asker.handle(("fill", KEYS, (0, 2))), ("kept", GOOD))


class LoseTest(unittest.TestCase):
    def test_nothing_happens(self):
        asker = asker_at(3)
        asker.handle(("fill", SET, ()))
        before = asker.kept()
        for zone, key in ((".", "k"), ("land", "k"), ("land", "zz")):
            self.assertEqual(asker.handle(("lose", zone, key)), ("lost",))
        self.assertEqual((asker.kept(), asker.now()), (before, 3))
        self.assertEqual(asker.handle(("ask", "land", "v", ()))[0], "told")


class PicksTest(unittest.TestCase):
    """4.4, steps 2 to 4: which numbers are taken, and what comes of them."""

    def contents(self, slot, moment, picks, plan):
        """Return what was fetched with the picks, as the content of the item of the slot."""
        asker = asker_at(moment, plan=plan)
        answer = asker.handle(("fill", slot, picks))
        self.assertEqual(answer[0], "kept")
        return "".join(answer[1][0])

    def test_the_example(self):
        new = item("l", "l", 7)
        world = world_of({KEYS: GOOD}, ((10, ("put", KEYS, new)),))
        for known in (True, False):
            asker = Asker(world)
            asker.handle(("go", 11))
            if known:
                asker.handle(("fill", HOSTS, ()))
            self.assertEqual(asker.handle(("fill", KEYS, (2,) if known else (0, 2))), ("kept", GOOD))
            asker.handle(("go", 15))
            self.assertIn((KEYS, GOOD, 16), asker.kept())
            asker.handle(("go", 16))
            self.assertNotIn(KEYS, [slot for slot, _, _ in asker.kept()])

    def test_a_slot_of_the_root_takes_one_number(self):
        plan = plan_at((5, 6, 7), [("put", TOP, item(letter, "k", 5)) for letter in "abc"])
        for picks, content in [((), "b"), ((0,), "b"), ((1,), "a"), ((2,), "b"), ((3,), "a"), ((99998,), "b"),
                               ((99999,), "a"), ((0, 1, 1), "b"), ((1, 0), "a")]:
            self.assertEqual(self.contents(TOP, 6, picks, plan), content, picks)

    def test_the_lag_of_the_home(self):
        plan = plan_at((5, 6, 7, 8), [("put", SET, item(letter, "k", 5)) for letter in "abcd"])
        for number, content in enumerate("cbacba"):
            self.assertEqual(self.contents(SET, 7, (0, number, 0), plan), content, number)
        plan = plan_at((5, 6, 7), [("put", LINK, item(letter, "k", 5)) for letter in "abc"])
        for number, content in enumerate("cbcb"):
            self.assertEqual(self.contents(LINK, 7, (number,), plan), content, number)

    def test_moments_below_0(self):
        plan = ((1, ("put", SET, item("a", "k", 5))),)
        self.assertEqual(self.contents(SET, 0, (0, 2, 0), plan), "k")
        self.assertEqual(self.contents(SET, 1, (0, 2, 0), plan), "k")
        self.assertEqual(self.contents(SET, 1, (0, 0, 0), plan), "a")
        self.assertEqual(self.contents(SET, 3, (0, 2, 0), plan), "a")

    def test_an_item_is_kept_from_the_present_moment_on(self):
        plan = ((5, ("put", SET, item("a", "k", 50))),)
        asker = asker_at(6, plan=plan)
        asker.handle(("fill", SET, (0, 2, 0)))
        self.assertIn((SET, GOOD, 11), asker.kept())

    def test_a_server_is_taken_by_its_index(self):
        items = {HOSTS: hosts("stu", 5)}
        for on, works in [(("s", "t", "u"), (0, 1, 2, 3, 4, 5, 99999)), (("s",), (0, 3, 99999)), (("t",), (1, 4)),
                          (("u",), (2, 5)), ((), ()), (("s", "u"), (0, 2, 3, 5, 99999))]:
            pairs = [("s", "b.land")] + [(server, "land") for server in on]
            for number in (0, 1, 2, 3, 4, 5, 99999):
                asker = asker_at(3, items, on=pairs)
                wanted = ("kept", GOOD) if number in works else ("dark", "lame", HOSTS)
                self.assertEqual(asker.handle(("fill", KEYS, (0, 0, number))), wanted, (on, number))

    def test_a_server_has_to_be_on_at_the_present_moment(self):
        # What it answers may be old, but it has to be there itself.
        plan = ((5, ("off", "s", "land")), (7, ("on", "s", "land")))
        for moment, word in ((4, "kept"), (5, "dark"), (6, "dark"), (7, "kept")):
            for back in (0, 1, 2):
                asker = asker_at(moment, plan=plan)
                self.assertEqual(asker.handle(("fill", SET, (0, back, 0)))[0], word, (moment, back))

    def test_a_server_has_to_be_on_for_the_zone_itself(self):
        asker = asker_at(3, on=[("s", "b.land")])
        self.assertEqual(asker.handle(("fill", KEYS, ())), ("dark", "lame", HOSTS))
        asker = asker_at(3, on=[("s", "land")])
        self.assertEqual(asker.handle(("fill", KEYS, ())), ("kept", GOOD))
        self.assertEqual(asker.handle(("fill", LOW_KEYS, ())), ("dark", "lame", LOW_HOSTS))

    def test_servers_of_the_root_need_not_be_on(self):
        asker = asker_at(3, on=[])
        for slot in (ROOT_KEYS, LINK, HOSTS, TOP):
            self.assertEqual(asker.handle(("fill", slot, (0, 5)))[0], "kept")


class HostsTest(unittest.TestCase):
    """4.4, step 1: the servers of the zone are found first."""

    def test_what_is_fetched_for_a_slot(self):
        rows = [(ROOT_KEYS, set()), (TOP, set()), (LINK, set()), (HOSTS, set()), (KEYS, {HOSTS}), (SET, {HOSTS}),
                (LOW_LINK, {HOSTS}), (LOW_HOSTS, {HOSTS}), (LOW_KEYS, {HOSTS, LOW_HOSTS}),
                (LOW_SET, {HOSTS, LOW_HOSTS})]
        for slot, others in rows:
            asker = asker_at(3)
            asker.handle(("fill", slot, ()))
            self.assertEqual({held for held, _, _ in asker.kept()}, others | {slot})

    def test_the_numbers_of_the_hosts_items_go_first(self):
        # At moment 9 each slot has another item since 9, and the servers t and u are on as well.
        plan = ((1, ("on", "t", "land")), (2, ("on", "t", "b.land")),
                (7, ("put", LOW_KEYS, item("l", "k", 5))), (8, ("put", LOW_HOSTS, hosts("st", 6))),
                (9, ("put", HOSTS, hosts("st", 7))))
        rows = [((), ("st", "st", "l")), ((1,), ("s", "st", "l")), ((0, 1, 0, 0, 0), ("st", "st", "l")),
                ((0, 2, 0, 0, 0), ("st", "s", "l")), ((0, 2, 1, 0, 0), ("st", "s", "l")),
                ((1, 2, 0, 3, 0), ("s", "s", "k")), ((0, 0, 0, 3, 0), ("st", "st", "k")),
                ((0, 0, 1, 3, 1), ("st", "st", "k")), ((3, 5, 9, 7, 9), ("s", "s", "k"))]
        for picks, contents in rows:
            asker = asker_at(9, plan=plan)
            asker.handle(("fill", LOW_KEYS, picks))
            held = {slot: "".join(found[0]) for slot, found, _ in asker.kept()}
            self.assertEqual((held[HOSTS], held[LOW_HOSTS], held[LOW_KEYS]), contents, picks)

    def test_a_kept_item_takes_no_numbers(self):
        plan = plan_at((5, 6, 7), [("put", SET, item(letter, "k", 5)) for letter in "abc"])
        for picks, content in [((0,), "c"), ((1,), "b"), ((2,), "a"), ((2, 0, 0), "a")]:
            asker = asker_at(7, plan=plan)
            asker.handle(("fill", HOSTS, ()))
            self.assertEqual(asker.handle(("fill", SET, picks))[1][0], (content,))
            self.assertEqual(asker.handle(("fill", SET, (1, 1, 1)))[1][0], (content,))

    def test_a_kept_hosts_item_is_not_asked_for(self):
        plan = ((5, ("put", HOSTS, hosts("", 9))),)
        asker = asker_at(4, plan=plan)
        asker.handle(("fill", HOSTS, ()))
        for moment, word in ((5, "kept"), (8, "kept"), (9, "dark")):
            asker.handle(("go", moment))
            asker.handle(("drop", KEYS))
            self.assertEqual(asker.handle(("fill", KEYS, ()))[0], word)

    def test_a_kept_item_needs_no_hosts(self):
        asker = asker_at(4, plan=((5, ("put", HOSTS, hosts("", 9))), (6, ("off", "s", "land"))))
        asker.handle(("fill", KEYS, ()))
        asker.handle(("go", 6))
        asker.handle(("drop", HOSTS))
        self.assertEqual(asker.handle(("fill", KEYS, ())), ("kept", GOOD))
        self.assertEqual(asker.kept(), [(KEYS, GOOD, 9)])
        self.assertEqual(asker.handle(("fill", SET, ())), ("dark", "hosts", HOSTS))

    def test_no_servers_are_named(self):
        asker = asker_at(4, {HOSTS: hosts("", 5)})
        for slot in (KEYS, SET, LOW_LINK, LOW_HOSTS, LOW_KEYS, LOW_SET):
            self.assertEqual(asker.handle(("fill", slot, ())), ("dark", "hosts", HOSTS))
        # What was fetched before the dark answer stays kept.
        self.assertEqual(asker.kept(), [(HOSTS, hosts("", 5), 9)])
        asker = asker_at(4, {LOW_HOSTS: hosts("", 5)})
        for slot in (LOW_KEYS, LOW_SET):
            self.assertEqual(asker.handle(("fill", slot, ())), ("dark", "hosts", LOW_HOSTS))
        self.assertEqual(asker.handle(("fill", LOW_LINK, ())), ("kept", GOOD))

    def test_what_was_fetched_ahead_of_a_dark_answer_stays(self):
        asker = asker_at(4, on=[("s", "land")])
        self.assertEqual(asker.handle(("fill", LOW_SET, (1, 2, 0))), ("dark", "lame", LOW_HOSTS))
        self.assertEqual(asker.kept(), [(LOW_HOSTS, SERVERS, 9), (HOSTS, SERVERS, 9)])
        self.assertEqual(asker.handle(("ask", "b.land", "v", ())), ("dark", "lame", LOW_HOSTS))
        self.assertEqual({slot for slot, _, _ in asker.kept()},
                         {ROOT_KEYS, LINK, KEYS, HOSTS, LOW_LINK, LOW_HOSTS})

    def test_each_event_begins_with_its_own_picks(self):
        asker = asker_at(4, {HOSTS: hosts("st", 5)})
        self.assertEqual(asker.handle(("fill", SET, (0, 0, 1))), ("dark", "lame", HOSTS))
        self.assertEqual(asker.handle(("fill", SET, (0, 0))), ("kept", GOOD))


class AskTest(unittest.TestCase):
    def ask(self, moment=5, name="b.land", kind="v", **changes):
        """Return the answer to an ask, in a world with these items."""
        places = {"root": ROOT_KEYS, "link": LINK, "keys": KEYS, "low_link": LOW_LINK, "low_keys": LOW_KEYS,
                  "low_set": LOW_SET}
        asker = asker_at(moment, {places[word]: held for word, held in changes.items()})
        return asker.handle(("ask", name, kind, ()))

    def test_told(self):
        for name, kind in REALM[2]:
            used = tuple([(slot, GOOD) for slot in needed(REALM, name, kind)])
            self.assertEqual(self.ask(name=name, kind=kind), ("told", used))

    def test_the_order_of_the_numbers(self):
        # 1 keys ., 1 link land, then 1 hosts land, 2 keys land, 2 set land.
        deeds = [("put", slot, item("kl", "k", 5)) for slot in (ROOT_KEYS, LINK, KEYS, SET)]
        plan = plan_at((9, 10, 11, 12), deeds) + ((13, ("put", HOSTS, hosts("st", 5))),)
        names = [ROOT_KEYS, LINK, HOSTS, KEYS, SET]
        for late, picks in [((), (0, 0, 0, 0, 0, 0, 0)), ((HOSTS,), (0, 0, 1)), ((SET,), (0, 0, 0, 0, 0, 2)),
                            ((SET, HOSTS), (0, 0, 1, 0, 0, 2, 0)), ((SET,), (0, 0, 0, 0, 0, 2, 2))]:
            asker = asker_at(13, plan=plan)
            self.assertEqual(asker.handle(("ask", "land", "v", picks))[0], "told")
            held = {slot: found for slot, found, _ in asker.kept()}
            old = [slot for slot in names if held[slot][0] in (("k",), ("s",))]
            self.assertEqual(set(old), set(late), picks)
        asker = asker_at(10, plan=plan)
        asker.handle(("ask", "land", "v", (1, 1)))
        held = {slot: "".join(found[0]) for slot, found, _ in asker.kept()}
        self.assertEqual((held[ROOT_KEYS], held[LINK]), ("kl", "k"))
        asker = asker_at(9, plan=plan)
        asker.handle(("ask", "land", "v", (1, 0)))
        self.assertEqual(asker.kept()[0][1], GOOD)

    def test_each_word(self):
        odd = item("x", "x", 5)
        self.assertEqual(self.ask(root=odd), ("dark", "anchor", ROOT_KEYS))
        self.assertEqual(self.ask(link=odd), ("dark", "link", LINK))
        self.assertEqual(self.ask(keys=odd), ("dark", "keys", KEYS))
        self.assertEqual(self.ask(low_link=odd), ("dark", "link", LOW_LINK))
        self.assertEqual(self.ask(low_keys=odd), ("dark", "keys", LOW_KEYS))
        self.assertEqual(self.ask(low_set=odd), ("dark", "set", LOW_SET))
        for word, slot in (("root", ROOT_KEYS), ("keys", KEYS), ("low_set", LOW_SET)):
            held = {word: item("k", "k", 5, 6, 8)}
            self.assertEqual(self.ask(5, **held), ("dark", "early", slot))
            self.assertEqual(self.ask(6, **held)[0], "told")
            self.assertEqual(self.ask(8, **held)[0], "told")
            self.assertEqual(self.ask(9, **held), ("dark", "late", slot))

    def test_the_first_fault_from_the_root_downwards(self):
        odd = item("x", "x", 5)
        self.assertEqual(self.ask(link=odd, low_set=odd), ("dark", "link", LINK))
        self.assertEqual(self.ask(low_link=odd, keys=odd), ("dark", "keys", KEYS))
        self.assertEqual(self.ask(root=odd, low_keys=item("k", "k", 5, 9)), ("dark", "anchor", ROOT_KEYS))
        self.assertEqual(self.ask(low_link=odd, low_keys=item("k", "k", 5, 9)), ("dark", "link", LOW_LINK))

    def test_faults_are_looked_for_at_the_present_moment(self):
        asker = asker_at(5, {TOP: item("k", "k", 9, 0, 7)})
        for moment, word in ((5, "told"), (7, "told"), (8, "dark")):
            asker.handle(("go", moment))
            self.assertEqual(asker.handle(("ask", ".", "ns", ()))[0], word)

    def test_all_is_fetched_before_a_fault_is_looked_for(self):
        asker = asker_at(5, {ROOT_KEYS: item("x", "x", 5)})
        self.assertEqual(asker.handle(("ask", "land", "v", ())), ("dark", "anchor", ROOT_KEYS))
        self.assertEqual({slot for slot, _, _ in asker.kept()}, {ROOT_KEYS, LINK, KEYS, HOSTS, SET})

    def test_a_dark_fetch_goes_before_a_fault(self):
        asker = asker_at(5, {ROOT_KEYS: item("x", "x", 5), HOSTS: hosts("", 5)})
        self.assertEqual(asker.handle(("ask", "land", "v", ())), ("dark", "hosts", HOSTS))

    def test_an_empty_set_is_told(self):
        told = self.ask(low_set=item("", "k", 5))
        self.assertEqual(told[0], "told")
        self.assertEqual(told[1][-1], (LOW_SET, item("", "k", 5)))

    def test_old_and_new_items_that_do_not_fit(self):
        plan = ((5, ("put", KEYS, item("l", "l", 5))), (6, ("put", LINK, item("l", "k", 5))),
                (7, ("put", SET, item("v", "l", 5))))
        history = (("go", 4), ("fill", SET, ()), ("go", 7), ("ask", "land", "v", ()), ("drop", SET),
                   ("ask", "land", "v", ()))
        answers = run_history(world_of((), plan), history)
        self.assertEqual(answers[3], ("dark", "set", SET))
        self.assertEqual(answers[5][0], "told")


class RunTest(unittest.TestCase):
    def test_a_history_is_handled_event_by_event(self):
        for seed in range(60):
            realm, state, deeds = draw_world(seed)
            draw = random.Random(seed)
            world = World(realm, state, plan_at(draw_moments(draw, len(deeds), 4), deeds))
            history = draw_history(draw, realm, state, world.plan, 15)
            asker = Asker(world)
            self.assertEqual(run_history(world, history), [asker.handle(event) for event in history])

    def test_askers_do_not_share_anything(self):
        world = world_of()
        first = Asker(world)
        first.handle(("go", 5))
        first.handle(("fill", TOP, ()))
        self.assertEqual((Asker(world).now(), Asker(world).kept()), (0, []))
        self.assertEqual(run_history(world, (("drop", TOP),)), [("none",)])

    def test_no_events(self):
        self.assertEqual(run_history(world_of(), ()), [])

    def test_what_is_usable_was_there_lately(self):
        # 4.7: without plants, from t - D - L + 1 to t.
        for seed in range(150):
            realm, state, deeds = draw_world(seed)
            draw = random.Random(seed)
            world = World(realm, state, plan_at(draw_moments(draw, len(deeds), 3), deeds))
            asker = Asker(world)
            for event in draw_history(draw, realm, state, world.plan, 25):
                asker.handle(event)
                for slot, held, until in asker.kept():
                    moments = range(asker.now() - lag_of(realm, slot) - held[1] + 1, asker.now() + 1)
                    self.assertIn(held, [world.current(slot, moment) for moment in moments])
                    self.assertTrue(asker.now() < until <= asker.now() + held[1])


if __name__ == "__main__":
    unittest.main()
