"""12.1 to 12.4: followers, event by event."""

import random
import unittest

from neverdark.askers import Asker
from neverdark.errors import NotAllowed
from neverdark.followers import MAX_RHYTHM, Follower, is_followed, run_follower
from neverdark.realms import slots
from neverdark.worlds import World
from tests.follow_small import Minds, draw_follow_history, follow_worlds
from tests.small import draw_history, hosts, item, realm_of, state_of

ROOT = ("keys", ".")
KEYS = ("keys", "land")
LINK = ("link", "land")
HOSTS = ("hosts", "land")
SET = ("set", "land", "v")
TOP = ("set", ".", "ns")
SETS = ((".", "ns"), ("land", "v"))


def world_of(contents, lag=0, anchors=("z",)):
    """Return a world whose root has keys items from moments on, a dict; texts are contents sealed by their first."""
    realm = realm_of({".": lag, "land": 2}, SETS, anchors)
    sealed = {LINK: item("k", "klm"), TOP: item("v", "klm")}
    items = {moment: item(held, held[0]) if isinstance(held, str) else held for moment, held in contents.items()}
    plan = [(moment, ("put", ROOT, held)) for moment, held in sorted(items.items()) if moment > 0]
    return World(realm, state_of(realm, {**sealed, ROOT: items[0]}), tuple(plan))


class IsFollowedTest(unittest.TestCase):
    REALM = realm_of({".": 1, "land": 2}, SETS)
    RIGHT = (item("k", "k"), item("kl", "k"), item("kl", "l"), item("abcd", "d"))
    WRONG = (item("k", ""), item("kl", "kl"), item("k", "l"), item("kl", "m"), item("", "k"), item("", ""),
             item("klm", "klm"), item("k", "kl"))

    def assert_followed(self, right, root, deeds=()):
        state = state_of(self.REALM, {ROOT: root})
        kept = list(deeds)
        self.assertIs(is_followed(self.REALM, state, tuple(deeds)), right, (root, deeds))
        self.assertIs(is_followed(self.REALM, state, kept), right, (root, deeds))
        self.assertEqual(kept, list(deeds))

    def test_the_start(self):
        for root in self.RIGHT:
            self.assert_followed(True, root)
        for root in self.WRONG:
            self.assert_followed(False, root)

    def test_each_deed(self):
        puts = [("put", ROOT, held) for held in self.RIGHT]
        self.assert_followed(True, item("k", "k"), puts)
        for at in range(len(puts) + 1):
            for held in self.WRONG:
                self.assert_followed(False, item("k", "k"), puts[:at] + [("put", ROOT, held)] + puts[at:])

    def test_other_slots_and_deeds_do_not_matter(self):
        deeds = [("put", slot, held) for slot in (KEYS, LINK, SET, TOP) for held in self.WRONG]
        deeds += [("put", HOSTS, hosts("")), ("on", "t", "land"), ("off", "t", "land")]
        self.assert_followed(True, item("k", "k"), deeds)
        self.assert_followed(False, item("k", ""), deeds)
        state = state_of(self.REALM, {ROOT: item("k", "k"), KEYS: item("kl", "kl"), LINK: item("k", "")})
        self.assertIs(is_followed(self.REALM, state, ()), True)

    def test_the_anchors_have_no_meaning(self):
        realm = (self.REALM[0], ("z",), self.REALM[2])
        self.assertIs(is_followed(realm, state_of(realm, {ROOT: item("k", "k")}), ()), True)


class Followers(unittest.TestCase):
    def assert_mind(self, follower, trusted, waiting=(), looked=None, now=None):
        """Check what the follower trusts, a text, what waits, and when it looked last."""
        self.assertEqual(follower.trusted(), tuple(trusted))
        self.assertEqual(follower.waiting(), tuple(waiting))
        if looked is not None:
            self.assertEqual(follower.looked(), looked)
        if now is not None:
            self.assertEqual(follower.now(), now)

    def look(self, follower, moment, answer, picks=()):
        """Let the follower go to the moment and look; check the answer, a text of trusted keys or a dark word."""
        self.assertEqual(follower.handle(("go", moment)), ("gone",))
        before = (follower.trusted(), follower.waiting(), follower.looked(), follower.kept())
        told = follower.handle(("look", picks))
        if answer in ("early", "late", "anchor"):
            self.assertEqual(told, ("dark", answer, ROOT))
            self.assertEqual((follower.trusted(), follower.waiting(), follower.looked(), follower.kept()), before)
        else:
            self.assertEqual(told, ("trusts", tuple(answer)))
            self.assert_mind(follower, answer, follower.waiting(), moment, moment)
            self.assertEqual(follower.kept(), before[3])

    def assert_not_allowed(self, word, follower, moment):
        before = (follower.trusted(), follower.waiting(), follower.looked(), follower.now(), follower.kept())
        with self.assertRaises(NotAllowed) as caught:
            follower.handle(("go", moment))
        self.assertEqual(caught.exception.word, word)
        after = (follower.trusted(), follower.waiting(), follower.looked(), follower.now(), follower.kept())
        self.assertEqual(after, before)


class NewFollowerTest(Followers):
    def test_a_new_follower(self):
        self.assertEqual(MAX_RHYTHM, 1000)
        for content in ("k", "kl", "abcd"):
            follower = Follower(world_of({0: content, 1: "z"}), (5, 3))
            self.assert_mind(follower, content, (), 0, 0)
            self.assertEqual(follower.kept(), [])

    def test_the_anchors_have_no_meaning(self):
        for anchors in (("k",), ("l",), ("k", "z")):
            follower = Follower(world_of({0: "lm"}, 0, anchors), (5, 3))
            self.assert_mind(follower, "lm")

    def test_a_start_that_is_not_good(self):
        follower = Follower(world_of({0: item("k", "k", 1, 5, 9)}), (5, 3))
        self.assert_mind(follower, "k", (), 0)
        self.look(follower, 4, "early")
        self.look(follower, 5, "k")


class LookTest(Followers):
    def test_nothing_changes(self):
        follower = Follower(world_of({0: "kl"}), (5, 3))
        for moment in (0, 4, 4, 9, 10):
            self.look(follower, moment, "kl")
            self.assert_mind(follower, "kl", (), moment)

    def test_early_and_late(self):
        world = world_of({0: item("k", "k", 1, 0, 4), 6: item("kl", "k", 1, 8, 9)})
        follower = Follower(world, (20, 3))
        for moment, answer in ((4, "k"), (5, "late"), (6, "early"), (7, "early"), (8, "k"), (9, "k"), (10, "late")):
            self.look(follower, moment, answer)
        self.assert_mind(follower, "k", [("l", 8)], 9)

    def test_not_good_goes_before_a_signer_that_is_not_trusted(self):
        world = world_of({0: "k", 3: item("l", "l", 1, 6, 8)})
        follower = Follower(world, (20, 3))
        for moment, answer in ((2, "k"), (3, "early"), (5, "early"), (6, "anchor"), (8, "anchor"), (9, "late")):
            self.look(follower, moment, answer)

    def test_a_signer_that_is_not_trusted(self):
        follower = Follower(world_of({0: "k", 4: item("kl", "k"), 6: item("klm", "l"), 9: "k"}), (20, 5))
        self.look(follower, 4, "k")
        self.assert_mind(follower, "k", [("l", 4)], 4)
        # The key l waits, but is not trusted, so the item teaches nothing.
        for moment in (6, 7, 8):
            self.look(follower, moment, "anchor")
            self.assert_mind(follower, "k", [("l", 4)], 4)
        self.look(follower, 9, "k")
        self.assert_mind(follower, "k", (), 9)

    def test_a_key_that_leaves_while_it_is_trusted(self):
        follower = Follower(world_of({0: "klm", 4: "km", 6: "klm"}), (20, 5))
        self.look(follower, 3, "klm")
        self.look(follower, 5, "km")
        self.assert_mind(follower, "km", (), 5)
        # It comes back, and has to wait anew.
        self.look(follower, 6, "km")
        self.assert_mind(follower, "km", [("l", 6)], 6)
        self.look(follower, 10, "km")
        self.look(follower, 11, "klm")
        self.assert_mind(follower, "klm", (), 11)

    def test_a_key_that_leaves_while_nobody_looks(self):
        follower = Follower(world_of({0: "kl", 4: "k", 6: "kl"}), (20, 5))
        self.look(follower, 3, "kl")
        self.look(follower, 6, "kl")
        self.assert_mind(follower, "kl", ())
        follower = Follower(world_of({0: "k", 2: "kl", 4: "k", 6: "kl"}), (20, 5))
        self.look(follower, 3, "k")
        self.look(follower, 6, "k")
        self.assert_mind(follower, "k", [("l", 3)])
        self.look(follower, 8, "kl")

    def test_a_key_that_leaves_while_it_waits(self):
        follower = Follower(world_of({0: "k", 2: "kl", 4: "k", 6: "kl"}), (20, 5))
        self.look(follower, 2, "k")
        self.look(follower, 4, "k")
        self.assert_mind(follower, "k", (), 4)
        self.look(follower, 7, "k")
        self.assert_mind(follower, "k", [("l", 7)])
        self.look(follower, 11, "k")
        self.look(follower, 12, "kl")

    def test_hold(self):
        for hold in (1, 2, 7, 1000):
            follower = Follower(world_of({0: "k", 2: "kl"}), (1000, hold))
            self.look(follower, 3, "k")
            self.assert_mind(follower, "k", [("l", 3)])
            self.look(follower, 3, "k")
            if hold > 1:
                self.look(follower, 2 + hold, "k")
                self.assert_mind(follower, "k", [("l", 3)])
            # It is trusted only by a look.
            follower.handle(("go", 3 + hold))
            self.assert_mind(follower, "k", [("l", 3)])
            self.look(follower, 3 + hold, "kl")
            self.assert_mind(follower, "kl", ())

    def test_a_key_that_waits_for_longer_than_hold(self):
        follower = Follower(world_of({0: "k", 2: "kl"}), (1000, 4))
        self.look(follower, 3, "k")
        self.look(follower, 900, "kl")

    def test_several_keys(self):
        follower = Follower(world_of({0: item("k", "k"), 2: item("klm", "k"), 4: item("klmn", "k"),
                                      6: item("ln", "l"), 9: item("n", "n")}), (20, 3))
        self.look(follower, 2, "k")
        self.assert_mind(follower, "k", [("l", 2), ("m", 2)])
        self.look(follower, 4, "k")
        self.assert_mind(follower, "k", [("l", 2), ("m", 2), ("n", 4)])
        self.look(follower, 5, "klm")
        self.assert_mind(follower, "klm", [("n", 4)])
        self.look(follower, 6, "l")
        self.assert_mind(follower, "l", [("n", 4)])
        self.look(follower, 7, "ln")
        self.look(follower, 9, "n")

    def test_the_answer_is_ascending(self):
        follower = Follower(world_of({0: item("bd", "d"), 1: item("abcd", "d")}), (20, 1))
        self.look(follower, 1, "bd")
        self.assert_mind(follower, "bd", [("a", 1), ("c", 1)])
        self.look(follower, 2, "abcd")


class PicksTest(Followers):
    def test_moments_before(self):
        # l comes at 10, and is seen or not.
        for lag in (0, 1, 3):
            for back in range(12):
                for picks in ((back,), (back, 1), (back, 0, 7)):
                    for moment in (10, 11, 12, 13):
                        follower = Follower(world_of({0: "k", 10: "kl"}, lag), (100, 5))
                        self.look(follower, moment, "k", picks)
                        seen = moment - back % (lag + 1) >= 10
                        self.assert_mind(follower, "k", [("l", moment)] if seen else ())

    def test_no_picks(self):
        follower = Follower(world_of({0: "k", 10: "kl"}, 3), (100, 5))
        self.look(follower, 9, "k")
        self.assert_mind(follower, "k", ())
        self.look(follower, 10, "k")
        self.assert_mind(follower, "k", [("l", 10)])

    def test_moments_below_0(self):
        follower = Follower(world_of({0: "k", 1: "kl"}, 5), (100, 5))
        for moment, pick in ((0, 5), (0, 0), (2, 5), (2, 2)):
            self.look(follower, moment, "k", (pick,))
            self.assert_mind(follower, "k", (), moment)
        self.look(follower, 2, "k", (1,))
        self.assert_mind(follower, "k", [("l", 2)])

    def test_the_item_has_to_be_good_at_the_present_moment(self):
        follower = Follower(world_of({0: item("k", "k", 1, 0, 9), 10: item("kl", "k", 1, 12)}, 3), (100, 5))
        self.look(follower, 10, "late", (1,))
        self.look(follower, 11, "early", (1,))
        self.look(follower, 11, "late", (2,))
        self.look(follower, 12, "k", (2,))

    def test_the_lag_of_the_root_counts(self):
        realm = realm_of({".": 1, "land": 50}, SETS)
        state = state_of(realm, {ROOT: item("k", "k")})
        follower = Follower(World(realm, state, ((10, ("put", ROOT, item("kl", "k"))),)), (100, 5))
        self.look(follower, 12, "k", (50,))
        self.assert_mind(follower, "k", [("l", 12)])


class KeptTest(Followers):
    def test_what_is_kept_has_no_influence(self):
        follower = Follower(world_of({0: item("k", "k", 50), 5: item("kl", "k", 50)}), (100, 5))
        follower.handle(("fill", ROOT, ()))
        kept = [(ROOT, item("k", "k", 50), 50)]
        self.look(follower, 6, "k")
        self.assert_mind(follower, "k", [("l", 6)])
        self.assertEqual(follower.kept(), kept)
        self.look(follower, 11, "kl")
        self.assertEqual(follower.kept(), kept)

    def test_planted_keys_have_no_influence(self):
        follower = Follower(world_of({0: "k"}), (100, 5))
        follower.handle(("plant", ROOT, item("x", "x", 50)))
        self.look(follower, 6, "k")
        self.assertEqual(follower.kept(), [(ROOT, item("x", "x", 50), 50)])
        self.assertEqual(follower.handle(("ask", ".", "ns", ())), ("dark", "anchor", ROOT))

    def test_a_look_keeps_nothing(self):
        follower = Follower(world_of({0: "k"}), (100, 5))
        self.look(follower, 6, "k")
        self.assertEqual(follower.kept(), [])


class GoTest(Followers):
    def test_the_rhythm(self):
        for every in (1, 2, 7, 1000):
            follower = Follower(world_of({0: "k"}), (every, 3))
            self.assert_not_allowed("look", follower, every + 1)
            self.assert_not_allowed("look", follower, 10000)
            self.assertEqual(follower.handle(("go", every)), ("gone",))
            self.assert_not_allowed("look", follower, every + 1)
            self.look(follower, every, "k")
            self.assert_not_allowed("look", follower, 2 * every + 1)
            self.assertEqual(follower.handle(("go", 2 * every)), ("gone",))
            self.assertEqual(follower.now(), 2 * every)

    def test_a_dark_look_does_not_count(self):
        follower = Follower(world_of({0: item("k", "k", 1, 0, 3)}), (5, 3))
        self.look(follower, 2, "k")
        self.look(follower, 6, "late")
        self.assert_not_allowed("look", follower, 8)
        self.assertEqual(follower.handle(("go", 7)), ("gone",))

    def test_back(self):
        follower = Follower(world_of({0: "k"}), (5, 3))
        self.look(follower, 4, "k")
        for moment in (0, 3):
            self.assert_not_allowed("time", follower, moment)
        follower.handle(("go", 6))
        for moment in (0, 4, 5):
            self.assert_not_allowed("time", follower, moment)
        self.assertEqual(follower.handle(("go", 6)), ("gone",))

    def test_run_follower_raises_too(self):
        world = world_of({0: "k"})
        for moments, word in (((6,), "look"), ((4, 3), "time"), ((5, 6), "look")):
            with self.assertRaises(NotAllowed) as caught:
                run_follower(world, (5, 3), tuple([("go", moment) for moment in moments]))
            self.assertEqual(caught.exception.word, word)


class AskTest(Followers):
    def test_the_trusted_keys_count(self):
        # The anchors are z, whom nobody asks.
        world = world_of({0: "k", 4: item("kl", "k"), 6: item("kl", "l"), 12: item("z", "z")}, 0, ("k", "z"))
        follower = Follower(world, (20, 5))
        self.assertEqual(follower.handle(("ask", ".", "ns", ()))[0], "told")
        self.look(follower, 4, "k")
        follower.handle(("go", 6))
        self.assertEqual(follower.handle(("ask", ".", "ns", ())), ("dark", "anchor", ROOT))
        follower.handle(("go", 11))
        self.assertEqual(follower.handle(("ask", "land", "v", ())), ("dark", "anchor", ROOT))
        self.assertEqual(follower.handle(("look", ())), ("dark", "anchor", ROOT))

    def test_a_key_that_is_not_trusted_any_more(self):
        world = world_of({0: item("kl", "k", 50), 4: item("l", "l", 50)})
        follower = Follower(world, (20, 5))
        self.assertEqual(follower.handle(("ask", "land", "v", ()))[0], "told")
        follower.handle(("go", 5))
        self.assertEqual(follower.handle(("ask", "land", "v", ()))[0], "told")
        self.look(follower, 5, "l")
        self.assertEqual(follower.handle(("ask", "land", "v", ())), ("dark", "anchor", ROOT))
        follower.handle(("drop", ROOT))
        self.assertEqual(follower.handle(("ask", "land", "v", ()))[0], "told")

    def test_planted_keys_of_the_root(self):
        world = world_of({0: "kl"}, 0, ("z",))
        for signers, right in (("", False), ("x", False), ("z", False), ("xz", False), ("k", True), ("l", True),
                               ("kl", True), ("kx", True), ("lxz", True), ("xyz", False)):
            follower = Follower(world, (20, 5))
            self.assertEqual(follower.handle(("plant", ROOT, item("k", signers))), ("planted",))
            told = follower.handle(("ask", ".", "ns", ()))
            if right:
                self.assertEqual(told, ("told", ((ROOT, item("k", signers)), (TOP, item("v", "klm")))))
            else:
                self.assertEqual(told, ("dark", "anchor", ROOT))

    def test_other_faults(self):
        follower = Follower(world_of({0: "k"}), (20, 5))
        follower.handle(("plant", ROOT, item("k", "x", 1, 5)))
        self.assertEqual(follower.handle(("ask", ".", "ns", ())), ("dark", "early", ROOT))
        follower.handle(("plant", ROOT, item("x", "k")))
        self.assertEqual(follower.handle(("ask", "land", "v", ())), ("dark", "link", LINK))
        follower.handle(("drop", ROOT))
        follower.handle(("plant", SET, item("v", "x")))
        self.assertEqual(follower.handle(("ask", "land", "v", ())), ("dark", "set", SET))
        follower.handle(("plant", HOSTS, hosts("")))
        follower.handle(("drop", SET))
        self.assertEqual(follower.handle(("ask", "land", "v", ())), ("dark", "hosts", HOSTS))

    def test_all_other_events_are_those_of_an_asker(self):
        # Where the root keeps its keys, and the anchors are these, there is no difference.
        answers = 0
        for seed, (realm, state, plan, _) in enumerate(follow_worlds(200)):
            plan = tuple([step for step in plan if step[1][:2] != ("put", ROOT)])
            content = dict(state[0])[ROOT][0]
            asker = Asker(World((realm[0], content, realm[2]), state, plan))
            follower = Follower(World(realm, state, plan), (1000, 1))
            draw = random.Random(seed)
            planted = []
            for event in draw_history(draw, realm, state, plan, 25):
                planted.append(event)
                if draw.random() < 0.1:
                    slot = draw.choice(slots(realm))
                    planted.append(("plant", slot, hosts("st", 3) if slot[0] == "hosts" else item("kx", "kx", 3)))
                    planted.append(("lose", ".", "k"))
            for event in planted:
                self.assertEqual(follower.handle(event), asker.handle(event), event)
                self.assertEqual(follower.now(), asker.now())
                self.assertEqual(follower.kept(), asker.kept())
                self.assert_mind(follower, content, (), 0)
                answers += 1
        self.assertGreater(answers, 5000)


class RunFollowerTest(Followers):
    def test_the_answers(self):
        world = world_of({0: "k", 4: item("kl", "k")}, 2)
        events = (("look", (9,)), ("go", 5), ("look", (2,)), ("look", (1,)), ("fill", ROOT, ()), ("drop", ROOT),
                  ("go", 7), ("look", ()), ("lose", ".", "k"))
        told = [("trusts", ("k",)), ("gone",), ("trusts", ("k",)), ("trusts", ("k",)), ("kept", item("kl", "k")),
                ("dropped",), ("gone",), ("trusts", ("k", "l")), ("lost",)]
        self.assertEqual(run_follower(world, (5, 2), events), told)
        self.assertEqual(run_follower(world, (5, 2), ()), [])
        run_follower(world, (5, 2), events).clear()
        self.assertEqual(run_follower(world, (5, 2), events), told)

    def test_followers_do_not_share_anything(self):
        world = world_of({0: "k", 4: item("kl", "k")})
        first, second = Follower(world, (20, 2)), Follower(world, (20, 2))
        self.look(first, 5, "k")
        self.assert_mind(second, "k", (), 0, 0)

    def test_what_is_returned_may_be_changed(self):
        follower = Follower(world_of({0: "k", 4: item("kl", "k")}), (20, 2))
        self.look(follower, 5, "k")
        follower.handle(("fill", ROOT, ()))
        follower.kept().clear()
        self.assertEqual(len(follower.kept()), 1)
        self.assertIsInstance(follower.trusted(), tuple)
        self.assertIsInstance(follower.waiting(), tuple)

    def test_against_the_plain_meaning(self):
        looks = dark = 0
        for seed, (realm, state, plan, rhythm) in enumerate(follow_worlds(300)):
            minds = Minds(realm, state, plan, rhythm)
            mind = next(iter(minds.states))
            follower = Follower(minds.world, rhythm)
            events = draw_follow_history(random.Random(seed), realm, state, plan, rhythm, 25)
            told = []
            for event in events:
                if event[0] == "go" and event[1] > mind[2] + rhythm[0]:
                    # A look before was dark.
                    self.assert_not_allowed("look", follower, event[1])
                    break
                told.append(follower.handle(event))
                if event[0] == "look":
                    back = event[1][0] % (minds.lag + 1) if event[1] else 0
                    wrong, mind = minds.look(mind, follower.now(), back)
                    trusts = ("trusts", tuple(sorted(mind[0])))
                    self.assertEqual(told[-1], trusts if wrong is None else ("dark", *wrong))
                    looks += 1
                    dark += wrong is not None
                self.assert_mind(follower, sorted(mind[0]), sorted(mind[1]), mind[2])
            self.assertEqual(run_follower(minds.world, rhythm, events[:len(told)]), told)
        self.assertGreater(looks, 1000)
        self.assertGreater(dark, 100)


if __name__ == "__main__":
    unittest.main()
