"""3.1 to 3.3: what is needed for a set, and when it holds."""

import unittest

from neverdark.chains import fault, fits, is_good, needed
from tests.samples import REALM

KEYS_ROOT = ("keys", ".")
LINK = ("link", "shop")
KEYS = ("keys", "shop")
SET = ("set", "shop", "mx")


class NeededTest(unittest.TestCase):
    def test_a_name_in_the_root(self):
        self.assertEqual(needed(REALM, ".", "ns"), (("keys", "."), ("set", ".", "ns")))
        self.assertEqual(needed(REALM, "sea", "v"), (("keys", "."), ("set", "sea", "v")))

    def test_names_in_zones_below(self):
        self.assertEqual(needed(REALM, "www.shop.land", "b"), (
            ("keys", "."), ("link", "land"), ("keys", "land"), ("link", "shop.land"), ("keys", "shop.land"),
            ("set", "www.shop.land", "b")))
        self.assertEqual(needed(REALM, "d.c.b.a", "v"), (
            ("keys", "."), ("link", "a"), ("keys", "a"), ("link", "d.c.b.a"), ("keys", "d.c.b.a"),
            ("set", "d.c.b.a", "v")))
        self.assertEqual(needed(REALM, "z.y.x", "v"), (
            ("keys", "."), ("link", "z.y.x"), ("keys", "z.y.x"), ("set", "z.y.x", "v")))


class IsGoodTest(unittest.TestCase):
    def test_moments(self):
        item = (("a",), 5, ("r",), 3, 6)
        self.assertEqual([is_good(item, moment) for moment in (-1, 2, 3, 4, 6, 7)],
                         [False, False, True, True, True, False])

    def test_one_moment(self):
        self.assertEqual([is_good(((), 5, (), 3, 3), moment) for moment in (2, 3, 4)], [False, True, False])


class FitsTest(unittest.TestCase):
    def item(self, content, signers):
        return (tuple(content), 5, tuple(signers), 0, 9)

    def test_links_and_sets(self):
        for slot, other in ((LINK, KEYS_ROOT), (SET, KEYS)):
            for signers, content, right in [("a", "a", True), ("a", "b", False), ("ab", "bc", True), ("bc", "ab", True),
                                            ("", "a", False), ("a", "", False), ("", "", False), ("ab", "cd", False),
                                            ("abc", "c", True)]:
                told = fits(slot, self.item("x", signers), other, self.item(content, "y"))
                self.assertIs(told, right, (slot, signers, content))

    def test_the_content_of_a_link_or_set_and_the_signers_of_the_other_do_not_matter(self):
        for slot, other in ((LINK, KEYS_ROOT), (SET, KEYS)):
            self.assertIs(fits(slot, self.item("a", "b"), other, self.item("a", "b")), False)
            self.assertIs(fits(slot, self.item("", "b"), other, self.item("b", "")), True)

    def test_keys(self):
        rows = [("a", "a", "a", True), ("a", "a", "b", False), ("a", "b", "a", False), ("b", "a", "a", False),
                ("ab", "ab", "b", True), ("ab", "a", "b", False), ("ab", "b", "b", True), ("", "a", "a", False),
                ("a", "", "a", False), ("a", "a", "", False), ("abc", "ab", "bc", True), ("ac", "ab", "bc", False)]
        for signers, own, linked, right in rows:
            told = fits(KEYS, self.item(own, signers), LINK, self.item(linked, "y"))
            self.assertIs(told, right, (signers, own, linked))

    def test_times_do_not_matter(self):
        self.assertIs(fits(SET, ((), 1, ("a",), 5, 6), KEYS, (("a",), 1, (), 50, 60)), True)


class FaultTest(unittest.TestCase):
    """The realm and the items of the example of the interface, changed one at a time."""

    REALM = (((".", 0), ("shop", 0)), ("q", "r"), ((".", "mx"), ("shop", "mx")))
    HELD = {
        KEYS_ROOT: (("r",), 20, ("r",), 0, 90),
        LINK: (("a",), 10, ("r",), 0, 90),
        KEYS: (("a", "b"), 10, ("a",), 0, 90),
        SET: (("v1",), 5, ("b",), 0, 50),
    }

    def fault(self, moment=50, **items):
        """Return the fault with some of the items replaced."""
        slots = {"root": KEYS_ROOT, "link": LINK, "keys": KEYS, "set": SET}
        held = {**self.HELD, **{slots[word]: item for word, item in items.items()}}
        return fault(self.REALM, held, "shop", "mx", moment)

    def test_the_example(self):
        self.assertIsNone(self.fault(50))
        self.assertEqual(self.fault(51), ("late", SET))
        self.assertEqual(self.fault(50, keys=(("b",), 10, ("b",), 0, 90)), ("keys", KEYS))

    def test_moments(self):
        for slot, word in ((KEYS_ROOT, "root"), (LINK, "link"), (KEYS, "keys"), (SET, "set")):
            item = self.HELD[slot][:3] + (20, 40)
            self.assertEqual(self.fault(19, **{word: item}), ("early", slot))
            self.assertIsNone(self.fault(20, **{word: item}))
            self.assertIsNone(self.fault(40, **{word: item}))
            self.assertEqual(self.fault(41, **{word: item}), ("late", slot))

    def test_anchors(self):
        self.assertIsNone(self.fault(root=(("r",), 20, ("a", "q"), 0, 90)))
        for signers in ((), ("a",), ("a", "b", "c")):
            self.assertEqual(self.fault(root=(("r",), 20, signers, 0, 90)), ("anchor", KEYS_ROOT))

    def test_an_anchor_need_not_be_in_the_content(self):
        self.assertIsNone(self.fault(root=(("r", "s"), 20, ("q",), 0, 90)))
        self.assertEqual(self.fault(root=(("s",), 20, ("s",), 0, 90)), ("anchor", KEYS_ROOT))

    def test_seals(self):
        self.assertEqual(self.fault(link=(("a",), 10, ("q",), 0, 90)), ("link", LINK))
        self.assertEqual(self.fault(link=(("a",), 10, (), 0, 90)), ("link", LINK))
        self.assertEqual(self.fault(root=(("s",), 20, ("r",), 0, 90)), ("link", LINK))
        self.assertEqual(self.fault(keys=(("a", "b"), 10, ("b",), 0, 90)), ("keys", KEYS))
        self.assertEqual(self.fault(keys=(("b",), 10, ("a",), 0, 90)), ("keys", KEYS))
        self.assertEqual(self.fault(link=(("b",), 10, ("r",), 0, 90)), ("keys", KEYS))
        self.assertEqual(self.fault(set=(("v1",), 5, ("c",), 0, 90)), ("set", SET))
        self.assertEqual(self.fault(keys=(("a",), 10, ("a",), 0, 90)), ("set", SET))

    def test_a_set_in_the_root(self):
        place = ("set", ".", "mx")
        held = {KEYS_ROOT: (("r",), 20, ("r",), 0, 90), place: ((), 5, ("r",), 0, 90)}
        self.assertIsNone(fault(self.REALM, held, ".", "mx", 9))
        held[place] = ((), 5, ("q",), 0, 90)
        self.assertEqual(fault(self.REALM, held, ".", "mx", 9), ("set", place))

    def test_the_first_fault_from_the_root_downwards(self):
        late = {
            "root": (("x",), 20, ("x",), 0, 5), "link": (("x",), 20, ("y",), 0, 5),
            "keys": (("y",), 20, ("z",), 0, 5), "set": ((), 20, ("x",), 0, 5),
        }
        slots = {"root": KEYS_ROOT, "link": LINK, "keys": KEYS, "set": SET}
        words = ["root", "link", "keys", "set"]
        for at, word in enumerate(words):
            below = {name: late[name] for name in words[at:]}
            self.assertEqual(self.fault(6, **below), ("late", slots[word]))
        below = {name: item[:3] + (10, 90) for name, item in late.items()}
        self.assertEqual(self.fault(6, **below), ("early", KEYS_ROOT))
        self.assertEqual(self.fault(20, **below), ("anchor", KEYS_ROOT))
        del below["root"]
        self.assertEqual(self.fault(20, **below), ("link", LINK))
        del below["link"]
        self.assertEqual(self.fault(20, **below), ("keys", KEYS))
        del below["keys"]
        self.assertEqual(self.fault(20, **below), ("set", SET))

    def test_a_fault_of_time_below_one_of_seals(self):
        self.assertEqual(self.fault(51, link=(("a",), 10, ("q",), 0, 90)), ("link", LINK))
        self.assertEqual(self.fault(50, link=(("a",), 10, ("q",), 0, 20)), ("late", LINK))

    def test_more_items_than_are_needed(self):
        held = dict(self.HELD)
        held[("set", ".", "mx")] = ((), 1, (), 9, 9)
        held[("hosts", "shop")] = ((), 1, (), 0, 10000)
        self.assertIsNone(fault(self.REALM, held, "shop", "mx", 50))

    def test_the_dict_stays(self):
        held = dict(self.HELD)
        fault(self.REALM, held, "shop", "mx", 50)
        fault(self.REALM, held, "shop", "mx", 95)
        self.assertEqual(list(held.items()), list(self.HELD.items()))

    def test_deep_chains(self):
        realm = (((".", 0), ("land", 0), ("shop.land", 0)), ("r",), (("www.shop.land", "a"),))
        held = {
            ("keys", "."): (("r",), 1, ("r",), 0, 90),
            ("link", "land"): (("a",), 1, ("r",), 0, 90),
            ("keys", "land"): (("a", "b"), 1, ("a",), 0, 90),
            ("link", "shop.land"): (("a",), 1, ("b",), 0, 90),
            ("keys", "shop.land"): (("a", "c"), 1, ("a",), 0, 90),
            ("set", "www.shop.land", "a"): (("v",), 1, ("c",), 0, 90),
        }
        self.assertIsNone(fault(realm, held, "www.shop.land", "a", 9))
        held[("keys", "land")] = (("a",), 1, ("a",), 0, 90)
        self.assertEqual(fault(realm, held, "www.shop.land", "a", 9), ("link", ("link", "shop.land")))


if __name__ == "__main__":
    unittest.main()
