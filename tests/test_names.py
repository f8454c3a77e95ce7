"""1.1, 1.2, 1.3 and the chain of 2.2."""

import unittest

from neverdark.names import chain, ends, is_id, is_label, is_name, is_number, labels, zone_of

# None of these characters is one of a-z or 0-9.
STRANGE = ["A", "Z", "-", "_", "+", "*", " ", "\t", "\n", "\r", ",", "=", ":", "/", "`", "{", "@",
           "\u00e4", "\u00df", "\u0131", "\u017f", "\u0430", "\u00b2", "\u0663", "\uff11", "\uff41", "\u2460"]


class CharactersTest(unittest.TestCase):
    def test_every_character(self):
        for letter in [chr(code) for code in range(0x3000)] + ["\uff11", "\uff41", "\U0001d7ce"]:
            right = letter in list("abcdefghijklmnopqrstuvwxyz0123456789")
            self.assertIs(is_id(letter), right, repr(letter))
            self.assertIs(is_label(letter), right, repr(letter))
            self.assertIs(is_name(letter), right or letter == ".", repr(letter))
            self.assertIs(is_number(letter), letter in list("0123456789"), repr(letter))


class IdsTest(unittest.TestCase):
    def test_lengths(self):
        self.assertIs(is_id(""), False)
        self.assertIs(is_id("a"), True)
        self.assertIs(is_id("ab12"), True)
        self.assertIs(is_id("ab123"), False)

    def test_every_letter_and_digit(self):
        for letter in "abcdefghijklmnopqrstuvwxyz0123456789":
            self.assertIs(is_id(letter), True, letter)

    def test_other_characters(self):
        for letter in STRANGE + ["."]:
            for text in (letter, letter + "a", "a" + letter, "a" + letter + "b"):
                self.assertIs(is_id(text), False, repr(text))


class LabelsTest(unittest.TestCase):
    def test_lengths(self):
        self.assertIs(is_label(""), False)
        self.assertIs(is_label("a"), True)
        self.assertIs(is_label("7"), True)
        self.assertIs(is_label("abcdefg8"), True)
        self.assertIs(is_label("abcdefgh9"), False)

    def test_other_characters(self):
        for letter in STRANGE + ["."]:
            for text in (letter, letter + "a", "a" + letter, "a" + letter + "b"):
                self.assertIs(is_label(text), False, repr(text))

    def test_labels_from_the_root_on(self):
        self.assertEqual(labels("www.shop.land"), ["land", "shop", "www"])
        self.assertEqual(labels("land"), ["land"])
        self.assertEqual(labels("d.c.b.a"), ["a", "b", "c", "d"])

    def test_the_root_has_no_labels(self):
        self.assertEqual(labels("."), [])


class NumbersTest(unittest.TestCase):
    def test_numbers(self):
        for text in ("0", "1", "9", "10", "99999", "10000"):
            self.assertIs(is_number(text), True, text)

    def test_no_numbers(self):
        for text in ("", "00", "01", "012", "100000", "-1", "+1", " 1", "1 ", "1\n", "1_0", "1.0", "a", "0x1",
                     "\u0663", "\u00b2", "\uff11", "1\u0663"):
            self.assertIs(is_number(text), False, repr(text))


class IsNameTest(unittest.TestCase):
    def test_numbers_of_labels(self):
        self.assertIs(is_name("."), True)
        self.assertIs(is_name("a"), True)
        self.assertIs(is_name("b.a"), True)
        self.assertIs(is_name("d.c.b.a"), True)
        self.assertIs(is_name("e.d.c.b.a"), False)

    def test_lengths_of_labels(self):
        self.assertIs(is_name("abcdefg8"), True)
        self.assertIs(is_name("abcdefg8.abcdefg8.abcdefg8.abcdefg8"), True)
        self.assertIs(is_name("abcdefgh9"), False)
        self.assertIs(is_name("a.abcdefgh9"), False)
        self.assertIs(is_name("abcdefgh9.a"), False)

    def test_periods(self):
        for text in ("", "..", ".a", "a.", "a..b", ".a.b", "a.b.", "...", ".a."):
            self.assertIs(is_name(text), False, repr(text))

    def test_other_characters(self):
        for letter in STRANGE:
            for text in (letter, letter + "a", "a" + letter, "a." + letter, letter + ".a", "a." + letter + "b.c"):
                self.assertIs(is_name(text), False, repr(text))

    def test_a_newline_at_the_end(self):
        for text in ("a\n", ".\n", "b.a\n"):
            self.assertIs(is_name(text), False)


class EndsTest(unittest.TestCase):
    def test_itself(self):
        self.assertIs(ends("shop.land", "shop.land"), True)
        self.assertIs(ends(".", "."), True)

    def test_the_root(self):
        self.assertIs(ends("land", "."), True)
        self.assertIs(ends("www.shop.land", "."), True)
        self.assertIs(ends(".", "land"), False)

    def test_names_above(self):
        self.assertIs(ends("www.shop.land", "shop.land"), True)
        self.assertIs(ends("www.shop.land", "land"), True)
        self.assertIs(ends("shop.land", "www.shop.land"), False)
        self.assertIs(ends("www.shop.land", "www.shop"), False)
        self.assertIs(ends("www.shop.land", "shop"), False)

    def test_the_same_last_letters_only(self):
        self.assertIs(ends("workshop.land", "shop.land"), False)
        self.assertIs(ends("island", "land"), False)


class ChainTest(unittest.TestCase):
    def test_the_example(self):
        self.assertEqual(chain([".", "land", "shop.land"], "www.shop.land"), [".", "land", "shop.land"])

    def test_zones_in_any_order(self):
        zones = ["shop.land", "a", "sea", ".", "workshop.land", "land"]
        self.assertEqual(chain(zones, "www.shop.land"), [".", "land", "shop.land"])
        self.assertEqual(chain(zones, "workshop.land"), [".", "land", "workshop.land"])
        self.assertEqual(chain(("a", "."), "a"), [".", "a"])
        self.assertEqual(chain((".", "a"), "a"), [".", "a"])

    def test_a_name_in_the_root(self):
        self.assertEqual(chain([".", "land"], "."), ["."])
        self.assertEqual(chain([".", "land"], "sea"), ["."])
        self.assertEqual(chain([".", "land"], "island"), ["."])

    def test_zones_may_be_missing_between(self):
        self.assertEqual(chain(("d.c.b.a", ".", "b.a"), "d.c.b.a"), [".", "b.a", "d.c.b.a"])

    def test_zone_of(self):
        zones = ["shop.land", ".", "land"]
        self.assertEqual(zone_of(zones, "www.shop.land"), "shop.land")
        self.assertEqual(zone_of(zones, "shop.land"), "shop.land")
        self.assertEqual(zone_of(zones, "workshop.land"), "land")
        self.assertEqual(zone_of(zones, "sea"), ".")
        self.assertEqual(zone_of((".",), "."), ".")
        self.assertEqual(zone_of(("a", "."), "a"), "a")

    def test_the_list_stays(self):
        zones = ["shop.land", ".", "land"]
        found = chain(zones, "shop.land")
        zone_of(zones, "shop.land")
        found.append("sea")
        self.assertEqual(zones, ["shop.land", ".", "land"])


if __name__ == "__main__":
    unittest.main()
