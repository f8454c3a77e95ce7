"""Lines of all forms with their values, and ways to spoil a line, for several tests."""

# The words of a form. A word in angle brackets stands for a value of its kind.
KINDS = {
    "<number>": ("7", ["", "07", "00", "123456", "-1", "+1", "1.0", "1,0", "1_0", "0x1", "x", "-", "7\n", "7\r",
                       "\u0663", "\u00b2", "\uff11", "1\u0663"]),
    "<id>": ("k1", ["", "abcde", "A", "kA", "k_", "k-", "-", "k,l", ".", "k.l", "+", "\u00e4", "\u0663", "k\n",
                    "k\r"]),
    "<name>": ("www.land", ["", "..", ".land", "land.", "a..b", "Land", "e.d.c.b.a", "abcdefghi", "a.abcdefghi",
                            "a_b", "a-b", "a,b", "-", "\u00e4", "\u0663", "land\n", "land\r"]),
    "<ids>": ("a,b", ["", ",", "a,", ",a", "a,,b", "-,a", "a,-", "--", "a;b", "abcde", "a,abcde", "A", "a.b", ".",
                      "a,\u00e4", "a\n", "a\r"]),
}

SLOT_FORMS = ["keys <name>", "link <name>", "set <name> <id>"]
SEALED = "= <ids> life <number> by <ids> from <number> to <number>"
PLACED_FORMS = [f"{form} {SEALED}" for form in SLOT_FORMS] + ["hosts <name> = <ids> life <number>"]
DEED_FORMS = [f"put {form}" for form in PLACED_FORMS] + ["on <id> <name>", "off <id> <name>"]

# The forms of each group of lines of a case, in the order of the groups.
CASE_FORMS = [
    ["zone <name> lag <number>"],
    ["anchor <id>"],
    ["set <name> <id>"],
    PLACED_FORMS,
    ["on <id> <name>"],
    [f"deed <number> <number> {form}" for form in DEED_FORMS],
    ["before <number> <number>"],
    ["end <number>"],
]
PLAN_FORMS = [f"at <number> {form}" for form in DEED_FORMS]
TABLE_FORMS = ["wait <number> <number> <number>"]
HISTORY_FORMS = (
    ["go <number>", "ask <name> <id>", "lose <name> <id>"]
    + [f"fill {form}" for form in SLOT_FORMS + ["hosts <name>"]]
    + [f"drop {form}" for form in SLOT_FORMS + ["hosts <name>"]]
    + [f"plant {form}" for form in PLACED_FORMS]
)

# Texts of slots, items and deeds, and what they stand for.
SLOTS = [
    ("keys .", ("keys", ".")),
    ("keys shop.land", ("keys", "shop.land")),
    ("link land", ("link", "land")),
    ("link .", ("link", ".")),
    ("hosts land", ("hosts", "land")),
    ("hosts .", ("hosts", ".")),
    ("set www.shop.land a", ("set", "www.shop.land", "a")),
    ("set . ns", ("set", ".", "ns")),
    ("set 1 2", ("set", "1", "2")),
]
SEALED_ITEMS = [
    ("a life 20 by r from 0 to 90", (("a",), 20, ("r",), 0, 90)),
    ("a,b life 20 by r,s,t from 5 to 90", (("a", "b"), 20, ("r", "s", "t"), 5, 90)),
    ("- life 1 by - from 0 to 0", ((), 1, (), 0, 0)),
    ("b,a,b life 0 by r,r from 99999 to 0", (("b", "a", "b"), 0, ("r", "r"), 99999, 0)),
    ("a,b,c,d,e,f life 99999 by 1,2,3,4,5 from 0 to 99999",
     (("a", "b", "c", "d", "e", "f"), 99999, ("1", "2", "3", "4", "5"), 0, 99999)),
]
HOSTS_ITEMS = [
    ("s1 life 20", (("s1",), 20, (), 0, 10000)),
    ("s2,s1,s2 life 0", (("s2", "s1", "s2"), 0, (), 0, 10000)),
    ("- life 99999", ((), 99999, (), 0, 10000)),
]


def placed():
    """Return the texts of SLOT = ITEM for all slots and items above, with their pairs."""
    rows = []
    for slot_text, slot in SLOTS:
        for item_text, item in HOSTS_ITEMS if slot[0] == "hosts" else SEALED_ITEMS:
            rows.append((f"{slot_text} = {item_text}", (slot, item)))
    return rows


def deeds():
    """Return texts of deeds, with the deeds."""
    rows = [(f"put {text}", ("put", slot, item)) for text, (slot, item) in placed()]
    rows.append(("on s1 land", ("on", "s1", "land")))
    rows.append(("on s1 .", ("on", "s1", ".")))
    rows.append(("off 9999 a.b.c.d", ("off", "9999", "a.b.c.d")))
    return rows


def events():
    """Return texts of events, with the events."""
    rows = [("go 0", ("go", 0)), ("go 99999", ("go", 99999))]
    for text, slot in SLOTS:
        rows.append((f"fill {text}", ("fill", slot, ())))
        rows.append((f"fill {text} 3 0 99999", ("fill", slot, (3, 0, 99999))))
        rows.append((f"drop {text}", ("drop", slot)))
    rows.extend([(f"plant {text}", ("plant", slot, item)) for text, (slot, item) in placed()])
    rows.append(("ask www.land a", ("ask", "www.land", "a", ())))
    rows.append(("ask . 1 0", ("ask", ".", "1", (0,))))
    rows.append(("ask www.land a 2 2 10", ("ask", "www.land", "a", (2, 2, 10))))
    rows.append(("lose . r", ("lose", ".", "r")))
    rows.append(("lose shop.land 1234", ("lose", "shop.land", "1234")))
    return rows


# A text with lines of all groups, in any order and repeated within their groups, and its raw case.
CASE_TEXT = """zone land lag 3
zone . lag 0
zone land lag 99999
anchor s
anchor r
anchor s
set www.land a
set . ns
set www.land a
set www.land a = v2,v1 life 5 by b from 0 to 50
keys . = r life 20 by r from 0 to 90
hosts land = - life 10
keys . = r life 20 by r from 0 to 90
on s2 land
on s1 .
on s2 land
deed 1 4 put link land = a life 10 by - from 3 to 90
deed 0 99999 off s2 land
deed 5 2 on s2 land
deed 5 2 on s2 land
before 2 1
before 1 1
before 2 1
end 44"""
CASE = (
    (
        (("land", 3), (".", 0), ("land", 99999)),
        ("s", "r", "s"),
        (("www.land", "a"), (".", "ns"), ("www.land", "a")),
    ),
    (
        (
            (("set", "www.land", "a"), (("v2", "v1"), 5, ("b",), 0, 50)),
            (("keys", "."), (("r",), 20, ("r",), 0, 90)),
            (("hosts", "land"), ((), 10, (), 0, 10000)),
            (("keys", "."), (("r",), 20, ("r",), 0, 90)),
        ),
        (("s2", "land"), ("s1", "."), ("s2", "land")),
    ),
    (
        ("put", ("link", "land"), (("a",), 10, (), 3, 90)),
        ("off", "s2", "land"),
        ("on", "s2", "land"),
        ("on", "s2", "land"),
    ),
    ((1, 4), (0, 99999), (5, 2), (5, 2)),
    ((2, 1), (1, 1), (2, 1)),
    44,
)
EMPTY_CASE = (((), (), ()), ((), ()), (), (), (), 0)


def good(form):
    """Return a line of the form."""
    return " ".join([KINDS[word][0] if word in KINDS else word for word in form.split(" ")])


def spoilt(form):
    """Return lines that are like the form but for one place."""
    line = good(form)
    words = line.split(" ")
    rows = ["", " ", f" {line}", f"{line} ", line.upper(), f"\t{line}"]
    rows.extend([f"{line}{mark}" for mark in ("\r", "\t", "\x0b", "\x0c", "\x1c", "\x85", "\u2028", "\u00a0")])
    for at, part in enumerate(form.split(" ")):
        wrong = KINDS[part][1] if part in KINDS else ["", "zz9", words[at].upper(), f"{words[at]}{words[at]}"]
        rows.extend([" ".join([*words[:at], word, *words[at + 1:]]) for word in wrong if "\n" not in word])
        rows.append(" ".join(words[:at] + words[at + 1:]))
        rows.append(" ".join(words[:at] + ["zz9"] + words[at:]))
    rows.append(f"{line} zz9")
    rows.extend([line.replace(" ", space, 1) for space in ("  ", "\t", "\u00a0", "_", "")])
    return [row for row in rows if row != line]


def broken(form):
    """Return lines of the form with a newline behind one of their words."""
    words = good(form).split(" ")
    return [" ".join([*words[:at], f"{words[at]}\n", *words[at + 1:]]) for at in range(len(words))]


def wrong_kinds(value):
    """Return copies of the value in which one place has a value of another kind."""
    if isinstance(value, str):
        return [5, 0, (), ("a",), (value,), ((),)]
    if isinstance(value, int):
        return ["", "5", str(value), (), (value,), ("a", "b")]
    rows = ["", "ab", "a", 0, 7, (value,)]
    for at, part in enumerate(value):
        rows.extend([value[:at] + (wrong,) + value[at + 1:] for wrong in wrong_kinds(part)])
    return rows


def replaced(value, pool):
    """Return copies of the value in which one place has a value of the pool."""
    rows = list(pool)
    if isinstance(value, tuple):
        for at, part in enumerate(value):
            rows.extend([value[:at] + (other,) + value[at + 1:] for other in replaced(part, pool)])
            rows.append(value[:at] + value[at + 1:])
    return rows


# A realm with zones up to four labels deep, some of whose parents lie several labels above them.
REALM = (
    ((".", 2), ("a", 3), ("d.c.b.a", 0), ("land", 100), ("shop.land", 1), ("z.y.x", 4)),
    ("k1", "r", "s"),
    ((".", "ns"), ("d.c.b.a", "v"), ("sea", "v"), ("www.shop.land", "a"), ("www.shop.land", "b"), ("z.y.x", "v")),
)
REALM_SLOTS = (
    ("keys", "."),
    ("keys", "a"), ("link", "a"), ("hosts", "a"),
    ("keys", "d.c.b.a"), ("link", "d.c.b.a"), ("hosts", "d.c.b.a"),
    ("keys", "land"), ("link", "land"), ("hosts", "land"),
    ("keys", "shop.land"), ("link", "shop.land"), ("hosts", "shop.land"),
    ("keys", "z.y.x"), ("link", "z.y.x"), ("hosts", "z.y.x"),
    ("set", ".", "ns"), ("set", "d.c.b.a", "v"), ("set", "sea", "v"), ("set", "www.shop.land", "a"),
    ("set", "www.shop.land", "b"), ("set", "z.y.x", "v"),
)
SEALED_ITEM = (("a", "b"), 20, ("r",), 0, 90)
OTHER_ITEM = (("c",), 1000, (), 5, 10000)
HOSTS_ITEM = (("s1", "s2"), 20, (), 0, 10000)
OTHER_HOSTS = ((), 1, (), 0, 10000)


def state_of(realm_slots, on):
    """Return a state with these slots, whose items are the two above."""
    items = [(slot, HOSTS_ITEM if slot[0] == "hosts" else SEALED_ITEM) for slot in realm_slots]
    return (tuple(items), on)


STATE = state_of(REALM_SLOTS, (("s1", "a"), ("s1", "land"), ("s2", "land"), ("x", "z.y.x")))
