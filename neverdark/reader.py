"""Reading the texts of cases, plans, tables and histories."""

from neverdark.errors import BadText, NeverdarkError
from neverdark.names import is_id, is_name, is_number

# What the items of hosts slots have, as their lines do not say it.
HOSTS_FIRST = 0
HOSTS_LAST = 10000

# The groups of lines of a case, in their order.
ZONES = 0
ANCHORS = 1
SETS = 2
ITEMS = 3
SERVERS = 4
DEEDS = 5
PAIRS = 6
END = 7


class NoForm(NeverdarkError):
    """Some words have no form of their text; callers see a BadText instead."""


def read_number(word):
    """Return the number that the word is."""
    if not is_number(word):
        raise NoForm("number")
    return int(word)


def read_id(word):
    """Return the word, which has to be an id."""
    if not is_id(word):
        raise NoForm("id")
    return word


def read_name(word):
    """Return the word, which has to be a name."""
    if not is_name(word):
        raise NoForm("name")
    return word


def read_ids(word):
    """Return the tuple of the ids that the word joins."""
    if word == "-":
        return ()
    return tuple([read_id(part) for part in word.split(",")])


def read_numbers(words):
    """Return the tuple of the numbers that the words are."""
    return tuple([read_number(word) for word in words])


def read_slot(words):
    """Return the slot that the words are."""
    if len(words) == 2 and words[0] in ("keys", "link", "hosts"):
        return (words[0], read_name(words[1]))
    if len(words) == 3 and words[0] == "set":
        return ("set", read_name(words[1]), read_id(words[2]))
    raise NoForm("slot")


def split_slot(words):
    """Return the slot at the beginning of the words, and the words behind it."""
    size = 3 if words[:1] == ["set"] else 2
    return read_slot(words[:size]), words[size:]


def read_hosts_item(words):
    """Return the item of a hosts slot that the words are."""
    match words:
        case [content, "life", life]:
            return (read_ids(content), read_number(life), (), HOSTS_FIRST, HOSTS_LAST)
        case _:
            raise NoForm("item")


def read_sealed_item(words):
    """Return the item of a slot other than hosts that the words are."""
    match words:
        case [content, "life", life, "by", signers, "from", first, "to", last]:
            kept = (read_ids(content), read_number(life))
            sealed = (read_ids(signers), read_number(first), read_number(last))
            return kept + sealed
        case _:
            raise NoForm("item")


def read_placed(words):
    """Return the slot and the item of `SLOT = ITEM`."""
    slot, rest = split_slot(words)
    if rest[:1] != ["="]:
        raise NoForm("=")
    if slot[0] == "hosts":
        return slot, read_hosts_item(rest[1:])
    return slot, read_sealed_item(rest[1:])


def read_deed(words):
    """Return the deed that the words are."""
    if words[:1] == ["put"]:
        slot, item = read_placed(words[1:])
        return ("put", slot, item)
    if len(words) == 3 and words[0] in ("on", "off"):
        return (words[0], read_id(words[1]), read_name(words[2]))
    raise NoForm("deed")


def read_step(words):
    """Return the moment and the deed of a line of a plan."""
    match words:
        case ["at", moment, *deed]:
            return (read_number(moment), read_deed(deed))
        case _:
            raise NoForm("line of a plan")


def read_wait(words):
    """Return the row of a line of a table."""
    if len(words) != 4 or words[0] != "wait":
        raise NoForm("line of a table")
    return read_numbers(words[1:])


def read_event(words):
    """Return the event of a line of a history."""
    match words:
        case ["go", moment]:
            return ("go", read_number(moment))
        case ["fill", *rest]:
            slot, numbers = split_slot(rest)
            return ("fill", slot, read_numbers(numbers))
        case ["ask", name, kind, *picks]:
            return ("ask", read_name(name), read_id(kind), read_numbers(picks))
        case ["drop", *rest]:
            return ("drop", read_slot(rest))
        case ["plant", *rest]:
            slot, item = read_placed(rest)
            return ("plant", slot, item)
        case ["lose", zone, key]:
            return ("lose", read_name(zone), read_id(key))
        case _:
            raise NoForm("line of a history")


def read_case_line(words):
    """Return the group of a line of a case, and what it says."""
    match words:
        case ["zone", zone, "lag", lag]:
            return ZONES, (read_name(zone), read_number(lag))
        case ["anchor", key]:
            return ANCHORS, read_id(key)
        case ["set", name, kind]:
            return SETS, (read_name(name), read_id(kind))
        case ["on", server, zone]:
            return SERVERS, (read_id(server), read_name(zone))
        case ["deed", least, most, *deed]:
            return DEEDS, (read_deed(deed), (read_number(least), read_number(most)))
        case ["before", earlier, later]:
            return PAIRS, (read_number(earlier), read_number(later))
        case ["end", moment]:
            return END, read_number(moment)
        case _:
            return ITEMS, read_placed(words)


def split_lines(text):
    """Return the list of the words of each line."""
    if text == "":
        return []
    return [line.split(" ") for line in text.split("\n")]


def read_line(read, words, at):
    """Return what the line with the number `at` says, read by a function."""
    try:
        return read(words)
    except NoForm:
        raise BadText(at) from None


def read_lines(read, text):
    """Return the tuple of what the lines say, each read by the function."""
    rows = split_lines(text)
    return tuple([read_line(read, words, at) for at, words in enumerate(rows, start=1)])


def read_groups(text):
    """Return a list for each group of a case, with what its lines say."""
    rows = split_lines(text)
    groups = [[] for _ in range(END + 1)]
    last = ZONES
    for at, words in enumerate(rows, start=1):
        group, said = read_line(read_case_line, words, at)
        if group < last or last == END:
            raise BadText(at)
        groups[group].append(said)
        last = group
    if last != END:
        raise BadText(len(rows) + 1)
    return groups


def read_case(text):
    """Return the raw case that the text is."""
    groups = read_groups(text)
    realm = (tuple(groups[ZONES]), tuple(groups[ANCHORS]), tuple(groups[SETS]))
    state = (tuple(groups[ITEMS]), tuple(groups[SERVERS]))
    deeds = tuple([deed for deed, _ in groups[DEEDS]])
    bounds = tuple([pair for _, pair in groups[DEEDS]])
    return (realm, state, deeds, bounds, tuple(groups[PAIRS]), groups[END][0])


def read_plan(text):
    """Return the plan that the text is."""
    return read_lines(read_step, text)


def read_table(text):
    """Return the table that the text is."""
    return read_lines(read_wait, text)


def read_history(text):
    """Return the history that the text is."""
    return read_lines(read_event, text)
