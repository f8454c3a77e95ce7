"""Printing the texts of cases, plans, tables and histories."""


def ids_text(ids):
    """Return the word for a tuple of ids."""
    return ",".join(ids) if ids else "-"


def item_text(slot, item):
    """Return the words of an item; those of a hosts slot have no seal."""
    content, life, signers, first, last = item
    kept = f"{ids_text(content)} life {life}"
    if slot[0] == "hosts":
        return kept
    return f"{kept} by {ids_text(signers)} from {first} to {last}"


def placed_text(slot, item):
    """Return `SLOT = ITEM`."""
    return f"{' '.join(slot)} = {item_text(slot, item)}"


def deed_text(deed):
    """Return the words of a deed."""
    word, place, worth = deed
    if word == "put":
        return f"put {placed_text(place, worth)}"
    return f"{word} {place} {worth}"


def picked_text(words, picks):
    """Return the words with the picks behind them."""
    return " ".join([*words, *[str(pick) for pick in picks]])


def event_text(event):
    """Return the line of an event."""
    word = event[0]
    if word == "go":
        return f"go {event[1]}"
    if word == "fill":
        return picked_text(["fill", *event[1]], event[2])
    if word == "ask":
        return picked_text(["ask", event[1], event[2]], event[3])
    if word == "drop":
        return " ".join(["drop", *event[1]])
    if word == "plant":
        return f"plant {placed_text(event[1], event[2])}"
    return " ".join(event)


def realm_lines(realm):
    """Return the lines of the zones, the anchors and the sets."""
    zones, anchors, sets = realm
    rows = [f"zone {zone} lag {lag}" for zone, lag in zones]
    rows.extend([f"anchor {key}" for key in anchors])
    rows.extend([f"set {name} {kind}" for name, kind in sets])
    return rows


def state_lines(state):
    """Return the lines of the items and the servers."""
    items, on = state
    rows = [placed_text(slot, item) for slot, item in items]
    rows.extend([f"on {server} {zone}" for server, zone in on])
    return rows


def deed_lines(deeds, bounds):
    """Return the lines of the deeds with their bounds."""
    return [f"deed {least} {most} {deed_text(deed)}" for deed, (least, most) in zip(deeds, bounds)]


def case_text(case):
    """Return the text of a raw case."""
    realm, state, deeds, bounds, before, end = case
    rows = realm_lines(realm) + state_lines(state) + deed_lines(deeds, bounds)
    rows.extend([f"before {earlier} {later}" for earlier, later in before])
    rows.append(f"end {end}")
    return "\n".join(rows)


def plan_text(plan):
    """Return the text of a plan."""
    return "\n".join([f"at {moment} {deed_text(deed)}" for moment, deed in plan])


def table_text(table):
    """Return the text of a table."""
    return "\n".join([f"wait {later} {earlier} {least}" for later, earlier, least in table])


def history_text(history):
    """Return the text of a history."""
    return "\n".join([event_text(event) for event in history])
