"""Rings: the least moments that keep some rows, or rows that show that there are none."""


def keeps(rows, moments):
    """Tell if the moments of the deeds, in their order, keep all rows."""
    at = [0, *moments]
    return all([at[k] - at[j] >= least for k, j, least in rows])


def settle(rows, count):
    """Raise moments from 0 on by the rows that they break, as often as moments that keep them could need.

    Returns the list of the moments for the numbers 0 to `count`, the list of the rows that raised
    them last, and the number of a moment that was still raised at the end, or None.
    """
    moments = [0] * (count + 1)
    causes = [None] * (count + 1)
    all_rows = [*rows, *[(k, 0, 0) for k in range(count + 1)]]
    raised = None
    for _ in range(count + 1):
        raised = None
        for row in all_rows:
            k, j, least = row
            if moments[k] < moments[j] + least:
                moments[k] = moments[j] + least
                causes[k] = row
                raised = k
        if raised is None:
            break
    return moments, causes, raised


def least_moments(rows, count):
    """Return the tuple of the least moments that keep all rows, or None if there are none."""
    moments, _, raised = settle(rows, count)
    return tuple(moments[1:]) if raised is None else None


def find_ring(rows, count):
    """Return a ring among the rows and the rows (k, 0, 0), or the empty list if some moments keep the rows."""
    _, causes, raised = settle(rows, count)
    if raised is None:
        return []
    # The causes of a moment that is raised for ever lead into a ring, at the latest after so many steps.
    at = raised
    for _ in range(count + 1):
        at = causes[at][1]
    ring = [causes[at]]
    while ring[-1][1] != at:
        ring.append(causes[ring[-1][1]])
    begin = ring.index(min(ring))
    return ring[begin:] + ring[:begin]


def is_ring(rows, ring):
    """Tell if the list is a ring of these rows and rows (k, 0, 0)."""
    if not ring:
        return False
    behind = [*ring[1:], ring[0]]
    linked = all([row[1] == other[0] for row, other in zip(ring, behind)])
    known = all([row in rows or (row[0] >= 0 and row[1:] == (0, 0)) for row in ring])
    return linked and known and sum([row[2] for row in ring]) > 0
