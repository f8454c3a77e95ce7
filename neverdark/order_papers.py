"""Papers of orders: trees that show that an answer is the best order."""

from neverdark.kinds import is_tuple_of
from neverdark.orders import Task, best_order, bound_of, finish_of, is_possible, picked
from neverdark.realms import are_allowed


class Claim:
    """An answer to a task, and the pairs that the orders have to keep."""

    def __init__(self, task, before, answer):
        self.task = task
        self.before = before
        self.answer = answer


def others(claim, beginning):
    """Return the numbers of the deeds that are not in the beginning, ascending."""
    return [k for k in range(1, len(claim.task.deeds) + 1) if k not in beginning]


def is_allowed_row(claim, beginning):
    """Tell if the deeds of the beginning are allowed one after another."""
    task = claim.task
    return are_allowed(task.ground.realm, task.state, picked(task.deeds, beginning))


def is_broken(claim, beginning, i):
    """Tell if the last deed of the beginning has to stand behind the deed i, which is still missing."""
    return len(beginning) > 0 and i not in beginning and (i, beginning[-1]) in claim.before


def is_forbidden(claim, beginning):
    """Tell if the last deed of the beginning is the first one that is not allowed."""
    # At the root there is none: no deeds are allowed one after another.
    return is_allowed_row(claim, beginning[:-1]) and not is_allowed_row(claim, beginning)


def is_hopeless(claim, beginning):
    """Tell if the beginning has no begun table."""
    if not beginning or not is_allowed_row(claim, beginning):
        return False
    return bound_of(claim.task, beginning) is None


def is_late(claim, beginning):
    """Tell if the bound of the beginning leaves no better order than the answer."""
    if claim.answer is None or not beginning or not is_allowed_row(claim, beginning):
        return False
    order, moment = claim.answer
    least = bound_of(claim.task, beginning)
    return least is not None and (least, beginning) > (moment, order[:len(beginning)])


def is_no_better(claim, order):
    """Tell if the beginning is a whole order that is not better than the answer."""
    if others(claim, order) or not is_allowed_row(claim, order):
        return False
    moment = finish_of(claim.task, order)
    if moment is None:
        return True
    return claim.answer is not None and (moment, order) >= (claim.answer[1], claim.answer[0])


def closes(claim, beginning, node):
    """Tell if the node, which may be any value, closes the beginning."""
    match node:
        case ("next", children):
            return closes_all(claim, beginning, children)
        case ("before", i):
            return is_broken(claim, beginning, i)
        case ("forbidden",):
            return is_forbidden(claim, beginning)
        case ("none",):
            return is_hopeless(claim, beginning)
        case ("late",):
            return is_late(claim, beginning)
        case ("whole",):
            return is_no_better(claim, beginning)
        case _:
            return False


def closes_all(claim, beginning, children):
    """Tell if the children are one for each deed that may come next, and close what they stand for."""
    left = others(claim, beginning)
    if not left or not is_tuple_of(children, len(left), len(left)):
        return False
    if not all([is_tuple_of(child, 2, 2) for child in children]) or [k for k, _ in children] != left:
        return False
    for k, node in children:
        if not closes(claim, (*beginning, k), node):
            return False
    return True


def closing_node(claim, beginning):
    """Return a node that closes the beginning; the answer of the claim is the right one."""
    nodes = [("before", i) for i in others(claim, beginning)]
    nodes.extend([("forbidden",), ("none",), ("late",), ("whole",)])
    for node in nodes:
        if closes(claim, beginning, node):
            return node
    return ("next", tuple([(k, closing_node(claim, (*beginning, k))) for k in others(claim, beginning)]))


def order_paper(realm, state, deeds, bounds, end, before):
    """Return a paper for the answer of `best_order`."""
    answer = best_order(realm, state, deeds, bounds, end, before)
    return closing_node(Claim(Task(realm, state, deeds, bounds, end), before, answer), ())


def is_finish(claim):
    """Tell if the answer is None, or a possible order with its finish."""
    if claim.answer is None:
        return True
    order, moment = claim.answer
    task = claim.task
    if not is_possible(task.ground.realm, task.state, task.deeds, claim.before, order):
        return False
    return finish_of(task, order) == moment


def check_paper(realm, state, deeds, bounds, end, before, answer, paper):
    """Tell if the paper, which may be any value, shows that the answer is the best order."""
    claim = Claim(Task(realm, state, deeds, bounds, end), before, answer)
    return is_finish(claim) and closes(claim, (), paper)
