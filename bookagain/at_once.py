"""How a statement may end before it has waited for anything, and whether each loop must wait."""

from bookagain.codes import ASSIGN, BESIDE, CATCH, DEAL, FAIL, LIMIT, LOOP, NOTHING, SEND, THEN
from bookagain.refusals import LoopMustWait
from bookagain.reading import statements_in


# Two answers: whether it may end well at once, and whether it may fail at once.
def ends_at_once(statement):
    kind = statement[0]
    ends = [ends_at_once(part) for part in statements_in(statement)]
    if not ends:
        return (kind in (NOTHING, ASSIGN, SEND), kind == FAIL)
    if kind == LOOP:
        return loop_at_once(ends[0])
    if kind in (LIMIT, DEAL):
        return ends[0]
    return two_at_once(kind, ends[0], ends[1])


def loop_at_once(inner):
    if inner[0]:
        raise LoopMustWait()
    return (True, inner[1])


def two_at_once(kind, first, second):
    if kind == THEN:
        return (first[0] and second[0], first[1] or (first[0] and second[1]))
    if kind == BESIDE:
        return (first[0] and second[0], first[1] or second[1])
    if kind == CATCH:
        return (first[0] or (first[1] and second[0]), first[1] and second[1])
    return (first[0] or second[0], first[1] or second[1])


def check_loops(statement):
    ends_at_once(statement)
