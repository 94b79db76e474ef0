"""Clusters of nodes, and the answers to a list of calls."""

from spreadnodes.code_calls import again, agree, change, judge, part, store, tell, wrong
from spreadnodes.codes import Code, document_bytes, is_code
from spreadnodes.listing import call_at
from spreadnodes.refusals import NO_SUCH, UNFIT
from spreadnodes.spreading import rows_of_node, square_of


class Cluster:
    """A code, and for each of its nodes the rows that the node has."""

    def __init__(self, code, held):
        self.code = code
        self.held = held


def build(clusters, which, code, document):
    """Put a cluster of all the code's nodes in the place of that object."""
    if which >= len(clusters) or not is_code(code):
        return [NO_SUCH]
    if len(document) != document_bytes(code):
        return [UNFIT]
    square = square_of(code, document)
    clusters[which] = Cluster(code, [rows_of_node(square, node) for node in range(code.n)])
    return [0]


def code_from(whole, start):
    """The code whose four numbers begin there."""
    return Code(whole[start], whole[start + 1], whole[start + 2], whole[start + 3])


def answer_of_code(call):
    """The answer to a call that is asked of a code alone."""
    whole = call.whole
    lists = call.lists
    code = code_from(whole, 0)
    if call.number == 0:
        return judge(code)
    if call.number == 1:
        return store(code, whole[4], lists[0])
    if call.number == 2:
        return tell(code, lists[0], lists[1])
    if call.number == 3:
        return part(code, whole[4], lists[0])
    if call.number == 4:
        return again(code, whole[4], lists[0], lists[1])
    if call.number == 5:
        return agree(code, whole[4], whole[5], lists[0], lists[1])
    if call.number == 6:
        return change(code, whole[4], whole[5], lists[0], lists[1])
    return wrong(code, lists[0], lists[1])


def answer_to(clusters, call):
    """The answer to any call; what it changes, it changes in the clusters."""
    if call.number < 8:
        return answer_of_code(call)
    return build(clusters, call.whole[0], code_from(call.whole, 1), call.lists[0])


def answers(calls):
    """For each call in order: how many numbers are answered, then these."""
    clusters = [None, None]
    given = []
    at = 0
    while at < len(calls):
        call = call_at(calls, at)
        answer = answer_to(clusters, call)
        given.append(len(answer))
        given.extend(answer)
        at = call.end
    return given
