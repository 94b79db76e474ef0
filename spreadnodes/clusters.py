"""The answers to a list of calls, with the two objects that the calls speak of."""

from spreadnodes.cluster_calls import build, edit, look, lose, mend, node_rows, read, spoil, state
from spreadnodes.code_calls import again, agree, change, judge, part, store, tell, wrong
from spreadnodes.codes import Code
from spreadnodes.listing import call_at
from spreadnodes.refusals import NO_SUCH, NOT_BUILT


def code_from(whole, start):
    """The code whose four numbers begin there."""
    return Code(whole[start], whole[start + 1], whole[start + 2], whole[start + 3])


def answer_of_code(call):
    """The answer to a call that is asked of a code alone."""
    whole = call.whole
    lists = call.lists
    code = code_from(whole, 0)
    if call.number == 0:
        return judge(code)
    if call.number == 1:
        return store(code, whole[4], lists[0])
    if call.number == 2:
        return tell(code, lists[0], lists[1])
    if call.number == 3:
        return part(code, whole[4], lists[0])
    if call.number == 4:
        return again(code, whole[4], lists[0], lists[1])
    if call.number == 5:
        return agree(code, whole[4], whole[5], lists[0], lists[1])
    if call.number == 6:
        return change(code, whole[4], whole[5], lists[0], lists[1])
    return wrong(code, lists[0], lists[1])


def answer_of_cluster(cluster, call):
    """The answer to a call that is asked of a built cluster; what it changes, it changes there."""
    whole = call.whole
    lists = call.lists
    if call.number == 9:
        return state(cluster)
    if call.number == 10:
        return node_rows(cluster, whole[1])
    if call.number == 11:
        return lose(cluster, whole[1])
    if call.number == 12:
        return spoil(cluster, whole[1], whole[2], lists[0])
    if call.number == 13:
        return mend(cluster, whole[1], lists[0])
    if call.number == 14:
        return edit(cluster, whole[1], lists[0])
    if call.number == 15:
        return read(cluster, lists[0])
    return look(cluster)


def answer_to(clusters, call):
    """The answer to any call; what it changes, it changes in the clusters."""
    if call.number < 8:
        return answer_of_code(call)
    which = call.whole[0]
    if call.number == 8:
        return build(clusters, which, code_from(call.whole, 1), call.lists[0])
    if which >= len(clusters):
        return [NO_SUCH]
    if clusters[which] is None:
        return [NOT_BUILT]
    return answer_of_cluster(clusters[which], call)


def answers(calls):
    """For each call in order: how many numbers are answered, then these."""
    clusters = [None, None]
    given = []
    at = 0
    while at < len(calls):
        call = call_at(calls, at)
        answer = answer_to(clusters, call)
        given.append(len(answer))
        given.extend(answer)
        at = call.end
    return given
