"""Whole lists of calls of every sort, refused ones among them, held against the model of DOC.md's words."""

import unittest
from random import Random

from spreadnodes.clusters import answers
from tests.model import Model
from tests.reference import BUILD, EDIT, LOOK, LOSE, MEND, NODE, READ, SPOIL, STATE, asked_all, held_rows, listed, parted
from tests.test_together import bent, some_bytes, some_call, some_code, some_set

LARGEST = ([6, 6, 9, 64], [1, 6, 9, 64], [4, 6, 9, 64])
WEIGHTS = {BUILD: 1, STATE: 2, NODE: 3, LOSE: 4, SPOIL: 3, MEND: 8, EDIT: 4, READ: 6, LOOK: 5, None: 1}


def some_build(chance, which, code):
    return BUILD, [which, *code], [some_bytes(chance, held_rows(code) * code[3])]


def left_of(model, which):
    """The code of what was built, and its nodes that aren't lost."""
    code, rows = model.built.get(which, ((2, 3, 5, 1), {}))
    return code, sorted(rows)


def set_for(chance, code, left, node, fewest):
    """A set of nodes: mostly such as will be let."""
    fit = [one for one in left if one != node]
    if len(fit) >= fewest and chance.random() < 0.8:
        return sorted(chance.sample(fit, chance.randint(fewest, len(fit))))
    return some_set(chance, code[2])


def some_cluster_call(chance, model):
    """A call of any sort, with no care for whether the objects let it."""
    number = chance.choices(list(WEIGHTS), list(WEIGHTS.values()))[0]
    if number is None:
        return some_call(chance)
    which = chance.randrange(2)
    code, left = left_of(model, which)
    k, d, n, size = code
    f = chance.randrange(n)
    e = some_bytes(chance, size)
    if number == BUILD:
        return some_build(chance, which, some_code(chance))
    return number, *{
        STATE: ([which], []),
        NODE: ([which, f], []),
        LOSE: ([which, f], []),
        SPOIL: ([which, f, chance.randrange(d)], [e]),
        MEND: ([which, f], [set_for(chance, code, left, f, d)]),
        EDIT: ([which, chance.randrange(held_rows(code))], [e]),
        READ: ([which], [set_for(chance, code, left, None, k)]),
        LOOK: ([which], []),
    }[number]


def some_list(chance, builds, count):
    """Calls, each with the answer that the model gives."""
    model = Model()
    pairs = []
    for at in range(count):
        number, whole, lists = builds[at] if at < len(builds) else some_cluster_call(chance, model)
        if at >= len(builds) and chance.random() < 0.4:
            number, whole, lists = bent(chance, number, whole, lists)
        call = number, whole, *lists
        pairs.append((call, model.answer(*call)))
    return pairs


class Lists(unittest.TestCase):
    def hold(self, pairs):
        given = asked_all([call for call, _ in pairs])
        for at, ((call, due), answer) in enumerate(zip(pairs, given)):
            self.assertEqual(answer, due, (at, [call for call, _ in pairs[:at + 1]]))

    def test_lists_of_every_sort(self):
        chance = Random("lists of every sort")
        seen = {}
        for turn in range(250):
            builds = [some_build(chance, which, some_code(chance)) for which in range(turn % 3)]
            pairs = some_list(chance, builds, 60)
            self.hold(pairs)
            for call, due in pairs:
                seen[call[0], min(due[0], 1)] = True
        due_at_all = {
            STATE: (0, -1, -3), NODE: (0, -1, -3, -4), LOSE: (0, -1, -3, -4), SPOIL: (0, -1, -3, -4, -5),
            MEND: (0, -1, -3, -4, -5, -9), EDIT: (0, -1, -3, -4, -5), READ: (1, -1, -3, -4, -5, -9),
            LOOK: (0, 1, -1, -3, -5, -9),
        }
        found = {(number, first) for number, first in seen if number > BUILD}
        self.assertEqual(found, {(number, first) for number, firsts in due_at_all.items() for first in firsts})

    def test_largest_codes(self):
        chance = Random("largest codes")
        for turn in range(9):
            builds = [some_build(chance, which, LARGEST[(turn + which) % 3]) for which in range(2)]
            self.hold(some_list(chance, builds, 40))

    def test_handed_in_stays_and_a_second_time_answers_as_the_first(self):
        chance = Random("a second time")
        lists = []
        for _ in range(30):
            builds = [some_build(chance, which, some_code(chance)) for which in range(2)]
            pairs = some_list(chance, builds, 50)
            lists.append(([number for call, _ in pairs for number in listed(*call)], [due for _, due in pairs]))
        for calls, due in lists + lists[::-1]:
            before = list(calls)
            given = answers(calls)
            self.assertEqual(calls, before)
            self.assertEqual(parted(given), due)
            given.clear()
            self.assertEqual(parted(answers(calls)), due)

    def test_as_many_calls_as_are_let(self):
        code = [6, 6, 9, 64]
        number, whole, lists = some_build(Random("most"), 0, code)
        calls = [(number, whole, *lists)] + [(EDIT, [0, at % 21], [at % 256] * 64) for at in range(149)]
        calls += [(LOSE, [0, 3]), (MEND, [0, 3], [0, 1, 2, 4, 5, 6, 7, 8])] * 74 + [(SPOIL, [0, 8, 5], [1] * 64), (LOOK, [0])]
        given = asked_all(calls)
        self.assertEqual(given, [[0]] * 299 + [[1, 8]])


if __name__ == "__main__":
    unittest.main()
