"""Rows that go together and rows that don't, held against elimination over all the document's rows."""

import unittest
from random import Random

from tests.reference import AGAIN, AGREE, BUILD, CHANGE, JUDGE, PART, STORE, TELL, WRONG, asked, expected, held_rows
from tests.reference import stored


def some_code(chance):
    d = chance.randint(1, 6)
    return [chance.randint(1, d), d, chance.randint(d + 1, 9), chance.choice((1, 1, 2, 3))]


def some_bytes(chance, count):
    return [chance.randrange(256) for _ in range(count)]


def some_set(chance, n):
    return sorted(chance.sample(range(n), chance.randint(0, n)))


def spoilt(chance, numbers, times):
    numbers = list(numbers)
    for _ in range(times if numbers else 0):
        numbers[chance.randrange(len(numbers))] ^= chance.randrange(1, 256)
    return numbers


def bent(chance, number, whole, lists):
    """The same call with one thing of it other, so that refusals come, two at once too."""
    whole, lists = list(whole), [list(one) for one in lists]
    for _ in range(chance.choice((0, 0, 0, 1, 1, 2))):
        if lists and chance.random() < 0.6:
            one = chance.choice(lists)
            if one and chance.random() < 0.5:
                one.pop(chance.randrange(len(one)))
            else:
                one.insert(chance.randint(0, len(one)), chance.randrange(10))
        else:
            at = chance.randrange(len(whole))
            whole[at] = chance.choice((0, 1, whole[at] + 1, max(whole[at] - 1, 0), 9, 10, 4294967295))
    return number, whole, lists


def some_call(chance):
    code = some_code(chance)
    k, d, n, size = code
    number = chance.randrange(9)
    document = some_bytes(chance, held_rows(code) * size)
    rows = [stored(tuple(code), node, document) for node in range(n)]
    nodes = some_set(chance, n)
    node, other = chance.randrange(n), chance.randrange(n)
    times = chance.choice((0, 0, 1, 1, 2, 3))
    held = spoilt(chance, [byte for one in nodes for byte in rows[one]], times)
    if number == AGAIN and chance.random() < 0.8:
        nodes = [one for one in nodes if one != node]
    parts = [byte for one in nodes for byte in expected(PART, code + [node], rows[one])[1:]]
    return number, *{
        JUDGE: (code, []),
        STORE: (code + [node], [document]),
        TELL: (code, [nodes, held]),
        PART: (code + [node], [some_bytes(chance, d * size)]),
        AGAIN: (code + [node], [nodes, spoilt(chance, parts, times)]),
        AGREE: (code + [node, other], [rows[node], spoilt(chance, rows[other], times)]),
        CHANGE: (code + [node, chance.randint(0, held_rows(code))], [rows[node], some_bytes(chance, size)]),
        WRONG: (code, [nodes, held]),
        BUILD: ([chance.randrange(3)] + code, [document]),
    }[number]


class Together(unittest.TestCase):
    def test_calls_of_every_sort(self):
        chance = Random("calls of every sort")
        seen = {}
        for _ in range(6000):
            number, whole, lists = bent(chance, *some_call(chance))
            due = expected(number, whole, *lists)
            self.assertEqual(asked(number, whole, *lists), due, (number, whole, lists))
            seen[number, min(due[0], 1)] = True
        due_at_all = {
            JUDGE: (0, -1), STORE: (1, -1, -5), TELL: (1, -1, -5, -9), PART: (1, -1, -5), AGAIN: (1, -1, -4, -5, -9),
            AGREE: (1, 0, -1, -5), CHANGE: (0, -1, -4, -5), WRONG: (0, 1, -1, -5, -9), BUILD: (0, -1, -5),
        }
        self.assertEqual(set(seen), {(number, first) for number, firsts in due_at_all.items() for first in firsts})

    def test_spoilt_nodes(self):
        chance = Random("spoilt nodes")
        for _ in range(1500):
            code = some_code(chance)
            k, d, n, size = code
            nodes = sorted(chance.sample(range(n), chance.randint(min(k + 2, n), n)))
            document = some_bytes(chance, held_rows(code) * size)
            rows = [byte for node in nodes for byte in stored(tuple(code), node, document)]
            rows = spoilt(chance, rows, chance.randint(0, 3))
            for number in (TELL, WRONG):
                self.assertEqual(asked(number, code, nodes, rows), expected(number, code, nodes, rows), code)

    def test_one_node_of_k_1_goes_together_whatever_it_has(self):
        for rows in ([0, 0, 0], [1, 2, 3], [255, 0, 7]):
            self.assertEqual(asked(TELL, [1, 3, 4, 1], [2], rows)[0], 3)

    def test_k_nodes_that_no_document_has(self):
        # Two nodes have 4 rows, a document 3: whatever doesn't agree has no document.
        code = [2, 2, 3, 1]
        for rows, first in (([1, 1, 3, 0], 3), ([1, 1, 3, 1], -9), ([0, 0, 0, 0], 3), ([0, 0, 0, 1], -9)):
            answer = asked(TELL, code, [0, 1], rows)
            self.assertEqual(answer, expected(TELL, code, [0, 1], rows))
            self.assertEqual(answer[0], first)

    def test_rows_of_two_documents(self):
        code = [2, 4, 6, 2]
        one, other = [3] * 14, list(range(14))
        mixed = [stored(tuple(code), node, one if node < 3 else other) for node in range(6)]
        for nodes in ([0, 1, 2, 3, 4, 5], [0, 1, 3, 4]):
            rows = [byte for node in nodes for byte in mixed[node]]
            self.assertEqual(asked(TELL, code, nodes, rows), [-9])
            self.assertEqual(asked(WRONG, code, nodes, rows), [-9])
        rows = [byte for node in (0, 1, 2, 3) for byte in mixed[node]]
        self.assertEqual(asked(WRONG, code, [0, 1, 2, 3], rows), [1, 3])


if __name__ == "__main__":
    unittest.main()
