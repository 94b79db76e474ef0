"""Section 5 of DOC.md, 1 to 5, over clusters: every code with rows of one byte, and the largest codes there are."""

import unittest
from itertools import combinations
from random import Random

from tests.reference import AGREE, BUILD, EDIT, LOOK, LOSE, MEND, NODE, READ, SPOIL, STATE, asked, asked_all, held_rows
from tests.reference import joined, stored, told
from tests.test_spread import EVERY_CODE, sets

LARGEST = [(1, 1, 9, 64), (1, 6, 9, 64), (3, 6, 9, 64), (5, 6, 9, 64), (6, 6, 9, 64), (6, 6, 7, 64), (4, 6, 8, 64)]
ALL_CODES = EVERY_CODE + LARGEST


def some_bytes(chance, count):
    return [chance.randrange(256) for _ in range(count)]


def difference(chance, size):
    """Bytes for a change, of which at least one is not 0, and now and then just one."""
    e = [0] * size if chance.random() < 0.5 else some_bytes(chance, size)
    e[chance.randrange(size)] = chance.randrange(1, 256)
    return e


class Held:
    """A cluster's code, its document as edited, and calls on object `which` that keep to both."""

    def __init__(self, code, which=0):
        self.code, self.which = code, which
        self.k, self.d, self.n, self.size = code
        self.chance = Random(str(code))
        self.document = some_bytes(self.chance, held_rows(code) * self.size)
        self.build = (BUILD, [which, *code], list(self.document))

    def edit(self):
        """A call that changes a row; the document is changed along with it."""
        i, e = self.chance.randrange(held_rows(self.code)), difference(self.chance, self.size)
        for at in range(self.size):
            self.document[i * self.size + at] ^= e[at]
        return EDIT, [self.which, i], e

    def spoil(self, node):
        return SPOIL, [self.which, node, self.chance.randrange(self.d)], difference(self.chance, self.size)

    def mend(self, node, without=(), count=None):
        others = [other for other in range(self.n) if other != node and other not in without]
        nodes = sorted(self.chance.sample(others, count or self.chance.randint(self.d, len(others))))
        return MEND, [self.which, node], nodes

    def node(self, node):
        return NODE, [self.which, node]

    def nodes(self):
        return [self.node(node) for node in range(self.n)]

    def rows(self, node):
        return [0] + stored(self.code, node, self.document)

    def all_rows(self):
        return [self.rows(node) for node in range(self.n)]

    def told(self):
        return [held_rows(self.code)] + self.document


class Promises(unittest.TestCase):
    def hold(self, code, pairs):
        """Each call is answered as stands beside it."""
        given = asked_all([call for call, _ in pairs])
        for at, ((call, due), answer) in enumerate(zip(pairs, given)):
            self.assertEqual(answer, due, (code, at, call))


class Told(Promises):
    def test_by_every_k_and_by_all(self):
        for code in ALL_CODES:
            held = Held(code)
            every = [((READ, [0], nodes), held.told()) for nodes in sets(range(held.n), held.k, held.n)]
            self.hold(code, [(held.build, [0])] + every)

    def test_by_every_k_and_more_that_are_left(self):
        for code in ALL_CODES[::5] + LARGEST:
            held = Held(code)
            gone = held.chance.sample(range(held.n), held.n - min(held.k + 2, held.n))
            left = sorted(set(range(held.n)) - set(gone))
            every = [((READ, [0], nodes), held.told()) for nodes in sets(left, *range(held.k, len(left) + 1))]
            self.hold(code, [(held.build, [0])] + [((LOSE, [0, f]), [0]) for f in gone] + every)


class MadeAgain(Promises):
    def test_every_node_by_every_d_others_and_by_all_others(self):
        for code in ALL_CODES:
            held = Held(code)
            for f in range(held.n):
                others = [other for other in range(held.n) if other != f]
                pairs = [(held.build, [0])]
                for nodes in sets(others, held.d, held.n - 1)[:: 1 if held.size == 1 else 5]:
                    pairs += [((LOSE, [0, f]), [0]), ((MEND, [0, f], nodes), [0]), (held.node(f), held.rows(f))]
                self.hold(code, pairs)

    def test_all_but_d_lost_and_made_again_one_by_one(self):
        for code in ALL_CODES:
            held = Held(code)
            gone = held.chance.sample(range(held.n), held.n - held.d)
            left = sorted(set(range(held.n)) - set(gone))
            pairs = [(held.build, [0])] + [((LOSE, [0, f]), [0]) for f in gone]
            pairs += [((MEND, [0, f], left), [0]) for f in gone]
            self.hold(code, pairs + list(zip(held.nodes(), held.all_rows())))


class Together(Promises):
    def test_read_just_if_some_document_has_the_rows(self):
        for code in ALL_CODES:
            held = Held(code)
            rows = {f: held.rows(f)[1:] for f in range(held.n)}
            spoils = [held.spoil(f) for f in held.chance.sample(range(held.n), min(2, held.n - 1))]
            for _, (_, f, j), e in spoils:
                for at in range(held.size):
                    rows[f][j * held.size + at] ^= e[at]
            pairs = [(held.build, [0])] + [(call, [0]) for call in spoils]
            for nodes in sets(range(held.n), held.k, min(held.k + 1, held.n), held.n)[::7]:
                document = told(code, nodes, joined(rows[f] for f in nodes))
                pairs.append(((READ, [0], nodes), [-9] if document is None else [held_rows(code)] + document))
            self.hold(code, pairs)

    def test_every_rows_of_one_byte(self):
        # k 1, d 1: every node has the document itself, so nodes go together just if they are alike.
        for e in range(256):
            pairs = [((BUILD, [0, 1, 1, 3, 1], [85]), [0]), ((SPOIL, [0, 1, 0], [e]), [0])]
            pairs += [((READ, [0], [1]), [1, 85 ^ e]), ((READ, [0], [0, 2]), [1, 85])]
            pairs += [((READ, [0], [0, 1]), [-9] if e else [1, 85]), ((LOOK, [0]), [1, 1] if e else [0])]
            self.hold((1, 1, 3, 1), pairs)

    def test_all_nodes_spoilt_as_another_document_asks_go_together(self):
        for code in ((2, 3, 5, 1), (1, 6, 9, 64), (6, 6, 9, 64)):
            held = Held(code)
            before = [rows[1:] for rows in held.all_rows()]
            pairs = [(held.build, [0])]
            held.document = some_bytes(held.chance, len(held.document))
            for f in range(held.n):
                for j in range(held.d):
                    part = slice(j * held.size, (j + 1) * held.size)
                    e = [a ^ b for a, b in zip(before[f][part], held.rows(f)[1:][part])]
                    pairs.append(((SPOIL, [0, f, j], e), [0]))
            self.hold(code, pairs + [((LOOK, [0]), [0]), ((READ, [0], list(range(held.n))), held.told())])


class AgreedAndChanged(Promises):
    def test_edited_nodes_are_those_of_the_changed_document(self):
        for code in ALL_CODES:
            held = Held(code)
            pairs = [(held.build, [0])]
            for _ in range(4):
                pairs.append((held.edit(), [0]))
                pairs += zip(held.nodes(), held.all_rows())
            self.hold(code, pairs)

    def test_every_row_of_the_document(self):
        for code in ALL_CODES[::9] + LARGEST[:5]:
            held = Held(code)
            size = held.size
            for i in range(held_rows(code)):
                e = difference(held.chance, size)
                document = list(held.document)
                document[i * size:(i + 1) * size] = [a ^ b for a, b in zip(document[i * size:], e)]
                due = [[0] + stored(code, f, document) for f in range(held.n)]
                self.hold(code, [(held.build, [0]), ((EDIT, [0, i], e), [0])] + list(zip(held.nodes(), due)))

    def test_edited_nodes_agree(self):
        for code in ALL_CODES:
            held = Held(code)
            given = asked_all([held.build] + [held.edit() for _ in range(3)] + held.nodes())
            rows = [answer[1:] for answer in given[-held.n:]]
            for i, j in combinations(range(held.n), 2):
                self.assertEqual(asked(AGREE, [*code, i, j], rows[i], rows[j]), [1], (code, i, j))


class WrongOne(Promises):
    def test_each_row_of_each_node_spoilt_alone(self):
        for code in ALL_CODES:
            held = Held(code)
            if held.n < held.k + 2:
                continue
            for f in range(held.n):
                pairs = [(held.build, [0])]
                for j in range(held.d) if held.size == 1 else (0, held.d - 1):
                    e = difference(held.chance, held.size)
                    pairs += [((SPOIL, [0, f, j], e), [0]), ((LOOK, [0]), [1, f])]
                    pairs += [((SPOIL, [0, f, j], e), [0]), ((LOOK, [0]), [0])]
                self.hold(code, pairs)

    def test_among_k_and_two_that_are_left(self):
        for code in ALL_CODES:
            held = Held(code)
            if held.n < held.k + 2:
                continue
            left = sorted(held.chance.sample(range(held.n), held.k + 2))
            pairs = [(held.build, [0])] + [((LOSE, [0, f]), [0]) for f in range(held.n) if f not in left]
            for f in left[:: 1 if held.size == 1 else 3]:
                call = held.spoil(f)
                pairs += [(call, [0]), ((LOOK, [0]), [1, f]), (call, [0])]
            self.hold(code, pairs + [((LOOK, [0]), [0]), ((LOSE, [0, left[0]]), [0]), ((LOOK, [0]), [-5])])

    def test_spoilt_in_all_its_rows(self):
        for code in ALL_CODES:
            held = Held(code)
            if held.n < held.k + 2:
                continue
            f = held.chance.randrange(held.n)
            spoils = [(SPOIL, [0, f, j], difference(held.chance, held.size)) for j in range(held.d)]
            self.hold(code, [(held.build, [0])] + [(call, [0]) for call in spoils] + [((LOOK, [0]), [1, f])])


class ClusterHoldsItsDocument(Promises):
    def lost_edited_mended(self, held):
        """A node is lost, the others edited, the node mended from some of them; all is as the document now asks."""
        f, which = held.chance.randrange(held.n), held.which
        left = [other for other in range(held.n) if other != f]
        pairs = [((LOSE, [which, f]), [0]), (held.edit(), [0]), ((STATE, [which]), [0, *held.code, *left])]
        pairs += [(held.node(f), [-4]), (held.mend(f), [0]), (held.node(f), held.rows(f))]
        nodes = sorted(held.chance.sample(range(held.n), held.k))
        return pairs + [((READ, [which], nodes), held.told())]

    def spoilt_told_mended(self, held):
        """A node is spoilt, edited as it is, told by look where enough are there, and mended from others."""
        f, which = held.chance.randrange(held.n), held.which
        enough = held.n >= held.k + 2
        pairs = [(held.spoil(f), [0]), (held.edit(), [0]), ((LOOK, [which]), [1, f] if enough else [-5])]
        others = [other for other in range(held.n) if other != f]
        pairs += [((READ, [which], sorted(held.chance.sample(others, held.k))), held.told())]
        pairs += [(held.mend(f, count=held.d), [0]), ((LOOK, [which]), [0] if enough else [-5])]
        return pairs + [((READ, [which], list(range(held.n))), held.told())]

    def test_round_by_round(self):
        for code in ALL_CODES:
            held = Held(code)
            pairs = [(held.build, [0])]
            for _ in range(3):
                pairs += self.lost_edited_mended(held)
                pairs += self.spoilt_told_mended(held)
            self.hold(code, pairs + list(zip(held.nodes(), held.all_rows())))

    def test_round_by_round_in_both_objects_in_turn(self):
        for codes in zip(ALL_CODES[::6], LARGEST + ALL_CODES[::-7]):
            both = [Held(code, which) for which, code in enumerate(codes)]
            pairs = [(held.build, [0]) for held in both]
            for _ in range(2):
                for held in both:
                    pairs += self.lost_edited_mended(held)
                for held in both:
                    pairs += self.spoilt_told_mended(held)
            for held in both:
                pairs += zip(held.nodes(), held.all_rows())
            self.hold(codes, pairs)

    def test_as_many_lost_as_may_be_while_it_is_edited(self):
        for code in ALL_CODES:
            held = Held(code)
            gone = held.chance.sample(range(held.n), held.n - held.d)
            pairs = [(held.build, [0]), (held.edit(), [0])]
            for f in gone:
                pairs += [((LOSE, [0, f]), [0]), (held.edit(), [0])]
            for at, f in enumerate(gone):
                pairs += [(held.mend(f, without=gone[at + 1:]), [0]), (held.edit(), [0])]
            self.hold(code, pairs + list(zip(held.nodes(), held.all_rows())))

    def test_spoilt_ones_do_not_spoil_what_is_mended_from_others(self):
        for code in ALL_CODES:
            held = Held(code)
            count = held.n - held.d
            bad = held.chance.sample(range(held.n), count)
            pairs = [(held.build, [0])] + [(held.spoil(f), [0]) for f in bad] + [(held.edit(), [0])]
            pairs += [(held.mend(f, without=bad[at + 1:]), [0]) for at, f in enumerate(bad)]
            self.hold(code, pairs + list(zip(held.nodes(), held.all_rows())))


if __name__ == "__main__":
    unittest.main()
