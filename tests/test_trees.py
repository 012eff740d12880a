"""[10] to [12] and laidforall/trees.py."""

import unittest

import oracles
import samples
from laidforall.errors import LaidError, NoPlace
from laidforall.trees import (
    all_places, all_texts, elder_of, node_at, with_mark, with_node,
)

TREE = ("doc", "", (
    ("par", "big", ("a ", ("em", "", ("b",)), "c", ("note", "x", ()))),
    ("par", "", ()),
    ("head", "", ("d",)),
))

ALONE = ("doc", "", ())


class WalksTest(unittest.TestCase):
    def test_places_in_reading_order(self):
        self.assertEqual(list(all_places(TREE)), [(), (0,), (0, 1), (0, 3), (1,), (2,)])
        self.assertEqual(list(all_places(ALONE)), [()])

    def test_texts_in_reading_order(self):
        self.assertEqual(
            list(all_texts(TREE)),
            [((0, 0), "a "), ((0, 1, 0), "b"), ((0, 2), "c"), ((2, 0), "d")],
        )
        self.assertEqual(list(all_texts(ALONE)), [])

    def test_random_trees(self):
        for seed in range(60):
            tree = samples.tree(samples.chance(seed), 30)
            pairs = oracles.nodes_of(tree)
            places = list(all_places(tree))
            texts = list(all_texts(tree))
            self.assertEqual(places, [at for at, node in pairs if not isinstance(node, str)])
            self.assertEqual(texts, [pair for pair in pairs if isinstance(pair[1], str)])
            self.assertEqual(places, sorted(set(places)))

    def test_two_walks_side_by_side(self):
        other = ("x", "", (("y", "", ("t",)), "u", ("z", "", ())))
        first = all_places(TREE)
        second = all_places(other)
        again = all_places(TREE)
        self.assertEqual(
            [(next(first), next(second), next(again)) for _ in range(3)],
            [((), (), ()), ((0,), (0,), (0,)), ((0, 1), (2,), (0, 1))],
        )
        self.assertEqual(list(second), [])
        self.assertEqual(list(first), [(0, 3), (1,), (2,)])
        self.assertEqual(
            list(zip(all_texts(TREE), all_texts(other))),
            [(((0, 0), "a "), ((0, 0), "t")), (((0, 1, 0), "b"), ((1,), "u"))],
        )

    def test_a_walk_is_a_generator(self):
        for walk in (all_places(TREE), all_texts(TREE)):
            self.assertIs(iter(walk), walk)


class NodesTest(unittest.TestCase):
    def assert_no_place(self, place, action, *told):
        with self.assertRaises(NoPlace) as caught:
            action(*told)
        self.assertEqual(caught.exception.place, place)
        self.assertIsInstance(caught.exception, LaidError)

    def test_node_at(self):
        for place, node in oracles.nodes_of(TREE):
            self.assertEqual(node_at(TREE, place), node)

    def test_no_node(self):
        for place in ((3,), (0, 4), (1, 0), (0, 0, 0), (0, 1, 0, 0), (0, 0, 0, 5), (3, 0), (-1,)):
            self.assert_no_place(place, node_at, TREE, place)
            self.assert_no_place(place, elder_of, TREE, place)
            self.assert_no_place(place, with_mark, TREE, place, "m")
            self.assert_no_place(place, with_node, TREE, place, ("a", "", ()))
        self.assert_no_place((0,), node_at, ALONE, (0,))

    def test_a_text_is_no_element(self):
        for place, _ in all_texts(TREE):
            self.assert_no_place(place, elder_of, TREE, place)
            self.assert_no_place(place, with_mark, TREE, place, "m")

    def test_elder(self):
        told = {place: elder_of(TREE, place) for place in all_places(TREE)}
        self.assertEqual(told, {
            (): None, (0,): None, (0, 1): None, (0, 3): (0, 1), (1,): (0,), (2,): (1,),
        })

    def test_elder_of_random_trees(self):
        for seed in range(40):
            tree = samples.small_tree(samples.chance(seed), 7, ["a", "b"], [""])
            for place in all_places(tree):
                self.assertEqual(elder_of(tree, place), oracles.elder_place(tree, place))

    def test_with_mark(self):
        self.assertEqual(with_mark(ALONE, (), "m"), ("doc", "m", ()))
        changed = with_mark(TREE, (0, 3), "")
        self.assertEqual(node_at(changed, (0, 3)), ("note", "", ()))
        self.assertEqual(with_mark(changed, (0, 3), "x"), TREE)
        self.assertEqual(node_at(with_mark(TREE, (0,), "z"), (0,))[2], TREE[2][0][2])

    def test_with_node(self):
        node = ("sec", "m", ("t", ("em", "", ())))
        for place, old in oracles.nodes_of(TREE):
            changed = with_node(TREE, place, node)
            self.assertEqual(node_at(changed, place), node)
            self.assertEqual(with_node(changed, place, old), TREE)
        self.assertEqual(with_node(TREE, (), ALONE), ALONE)
        self.assertEqual(with_node(("a", "", ("t",)), (0,), "u"), ("a", "", ("u",)))


if __name__ == "__main__":
    unittest.main()
