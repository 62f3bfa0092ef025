"""Points 6 and 7: what a tree is, and where it lays the functions."""

import itertools
import unittest

from helpers import all_trees, sized
from overlayhall.errors import BadFunction, BadTree
from overlayhall.trees import places, trees_of, wanted, way_down

FOUR = sized(3, 1, 4, 2)


def end_of(program, tree, part):
    """The cell behind a part, by the words of the document."""
    parts, stands = tree
    begin = 0 if stands[part] == -1 else end_of(program, tree, stands[part])
    return begin + sum(program[function][0] for function in parts[part])


class TreeTest(unittest.TestCase):
    def refused(self, tree, program=FOUR):
        for asked in (lambda: places(program, tree), lambda: wanted(program, tree), lambda: way_down(program, tree, 0)):
            with self.assertRaises(BadTree, msg=str(tree)):
                asked()

    def test_point_6_what_is_no_pair(self):
        parts = ((0, 1, 2, 3),)
        for tree in ((), (parts,), (parts, (-1,), ()), (parts, (-1,), (-1,)), parts, (1,), (1, 2)):
            self.refused(tree)

    def test_point_6_parts_that_are_none(self):
        self.refused((0, (-1,)))
        self.refused(((0, 1, 2, 3), (-1, -1, -1, -1)))
        self.refused((((0,), (1,), (2,), 3), (-1, -1, -1, -1)))
        self.refused((((0, 1, 2, (3,)),), (-1,)))
        self.refused(((((0, 1, 2, 3),),), (-1,)))
        self.refused(((), ()))

    def test_point_6_a_function_missing(self):
        self.refused((((0, 1, 3),), (-1,)))
        self.refused((((1, 2, 3),), (-1,)))
        self.refused((((0,), (1, 2)), (-1, -1)))

    def test_point_6_a_function_twice(self):
        self.refused((((0, 1, 2, 3), (3,)), (-1, -1)))
        self.refused((((0, 1), (1, 2, 3)), (-1, -1)))
        self.refused((((0, 1, 1, 2, 3),), (-1,)))
        self.refused((((0, 1, 2, 3), (0, 1, 2, 3)), (-1, -1)))

    def test_point_6_a_function_that_there_is_not(self):
        self.refused((((0, 1, 2, 3, 4),), (-1,)))
        self.refused((((-1, 0, 1, 2, 3),), (-1,)))
        self.refused((((0, 1, 2, 4),), (-1,)))
        self.refused((((0, 1, 2, 3), (4,)), (-1, -1)))

    def test_point_6_a_part_that_is_empty(self):
        self.refused((((0, 1, 2, 3), ()), (-1, -1)))
        self.refused((((), (0, 1, 2, 3)), (-1, -1)))

    def test_point_6_a_part_that_does_not_rise(self):
        self.refused((((0, 2, 1, 3),), (-1,)))
        self.refused((((0,), (2, 1), (3,)), (-1, -1, -1)))

    def test_point_6_parts_that_do_not_rise_by_their_first_functions(self):
        self.refused((((1,), (0,), (2, 3)), (-1, -1, -1)))
        self.refused((((2, 3), (0, 1)), (-1, -1)))
        self.assertEqual(wanted(FOUR, (((0, 3), (1, 2)), (-1, -1))), 5)

    def test_point_6_too_few_or_too_many_stands(self):
        self.refused((((0, 1), (2, 3)), ()))
        self.refused((((0, 1), (2, 3)), (-1,)))
        self.refused((((0, 1), (2, 3)), (-1, -1, -1)))

    def test_point_6_stands_that_are_none(self):
        self.refused((((0, 1), (2, 3)), -1))
        self.refused((((0, 1), (2, 3)), (-1, (0,))))

    def test_point_6_a_stand_on_a_part_that_there_is_not(self):
        self.refused((((0, 1), (2, 3)), (-1, 2)))
        self.refused((((0, 1), (2, 3)), (-1, 3)))
        self.refused((((0, 1), (2, 3)), (-2, -1)))

    def test_point_6_a_stand_on_itself(self):
        self.refused((((0, 1), (2, 3)), (0, -1)))
        self.refused((((0, 1), (2, 3)), (-1, 1)))

    def test_point_6_a_ring(self):
        self.refused((((0, 1), (2, 3)), (1, 0)))
        self.refused((((0,), (1,), (2,), (3,)), (1, 2, 0, -1)))
        self.refused((((0,), (1,), (2,), (3,)), (1, 2, 3, 0)))
        self.refused((((0,), (1,), (2,), (3,)), (1, 2, 1, -1)))

    def test_point_6_all_trees_of_three_functions_and_no_others(self):
        program = sized(1, 2, 3)
        trees = all_trees(3)
        # One part: 1; two parts: 3 times 3; three parts: 16.
        self.assertEqual(len(trees), 26)
        candidates = []
        for many in range(4):
            shapes = [part for size in range(4) for part in itertools.product(range(3), repeat=size)]
            for parts in itertools.product(shapes, repeat=many):
                if sum(map(len, parts)) == 3:
                    candidates += [(parts, stands) for stands in itertools.product(range(-1, many), repeat=many)]
        accepted = []
        for tree in candidates:
            try:
                wanted(program, tree)
                accepted.append(tree)
            except BadTree:
                pass
        self.assertEqual(sorted(accepted), sorted(trees))


    def test_point_6_the_trees_that_are_tried_are_all_trees(self):
        for functions in range(1, 6):
            trees = trees_of(functions)
            self.assertEqual(len(set(trees)), len(trees))
            self.assertEqual(sorted(trees), sorted(all_trees(functions)))


class PlacesTest(unittest.TestCase):
    def test_point_7_the_kinds_of_values(self):
        tree = (((0, 1, 2, 3),), (-1,))
        self.assertIs(places(FOUR, tree).__class__, list)
        self.assertIs(wanted(FOUR, tree).__class__, int)
        self.assertIs(way_down(FOUR, tree, 0).__class__, list)

    def test_point_7_one_function(self):
        tree = (((0,),), (-1,))
        self.assertEqual(places(sized(8), tree), [0])
        self.assertEqual(wanted(sized(8), tree), 8)
        self.assertEqual(way_down(sized(8), tree, 0), [0])

    def test_point_7_all_functions_in_one_part(self):
        tree = (((0, 1, 2, 3),), (-1,))
        self.assertEqual(places(FOUR, tree), [0, 3, 4, 8])
        self.assertEqual(wanted(FOUR, tree), 10)
        self.assertEqual([way_down(FOUR, tree, function) for function in range(4)], [[0]] * 4)

    def test_point_7_each_function_in_its_own(self):
        tree = (((0,), (1,), (2,), (3,)), (-1, -1, -1, -1))
        self.assertEqual(places(FOUR, tree), [0, 0, 0, 0])
        self.assertEqual(wanted(FOUR, tree), 4)
        self.assertEqual([way_down(FOUR, tree, function) for function in range(4)], [[0], [1], [2], [3]])

    def test_point_7_a_chain(self):
        tree = (((0,), (1,), (2,), (3,)), (-1, 0, 1, 2))
        self.assertEqual(places(FOUR, tree), [0, 3, 4, 8])
        self.assertEqual(wanted(FOUR, tree), 10)
        self.assertEqual(way_down(FOUR, tree, 3), [0, 1, 2, 3])
        self.assertEqual(way_down(FOUR, tree, 1), [0, 1])

    def test_point_7_a_chain_the_other_way(self):
        tree = (((0,), (1,), (2,), (3,)), (1, 2, 3, -1))
        self.assertEqual(places(FOUR, tree), [7, 6, 2, 0])
        self.assertEqual(wanted(FOUR, tree), 10)
        self.assertEqual(way_down(FOUR, tree, 0), [3, 2, 1, 0])
        self.assertEqual(way_down(FOUR, tree, 3), [3])

    def test_point_7_several_parts_on_one(self):
        tree = (((0,), (1, 3), (2,)), (-1, 0, 0))
        self.assertEqual(places(FOUR, tree), [0, 3, 3, 4])
        self.assertEqual(wanted(FOUR, tree), 7)
        self.assertEqual([way_down(FOUR, tree, function) for function in range(4)], [[0], [0, 1], [0, 2], [0, 1]])

    def test_point_7_the_farthest_end_may_be_that_of_any_part(self):
        program = sized(1, 8, 1)
        self.assertEqual(wanted(program, (((0,), (1,), (2,)), (-1, -1, 0))), 8)
        self.assertEqual(wanted(program, (((0,), (1,), (2,)), (-1, 0, -1))), 9)

    def test_point_7_every_tree_of_four_functions(self):
        for tree in all_trees(4):
            parts, stands = tree
            firsts = places(FOUR, tree)
            for number, part in enumerate(parts):
                cell = 0 if stands[number] == -1 else end_of(FOUR, tree, stands[number])
                down = [number]
                while stands[down[0]] != -1:
                    down.insert(0, stands[down[0]])
                for function in part:
                    self.assertEqual(firsts[function], cell, tree)
                    self.assertEqual(way_down(FOUR, tree, function), down, tree)
                    cell += FOUR[function][0]
            self.assertEqual(wanted(FOUR, tree), max(end_of(FOUR, tree, part) for part in range(len(parts))), tree)

    def test_point_7_a_function_that_there_is_not(self):
        tree = (((0, 1, 2, 3),), (-1,))
        for function in (-1, 4, 8, 100):
            with self.assertRaises(BadFunction):
                way_down(FOUR, tree, function)


if __name__ == "__main__":
    unittest.main()
