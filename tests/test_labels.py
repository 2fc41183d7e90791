"""Points 8, 10, 11, 13 and 14: the four functions of labels.py, label by label."""

import copy
import unittest

import literal
from literal import world_of
from waysaid.labels import all_again, all_until, some_again, some_until

UNTIL = [("some", some_until), ("all", all_until)]
AGAIN = [("some", some_again), ("all", all_again)]

SHAPES = {
    "one state": world_of([[0]]),
    "ring of two": literal.ring(2),
    "ring of three": literal.ring(3),
    "ring of forty": literal.ring(40),
    "line into a ring of one": literal.line_into_ring(5, 4),
    "line into a ring": literal.line_into_ring(7, 3),
    "line of forty into a ring": literal.line_into_ring(40, 25),
    "two rings, one leading to the other": world_of([[1], [0, 2], [3], [2]]),
    "two rings apart": world_of([[1], [0], [3], [4], [2]]),
    "several doors": world_of([[1, 2, 3], [3, 1], [0, 3], [3, 0, 2, 1]]),
    "doors not in order": world_of([[2, 0, 1], [1, 0], [1]]),
    "a state that no door leads to": world_of([[1, 2], [2], [1, 2]]),
    "a state that no door leads to, placed last": world_of([[1], [0, 1], [0]]),
    "two states that no door leads to": world_of([[2], [3, 2], [2, 3], [2]]),
    "each to each": literal.each_to_each(4),
    "each to each of forty": literal.each_to_each(40),
    "ladder of forty": literal.ladder(40),
    "down hill": literal.down_hill(6),
    "down hill of forty": literal.down_hill(40),
    "up and back": literal.up_and_back(6),
    "up and back of forty": literal.up_and_back(40),
    "beyond the bound": literal.line_into_ring(55, 30),
}


def some_truths(size):
    """All True, all False, one alone True, one alone False, every second, mixed."""
    lists = [[True] * size, [False] * size]
    for place in sorted({0, size // 2, size - 1}):
        lists.append([other == place for other in range(size)])
        lists.append([other != place for other in range(size)])
    lists.append([place % 2 == 0 for place in range(size)])
    lists.extend(literal.mixed_truths(size, seed, odds) for seed, odds in [(1, 2), (2, 2), (3, 4), (4, 8)])
    return lists


class LabelTest(unittest.TestCase):
    def assert_labels(self, function, word, who, world, own):
        before = copy.deepcopy((world, own))
        labels = function(world, *own)
        self.assertEqual((world, own), before)
        self.assertTrue(literal.are_labels(world, labels), labels)
        self.assertTrue(literal.labels_told(world, word, who, labels, own), (word, who, world, own, labels))
        return labels

    def assert_truths_by_reach(self, function, word, who, world, own):
        labels = self.assert_labels(function, word, who, world, own)
        self.assertEqual([label[0] for label in labels], literal.truths_by_reach(world, word, who, own))

    def test_until_over_shapes(self):
        for name, world in SHAPES.items():
            with self.subTest(name):
                for who, function in UNTIL:
                    for left in some_truths(len(world)):
                        for right in some_truths(len(world)):
                            self.assert_truths_by_reach(function, "until", who, world, [left, right])

    def test_again_over_shapes(self):
        for name, world in SHAPES.items():
            with self.subTest(name):
                for who, function in AGAIN:
                    for here in some_truths(len(world)):
                        self.assert_truths_by_reach(function, "again", who, world, [here])

    def test_mixed_worlds_up_to_forty_states(self):
        for seed in range(120):
            size = 4 + seed % 37
            world = literal.mixed_world(size, seed, 1 + seed % 4)
            left = literal.mixed_truths(size, seed + 1000, 2 + seed % 3)
            right = literal.mixed_truths(size, seed + 2000, 2 + seed % 5)
            for who, function in UNTIL:
                self.assert_truths_by_reach(function, "until", who, world, [literal.opposite(left), right])
            for who, function in AGAIN:
                self.assert_truths_by_reach(function, "again", who, world, [left])
                self.assert_truths_by_reach(function, "again", who, world, [literal.opposite(left)])

    def test_again_in_every_small_world(self):
        for size in [1, 2, 3]:
            for world in literal.every_world(size):
                ways = literal.all_ways(world)
                for who, function in AGAIN:
                    for here in literal.every_truths(size):
                        labels = self.assert_labels(function, "again", who, world, [here])
                        wanted = literal.truths_by_ways(ways, "again", who, [here])
                        self.assertEqual([label[0] for label in labels], wanted)

    def test_until_in_every_small_world(self):
        for size in [1, 2, 3]:
            for world in literal.every_world(size):
                ways = literal.all_ways(world)
                # In worlds of three states every third pair of truths: all pairs take long and show no more.
                pairs = [(left, right) for left in literal.every_truths(size) for right in literal.every_truths(size)]
                for left, right in pairs[::3] if size == 3 else pairs:
                    for who, function in UNTIL:
                        labels = self.assert_labels(function, "until", who, world, [left, right])
                        wanted = literal.truths_by_ways(ways, "until", who, [left, right])
                        self.assertEqual([label[0] for label in labels], wanted)

    def test_again_the_order_of_doors_is_free(self):
        for seed in range(60):
            world = literal.mixed_world(9, seed, 4)
            backwards = [(marks, doors[::-1]) for marks, doors in world]
            here = literal.mixed_truths(9, seed, 3)
            for who, function in AGAIN:
                self.assert_truths_by_reach(function, "again", who, backwards, [here])
                self.assertEqual([label[0] for label in function(world, here)],
                                 [label[0] for label in function(backwards, here)])


class LabelsThatCanOnlyBeThese(unittest.TestCase):
    """Worlds with one door from each state, in which the points leave no room."""

    def test_one_state(self):
        world = world_of([[0]])
        yes, no = [True], [False]
        for left in [yes, no]:
            self.assertEqual(some_until(world, left, yes), [(True, 0, None)])
            self.assertEqual(all_until(world, left, yes), [(True, 0, None)])
            self.assertEqual(some_until(world, left, no), [(False, None, None)])
        self.assertEqual(all_until(world, yes, no), [(False, None, 0)])
        self.assertEqual(all_until(world, no, no), [(False, None, None)])
        self.assertEqual(some_again(world, yes), [(True, 0, 0)])
        self.assertEqual(all_again(world, no), [(False, 0, 0)])

    def test_one_state_with_a_free_number(self):
        world = world_of([[0]])
        (truth, number, door), = some_again(world, [False])
        self.assertEqual((truth, door), (False, None))
        self.assertGreaterEqual(number, 0)
        (truth, number, door), = all_again(world, [True])
        self.assertEqual((truth, door), (True, None))
        self.assertGreaterEqual(number, 0)

    def test_some_until_in_a_ring(self):
        world = literal.ring(4)
        last = [False, False, False, True]
        self.assertEqual(some_until(world, [True] * 4, last), [(True, 3, 1), (True, 2, 2), (True, 1, 3), (True, 0, None)])
        self.assertEqual(some_until(world, [True, False, True, False], last),
                         [(False, None, None), (False, None, None), (True, 1, 3), (True, 0, None)])
        self.assertEqual(some_until(world, [True] * 4, [False] * 4), [(False, None, None)] * 4)
        self.assertEqual(some_until(world, [False] * 4, [True] * 4), [(True, 0, None)] * 4)

    def test_all_until_false_in_a_ring(self):
        world = literal.ring(4)
        self.assertEqual(all_until(world, [True] * 4, [False] * 4),
                         [(False, None, 1), (False, None, 2), (False, None, 3), (False, None, 0)])
        self.assertEqual(all_until(world, [True, True, False, True], [False, False, False, False]),
                         [(False, None, 1), (False, None, 2), (False, None, None), (False, None, 0)])
        self.assertEqual(all_until(world, [False] * 4, [True, False, True, False]),
                         [(True, 0, None), (False, None, None), (True, 0, None), (False, None, None)])

    def test_all_until_true_down_a_line(self):
        world = literal.line_into_ring(4, 3)
        told = all_until(world, [True, True, True, False], [False, False, False, True])
        self.assertEqual([(truth, door) for truth, number, door in told], [(True, None)] * 4)
        numbers = [number for truth, number, door in told]
        self.assertEqual(numbers[3], 0)
        self.assertTrue(numbers[0] > numbers[1] > numbers[2] > 0)

    def test_some_again_in_a_ring(self):
        self.assertEqual(some_again(literal.ring(3), [False, True, False]), [(True, 1, 1), (True, 0, 2), (True, 2, 0)])
        self.assertEqual(some_again(literal.line_into_ring(4, 2), [True, False, False, True])[1:],
                         [(True, 2, 2), (True, 1, 3), (True, 0, 2)])

    def test_some_again_false_counts_no_less_than_the_times(self):
        told = some_again(literal.line_into_ring(5, 4), [True, False, True, True, False])
        self.assertEqual([(truth, door) for truth, number, door in told], [(False, None)] * 5)
        numbers = [number for truth, number, door in told]
        self.assertTrue(numbers[0] > numbers[1] >= numbers[2] > numbers[3] > numbers[4] >= 0)

    def test_all_again_false_in_a_ring(self):
        self.assertEqual(all_again(literal.ring(3), [False] * 3), [(False, 0, 1), (False, 0, 2), (False, 0, 0)])
        told = all_again(literal.line_into_ring(4, 3), [False, False, True, False])
        self.assertEqual(told, [(False, 3, 1), (False, 2, 2), (False, 1, 3), (False, 0, 3)])

    def test_all_again_true_in_a_ring(self):
        told = all_again(literal.ring(3), [False, False, True])
        self.assertEqual([(truth, door) for truth, number, door in told], [(True, None)] * 3)
        numbers = [number for truth, number, door in told]
        self.assertTrue(numbers[0] > numbers[1] > numbers[2] >= 0)


if __name__ == "__main__":
    unittest.main()
