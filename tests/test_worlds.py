import copy
import unittest

from waysaid.errors import NoDoor, NoState
from waysaid.worlds import check_world, doors_of, is_state, marks_of

# Python refuses to write this one as a text: a refusal must not try to.
FAR = 10 ** 5000


def ring(size):
    return [([], [(place + 1) % size]) for place in range(size)]


class Worlds(unittest.TestCase):
    def assert_taken(self, world):
        before = copy.deepcopy(world)
        self.assertIsNone(check_world(world))
        self.assertEqual(world, before)

    def assert_refused(self, refusal, world):
        before = copy.deepcopy(world)
        with self.assertRaises(refusal) as caught:
            check_world(world)
        self.assertIs(type(caught.exception), refusal)
        self.assertTrue(world == before)

    def test_one_state_with_a_door_to_itself(self):
        self.assert_taken([([], [0])])
        self.assert_taken([([4, -4, 0], [0])])

    def test_sound_worlds(self):
        self.assert_taken([([1], [1]), ([], [0, 1])])
        self.assert_taken([([1], [2]), ([2], [1]), ([3], [0, 2, 1])])
        self.assert_taken([([FAR, -FAR], [0])])

    def test_at_the_bound_and_beyond_it(self):
        for size in [40, 41, 100]:
            self.assert_taken(ring(size))
            self.assert_taken([([], list(range(size)))] * size)

    def test_state_without_doors(self):
        self.assert_refused(NoDoor, [([], [])])
        self.assert_refused(NoDoor, [([3], [])])
        for size in [2, 3, 40]:
            for place in range(size):
                world = ring(size)
                world[place] = ([1], [])
                self.assert_refused(NoDoor, world)

    def test_no_state_with_doors(self):
        self.assert_refused(NoDoor, [([], []), ([], []), ([], [])])

    def test_door_to_no_state(self):
        for size in [1, 2, 3, 40]:
            for door in [-1, -size, -size - 1, -FAR, size, size + 1, 1000, FAR]:
                for place in range(size):
                    world = ring(size)
                    world[place] = ([], [door])
                    self.assert_refused(NoState, world)

    def test_door_to_no_state_among_others(self):
        for door in [-1, 2, FAR]:
            for doors in [[door, 0, 1], [0, door, 1], [0, 1, door], [door, -7], [7, 0, door]]:
                self.assert_refused(NoState, [([], doors), ([], [0])])
                self.assert_refused(NoState, [([], [1]), ([], doors)])

    def test_both_faults(self):
        for door in [-1, 3, 1000, FAR]:
            self.assert_refused(NoDoor, [([], []), ([], [door])])
            self.assert_refused(NoDoor, [([], [door]), ([], [])])
            self.assert_refused(NoDoor, [([], [0, door]), ([], [1]), ([], [])])
            self.assert_refused(NoDoor, [([], []), ([], [1]), ([], [0, door])])
            self.assert_refused(NoDoor, [([], [door]), ([], []), ([], [door])])

    def test_marks_are_no_doors(self):
        self.assert_refused(NoDoor, [([0], [])])
        self.assert_taken([([], [1]), ([5], [0])])

    def test_doors_of(self):
        world = [([1, 2], [1]), ([3], [1, 0])]
        self.assertEqual(doors_of(world, 0), [1])
        self.assertEqual(doors_of(world, 1), [1, 0])

    def test_marks_of(self):
        world = [([1, 2], [1]), ([3], [1, 0])]
        self.assertEqual(marks_of(world, 0), [1, 2])
        self.assertEqual(marks_of(world, 1), [3])

    def test_is_state(self):
        world = ring(3)
        told = [is_state(world, number) for number in [-FAR, -3, -1, 0, 1, 2, 3, FAR]]
        self.assertEqual(told, [False, False, False, True, True, True, False, False])


if __name__ == "__main__":
    unittest.main()
