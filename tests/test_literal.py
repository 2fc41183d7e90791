"""The measure itself: truths in great worlds are reckoned another way, which must agree with going through all ways."""

import unittest

import literal


class Measure(unittest.TestCase):
    def test_truths_by_reach_are_those_by_ways(self):
        for size in [1, 2]:
            for world, ways, first, second in literal.small_cases(size):
                for form in literal.forms_about_ways(first, second):
                    self.assert_agree(world, ways, form)

    def test_worlds_of_three_and_four_states(self):
        for seed in range(150):
            size = 3 + seed % 2
            world = literal.mixed_world(size, seed, 3)
            ways = literal.all_ways(world)
            first, second = literal.mixed_truths(size, seed), literal.mixed_truths(size, seed + 500, 3)
            for form in literal.forms_about_ways(first, second):
                self.assert_agree(world, ways, form)

    def assert_agree(self, world, ways, form):
        word, who, own = form[0], form[1], list(form[2:])
        by_ways = literal.truths_by_ways(ways, word, who, own)
        self.assertEqual(literal.truths_by_reach(world, word, who, own), by_ways, (world, form))

    def test_longer_rows_tell_no_other_truths(self):
        for seed in range(25):
            world = literal.mixed_world(3, seed, 2)
            longer = [literal.ways_from(world, state, 9) for state in range(3)]
            first, second = literal.mixed_truths(3, seed), literal.mixed_truths(3, seed + 500)
            for form in literal.forms_about_ways(first, second):
                self.assert_agree(world, longer, form)

    def test_is_way(self):
        world = literal.world_of([[1], [0, 1]])
        for way in [([0, 1], 0), ([0, 1], 1), ([0, 1, 1, 0, 1], 3)]:
            self.assertTrue(literal.is_way(world, way, 0))
        for way in [([0], 0), ([1], 0), ([0, 1], 2), ([0, 1], -1), ([0, 0], 1), ([], 0), [[0, 1], 0], ((0, 1), 0)]:
            self.assertFalse(literal.is_way(world, way, 0))


if __name__ == "__main__":
    unittest.main()
