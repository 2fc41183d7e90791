"""Points 4, 5, 6, 17 and 18: ways that show a sentence, and the refusals where there is none."""

import copy
import unittest

import literal
from literal import FAR, world_of
from waysaid.errors import NoState, NoWay
from waysaid.ways import way_for

A = ("mark", 1)
B = ("mark", 2)


class WayTest(unittest.TestCase):
    def assert_refused(self, refusal, world, sentence, state):
        before = copy.deepcopy((world, sentence))
        with self.assertRaises(refusal) as caught:
            way_for(world, sentence, state)
        self.assertIs(type(caught.exception), refusal)
        self.assertTrue((world, sentence) == before)

    def assert_shown(self, world, sentence, own, state):
        before = copy.deepcopy((world, sentence))
        way = way_for(world, sentence, state)
        self.assertTrue((world, sentence) == before)
        self.assertTrue(literal.is_way(world, way, state), (world, sentence, state, way))
        self.assertIs(literal.told_of_way(way, sentence[0], own), sentence[1] == "some", (world, sentence, state, way))
        return way

    def assert_each_state(self, world, sentence, own, truths):
        """From each state a way where there is one to show, else NoWay; how many ways there were."""
        count = 0
        for state, truth in enumerate(truths):
            if truth == (sentence[1] == "some"):
                self.assert_shown(world, sentence, own, state)
                count = count + 1
            else:
                self.assert_refused(NoWay, world, sentence, state)
        return count

    def assert_by_reach(self, world, sentence):
        def truths_of(part):
            return literal.truths_of_sentence(
                part, world, lambda word, who, own: literal.truths_by_reach(world, word, who, own))
        own = [truths_of(part) for part in literal.own_parts(sentence)]
        truths = literal.truths_by_reach(world, sentence[0], sentence[1], own)
        return self.assert_each_state(world, sentence, own, truths)


class WaysThatShow(WayTest):
    def test_every_world_of_two_states(self):
        for size in [1, 2]:
            for world, ways, first, second in literal.small_cases(size):
                for sentence in literal.forms_about_ways(A, B):
                    own = [first, second][:len(sentence) - 2]
                    truths = literal.truths_by_ways(ways, sentence[0], sentence[1], own)
                    self.assert_each_state(world, sentence, own, truths)

    def test_every_world_of_three_states(self):
        for world in literal.every_world(3):
            for first in literal.every_truths(3):
                # For an until T follows from S: all pairs take long.
                second = [not truth for truth in first[1:]] + [first[0]]
                states = literal.marked(world, {1: first, 2: second})
                for sentence in literal.forms_about_ways(A, B):
                    own = [first, second][:len(sentence) - 2]
                    truths = literal.truths_by_reach(world, sentence[0], sentence[1], own)
                    self.assert_each_state(states, sentence, own, truths)

    def test_great_worlds(self):
        worlds = [literal.mixed_world(10 + seed % 31, seed, 1 + seed % 4) for seed in range(20)]
        makers = [literal.ring, literal.ladder, literal.down_hill, literal.up_and_back, literal.each_to_each]
        for make in makers:
            for odds in [2, 9]:
                marks = {1: literal.mixed_truths(40, odds, odds), 2: literal.mixed_truths(40, odds + 1, odds)}
                worlds.append(literal.marked(make(40), marks))
        worlds.append(literal.mixed_world(70, 7, 2))
        shown = {}
        for world in worlds:
            for sentence in literal.forms_about_ways(A, B):
                count = self.assert_by_reach(world, sentence)
                shown[sentence[:2]] = shown.get(sentence[:2], 0) + count
        self.assertEqual(len(shown), 12)
        self.assertGreater(min(shown.values()), 100)

    def test_sentences_within_sentences(self):
        for seed in range(120):
            world = literal.mixed_world(2 + seed % 9, seed, 3)
            within = [literal.mixed_sentence(1 + seed % 20, seed + number) for number in [1, 2]]
            for sentence in literal.forms_about_ways(within[0], within[1]):
                self.assert_by_reach(world, sentence)

    def test_hundred_deep(self):
        world = literal.mixed_world(8, 3)
        for make in range(12):
            sentence = A
            for count in range(120):
                sentence = ("not", sentence) if count % 2 else literal.forms_about_ways(sentence, B)[make]
            self.assert_by_reach(world, literal.forms_about_ways(sentence, B)[make])

    def test_only_one_way_can_be_told_in_the_end(self):
        world = world_of([[1], [2], [1]], [[1], [], [2]])
        sentences = [("next", "all", A), ("until", "all", A, B), ("last", "some", B), ("always", "all", A),
                     ("again", "some", B), ("settle", "all", B)]
        for sentence in sentences:
            row, back = way_for(world, sentence, 0)
            self.assertEqual([(row + row[back:] * 3)[place] for place in range(4)], [0, 1, 2, 1])

    def test_one_state(self):
        world = world_of([[0]], [[1]])
        for sentence in [("next", "some", A), ("until", "some", B, A), ("last", "some", A), ("always", "some", A),
                         ("again", "some", A), ("settle", "some", A), ("next", "all", B), ("until", "all", A, B),
                         ("last", "all", B), ("always", "all", B), ("again", "all", B), ("settle", "all", B)]:
            row, back = way_for(world, sentence, 0)
            self.assertEqual(set(row), {0})
            self.assertTrue(0 <= back < len(row))

    def test_the_ring_may_have_to_go_round_more_than_one_state(self):
        # S is true off the straight ring only: the way must leave the state and come back to it.
        world = world_of([[0, 1], [0, 1]], [[], [1]])
        row, back = self.assert_shown(world, ("again", "some", A), [[False, True]], 0)
        self.assertIn(1, row[back:])

    def test_each_answer_is_a_row_of_its_own(self):
        world = world_of([[0, 1], [1]], [[1], []])
        way_for(world, ("always", "some", A), 0)[0].append(7)
        self.assertEqual(world, world_of([[0, 1], [1]], [[1], []]))
        self.assert_shown(world, ("always", "some", A), [[True, False]], 0)


class Refusals(WayTest):
    NO_STATES = [-1, -2, -3, 2, 3, 40, FAR, -FAR]

    def test_no_such_state(self):
        world = world_of([[0, 1], [1]], [[1], []])
        for state in self.NO_STATES:
            for sentence in literal.forms_about_ways(A, B):
                self.assert_refused(NoState, world, sentence, state)

    def test_sentence_that_is_not_about_ways(self):
        world = world_of([[0, 1], [1]], [[1], [2]])
        for part in [A, ("last", "some", A), ("always", "all", B)]:
            for sentence in [A, ("mark", 5), ("not", part), ("and", part, part), ("or", part, B)]:
                for state in [0, 1]:
                    self.assert_refused(NoWay, world, sentence, state)

    def test_no_such_state_and_no_way(self):
        world = world_of([[0, 1], [1]], [[1], [2]])
        for state in self.NO_STATES:
            for sentence in [A, ("not", A), ("and", A, B), ("or", A, B), ("not", ("last", "some", A))]:
                self.assert_refused(NoState, world, sentence, state)
            # Not true for some, and true for all, in each state.
            for sentence in literal.forms_about_ways(("mark", 9), ("mark", 9))[::2]:
                self.assert_refused(NoState, world, sentence, state)
            every = ("or", A, ("not", A))
            for sentence in literal.forms_about_ways(every, every)[1::2]:
                self.assert_refused(NoState, world, sentence, state)

    def test_some_that_is_not_true(self):
        world = world_of([[0, 1], [1]], [[1], [2]])
        for sentence in literal.forms_about_ways(("mark", 9), ("mark", 9))[::2] + [("until", "some", A, ("mark", 9))]:
            self.assertEqual(sentence[1], "some")
            for state in [0, 1]:
                self.assert_refused(NoWay, world, sentence, state)

    def test_all_that_is_true(self):
        world = world_of([[0, 1], [1]], [[1], [2]])
        every = ("or", A, B)
        for sentence in literal.forms_about_ways(every, every)[1::2] + [("until", "all", ("mark", 9), every)]:
            self.assertEqual(sentence[1], "all")
            for state in [0, 1]:
                self.assert_refused(NoWay, world, sentence, state)

    def test_true_in_one_state_and_not_in_the_other(self):
        world = world_of([[0, 1], [1]], [[1], []])
        self.assert_shown(world, ("last", "some", A), [[True, False]], 0)
        self.assert_refused(NoWay, world, ("last", "some", A), 1)
        self.assert_shown(world, ("always", "all", A), [[True, False]], 0)
        self.assert_refused(NoWay, world, ("always", "all", ("not", A)), 1)
        self.assert_shown(world, ("always", "all", ("not", A)), [[False, True]], 0)


if __name__ == "__main__":
    unittest.main()
