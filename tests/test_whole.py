"""What holds over the whole program: points 1 to 3, and the interface's names and first words."""

import copy
import inspect
import unittest

import literal
from literal import FAR, world_of
from waysaid import checking, errors, labels, sentences, tables, ways
from waysaid.checking import stands
from waysaid.errors import NoDoor, NoState, NoWay
from waysaid.tables import table_of, true_in
from waysaid.ways import way_for

A = ("mark", 1)
B = ("mark", 2)
SENTENCES = literal.forms_of(A, B) + [A, ("not", ("until", "all", ("not", A), ("settle", "some", B)))]


def faulty_worlds():
    """Pairs of a world that is refused and its refusal."""
    no_door = [world_of([[]]), world_of([[0], []]), world_of([[], [0]]), world_of([[1], [], [2]])]
    no_state = [world_of([[door]]) for door in [1, -1, 2, FAR, -FAR]]
    no_state += [world_of([[1], [0, 2]]), world_of([[1, -1], [0]]), world_of([[-2], [1]]), world_of([[0], [1], [2, 0, 3]])]
    both = [world_of([[], [2]]), world_of([[2], []]), world_of([[0, -1], [1], []]), world_of([[FAR], []]),
            world_of([[], [1], [0, 3]]), world_of([[-1], [-1], []])]
    return ([(world, NoDoor) for world in no_door + both] + [(world, NoState) for world in no_state])


class Refusals(unittest.TestCase):
    def assert_refused(self, refusal, function, *handed):
        before = copy.deepcopy(handed)
        with self.assertRaises(refusal) as caught:
            function(*handed)
        self.assertIs(type(caught.exception), refusal)
        self.assertTrue(handed == before)

    def test_table_of_and_true_in(self):
        for world, refusal in faulty_worlds():
            for sentence in SENTENCES:
                self.assert_refused(refusal, table_of, world, sentence)
                self.assert_refused(refusal, true_in, world, sentence)

    def test_stands(self):
        for world, refusal in faulty_worlds():
            for sentence in SENTENCES:
                count = len(sentences.parts_of(sentence))
                for label in [(True, None, None), (False, None, None), (True, 0, 0), (False, -1, FAR)]:
                    table = [[label] * len(world) for part in range(count)]
                    self.assert_refused(refusal, stands, world, sentence, table)

    def test_way_for(self):
        for world, refusal in faulty_worlds():
            for sentence in SENTENCES:
                for state in range(len(world)):
                    self.assert_refused(refusal, way_for, world, sentence, state)

    def test_world_is_refused_ahead_of_the_state_and_the_sentence(self):
        for world, refusal in faulty_worlds():
            for sentence in SENTENCES:
                for state in [-1, len(world), 1000, FAR, -FAR]:
                    self.assert_refused(refusal, way_for, world, sentence, state)

    def test_refusals_that_are_told_apart(self):
        no_door = world_of([[0], []])
        sound = world_of([[0], [0]])
        self.assert_refused(NoDoor, way_for, no_door, A, 7)
        self.assert_refused(NoState, way_for, sound, A, 7)
        self.assert_refused(NoWay, way_for, sound, A, 1)


class NothingIsChanged(unittest.TestCase):
    def assert_unchanged(self, function, *handed):
        before = copy.deepcopy(handed)
        first = function(*handed)
        self.assertTrue(handed == before)
        self.assertTrue(function(*handed) == first, "the answer is not the same a second time")
        self.assertTrue(handed == before)
        return first

    def test_every_function(self):
        for seed in range(20):
            world = literal.mixed_world(1 + 2 * seed, seed, 3)
            size = len(world)
            left, right = literal.mixed_truths(size, seed), literal.mixed_truths(size, seed + 1)
            for function in [labels.some_until, labels.all_until]:
                self.assert_unchanged(function, world, left, right)
            for function in [labels.some_again, labels.all_again]:
                self.assert_unchanged(function, world, left)
            for sentence in SENTENCES + [literal.mixed_sentence(40, seed)]:
                self.assert_unchanged(sentences.parts_of, sentence)
                table = self.assert_unchanged(table_of, world, sentence)
                self.assertIs(self.assert_unchanged(stands, world, sentence, table), True)
                table[0][0] = (not table[0][0][0], 3, -1)
                self.assertIs(self.assert_unchanged(stands, world, sentence, table), False)
                self.assert_unchanged(true_in, world, sentence)
            sentence = ("last", "some", ("or", A, ("not", A)))
            self.assert_unchanged(way_for, world, sentence, size - 1)

    def test_one_list_handed_in_twice(self):
        world = literal.ring(5)
        truths = [True, False, False, True, False]
        for who, function in [("some", labels.some_until), ("all", labels.all_until)]:
            told = self.assert_unchanged(function, world, truths, truths)
            self.assertTrue(literal.labels_told(world, "until", who, told, [truths, truths]))

    def test_states_that_are_one_object(self):
        state = ([1], [0, 1, 2])
        world = [state, state, state]
        for sentence in SENTENCES:
            table = self.assert_unchanged(table_of, world, sentence)
            self.assertTrue(literal.table_told(world, sentence, table))


class Interface(unittest.TestCase):
    def test_names_and_arguments(self):
        wanted = {
            sentences.parts_of: ["sentence"], labels.some_until: ["world", "left", "right"],
            labels.all_until: ["world", "left", "right"], labels.some_again: ["world", "here"],
            labels.all_again: ["world", "here"], tables.table_of: ["world", "sentence"],
            tables.true_in: ["world", "sentence"], checking.stands: ["world", "sentence", "table"],
            ways.way_for: ["world", "sentence", "state"]}
        for function, arguments in wanted.items():
            self.assertEqual(list(inspect.signature(function).parameters), arguments)
        for refusal in [errors.NoDoor, errors.NoState, errors.NoWay]:
            self.assertTrue(issubclass(refusal, errors.WayError))


if __name__ == "__main__":
    unittest.main()
