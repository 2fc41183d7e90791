"""Points 5, 7, 8 and 9 to 16: tables and truths of whole sentences."""

import copy
import unittest

import literal
from literal import FAR, world_of
from waysaid.tables import table_of, true_in

A = ("mark", 1)
B = ("mark", 2)


def two_rings():
    return world_of([[1, 3], [2, 0], [0], [4], [3, 4]], [[1], [1, 2], [2], [], [1]])


class TableTest(unittest.TestCase):
    def assert_table(self, world, sentence, truths):
        """The table stands by the points taken literally, and its last truths are these."""
        before = copy.deepcopy((world, sentence))
        table = table_of(world, sentence)
        told = true_in(world, sentence)
        self.assertTrue((world, sentence) == before)
        self.assertIs(type(table), list)
        for labels in table:
            self.assertTrue(literal.are_labels(world, labels), labels)
        self.assertTrue(literal.table_told(world, sentence, table), (world, sentence, table))
        self.assertEqual([label[0] for label in table[-1]], truths)
        self.assertIs(type(told), list)
        self.assertEqual({type(truth) for truth in told}, {bool})
        self.assertEqual(told, truths)
        return table

    def assert_by_ways(self, world, ways, sentence):
        truths = literal.truths_of_sentence(
            sentence, world, lambda word, who, own: literal.truths_by_ways(ways, word, who, own))
        return self.assert_table(world, sentence, truths)

    def assert_by_reach(self, world, sentence):
        truths = literal.truths_of_sentence(
            sentence, world, lambda word, who, own: literal.truths_by_reach(world, word, who, own))
        return self.assert_table(world, sentence, truths)

    def test_each_form_in_every_world_of_two_states(self):
        for size in [1, 2]:
            for world, ways, first, second in literal.small_cases(size):
                for sentence in literal.forms_of(A, B):
                    self.assert_by_ways(world, ways, sentence)

    def test_each_form_with_one_part_in_every_world_of_three_states(self):
        forms = [form for form in literal.forms_about_ways(A, B) if len(form) == 3 and form[0] != "again"]
        for world in literal.every_world(3):
            ways = literal.all_ways(world)
            for truths in literal.every_truths(3):
                states = literal.marked(world, {1: truths})
                for sentence in forms:
                    self.assert_by_ways(states, ways, sentence)

    def test_each_form_within_each(self):
        for seed in range(12):
            world = literal.mixed_world(1 + seed % 4, seed, 1 + seed % 3)
            ways = literal.all_ways(world)
            for within in literal.forms_of(A, B):
                for sentence in literal.forms_of(within, B):
                    self.assert_by_ways(world, ways, sentence)
                for sentence in literal.forms_of(B, within):
                    if within in sentence:
                        self.assert_by_ways(world, ways, sentence)

    def test_three_deep(self):
        world = two_rings()
        forms = literal.forms_of
        for outer in range(15):
            for middle in range(15):
                for inner in range(0, 15, 2):
                    sentence = forms(forms(forms(A, B)[inner], A)[middle], B)[outer]
                    self.assert_by_reach(world, sentence)

    def test_mixed_sentences_in_small_worlds(self):
        for seed in range(150):
            world = literal.mixed_world(1 + seed % 3, seed, 2)
            self.assert_by_ways(world, literal.all_ways(world), literal.mixed_sentence(3 + seed % 20, seed))

    def test_hundred_parts_and_forty_states(self):
        for seed in range(25):
            world = literal.mixed_world(40, seed, 1 + seed % 6)
            table = self.assert_by_reach(world, literal.mixed_sentence(100, seed))
            self.assertEqual(len(table), 100)

    def test_hundred_deep_and_deeper(self):
        world = two_rings()
        for make in range(15):
            for count in [100, 180]:
                sentence = A
                while len(table_of(world, sentence)) < count:
                    sentence = literal.forms_of(sentence, B)[make]
                self.assert_by_reach(world, sentence)
        for seed in range(5):
            numbers = literal.Numbers(seed)
            sentence = A
            for count in range(99):
                forms = [form for form in literal.forms_of(sentence, ()) if () not in form]
                sentence = forms[numbers.below(len(forms))]
            self.assertEqual(len(self.assert_by_reach(literal.mixed_world(40, seed), sentence)), 100)

    def test_far_deeper_than_a_recursion_goes(self):
        sentence = A
        for count in range(4000):
            sentence = ("not", sentence)
        self.assertEqual(true_in(world_of([[0], [1]], [[1], [2]]), sentence), [True, False])
        self.assertEqual(true_in(world_of([[0], [1]], [[1], [2]]), ("not", sentence)), [False, True])

    def test_beyond_the_bounds(self):
        world = literal.mixed_world(60, 5)
        self.assertEqual(len(self.assert_by_reach(world, literal.mixed_sentence(150, 5))), 150)


class PlainForms(unittest.TestCase):
    """The labels of a mark, a not, an and, an or say nothing but the truth."""

    def test_mark(self):
        for mark in [0, 1, -1, 40, 10 ** 30, -(10 ** 30), FAR, -FAR]:
            world = world_of([[1], [2], [0]], [[mark], [mark + 1, 5 * mark + 7], [3 - mark, mark, mark - 1]])
            told = table_of(world, ("mark", mark))
            self.assertTrue(told == [[(True, None, None), (False, None, None), (True, None, None)]])
            self.assertEqual(true_in(world, ("mark", mark)), [True, False, True])

    def test_mark_that_no_state_has(self):
        world = world_of([[1], [0]], [[], [1, 2]])
        for mark in [0, 3, -1, -2, 12, FAR, -FAR]:
            self.assertEqual(table_of(world, ("mark", mark)), [[(False, None, None)] * 2])
            self.assertEqual(true_in(world, ("last", "some", ("mark", mark))), [False, False])
            self.assertEqual(true_in(world, ("always", "all", ("not", ("mark", mark)))), [True, True])

    def test_mark_is_no_place_and_no_door(self):
        world = world_of([[1], [1]], [[5], [6]])
        self.assertEqual(true_in(world, ("mark", 0)), [False, False])
        self.assertEqual(true_in(world, ("mark", 1)), [False, False])

    def test_not_and_or(self):
        world = world_of([[0], [0], [0], [0]], [[], [1], [2], [1, 2]])
        first = [(False, None, None), (True, None, None), (False, None, None), (True, None, None)]
        second = [(False, None, None), (False, None, None), (True, None, None), (True, None, None)]
        neither = [(True, None, None), (False, None, None), (True, None, None), (False, None, None)]
        both = [(False, None, None), (False, None, None), (False, None, None), (True, None, None)]
        either = [(False, None, None), (True, None, None), (True, None, None), (True, None, None)]
        self.assertEqual(table_of(world, ("not", A)), [first, neither])
        self.assertEqual(table_of(world, ("and", A, B)), [first, second, both])
        self.assertEqual(table_of(world, ("or", A, B)), [first, second, either])

    def test_true_in_asks_the_sentence_and_not_a_part(self):
        world = world_of([[0], [1]], [[1], []])
        self.assertEqual(true_in(world, ("not", A)), [False, True])
        self.assertEqual(true_in(world, A), [True, False])


class LabelsThatCanOnlyBeThese(unittest.TestCase):
    def test_next(self):
        world = world_of([[0, 1, 2], [2], [1]], [[], [1], []])
        self.assertEqual(table_of(world, ("next", "some", A))[1], [(True, None, 1), (False, None, None), (True, None, 1)])
        world = world_of([[0, 1, 2], [2], [1]], [[1], [], [1]])
        self.assertEqual(table_of(world, ("next", "all", A))[1], [(False, None, 1), (True, None, None), (False, None, 1)])

    def test_next_is_about_the_second_state_alone(self):
        world = world_of([[1], [2], [2]], [[1], [], [1]])
        for who in literal.WHOS:
            self.assertEqual(true_in(world, ("next", who, A)), [False, True, True])

    def test_last_for_some(self):
        world = literal.marked(literal.line_into_ring(4, 3), {1: [False, False, True, False]})
        self.assertEqual(table_of(world, ("last", "some", A))[1],
                         [(True, 2, 1), (True, 1, 2), (True, 0, None), (False, None, None)])

    def test_last_for_all(self):
        world = literal.marked(literal.ring(2), {1: [False, False]})
        self.assertEqual(table_of(world, ("last", "all", A))[1], [(False, None, 1), (False, None, 0)])

    def test_always_for_all(self):
        world = literal.marked(literal.line_into_ring(4, 3), {1: [True, True, False, True]})
        self.assertEqual(table_of(world, ("always", "all", A))[1],
                         [(False, 2, 1), (False, 1, 2), (False, 0, None), (True, None, None)])

    def test_always_for_some(self):
        world = literal.marked(literal.ring(2), {1: [True, True]})
        self.assertEqual(table_of(world, ("always", "some", A))[1], [(True, None, 1), (True, None, 0)])
        world = literal.marked(literal.ring(2), {1: [False, False]})
        self.assertEqual(table_of(world, ("always", "some", A))[1], [(False, 0, None), (False, 0, None)])

    def test_settle_for_some(self):
        world = literal.marked(literal.line_into_ring(3, 2), {1: [True, False, True]})
        self.assertEqual(table_of(world, ("settle", "some", A))[1], [(True, 2, 1), (True, 1, 2), (True, 0, 2)])

    def test_settle_for_all(self):
        world = literal.marked(literal.ring(3), {1: [True, False, True]})
        self.assertEqual(table_of(world, ("settle", "all", A))[1], [(False, 1, 1), (False, 0, 2), (False, 2, 0)])

    def test_truths_are_those_of_the_own_parts(self):
        world = literal.marked(literal.line_into_ring(3, 2), {1: [True, True, False], 2: [False, False, True]})
        for who in literal.WHOS:
            self.assertEqual(true_in(world, ("until", who, A, B)), [True, True, True])
            self.assertEqual(true_in(world, ("until", who, B, A)), [True, True, False])

    def test_part_that_stands_twice(self):
        world = literal.marked(literal.ring(3), {1: [False, True, False]})
        part = ("again", "some", A)
        mark_labels = [(False, None, None), (True, None, None), (False, None, None)]
        part_labels = [(True, 1, 1), (True, 0, 2), (True, 2, 0)]
        self.assertEqual(table_of(world, ("and", part, part)),
                         [mark_labels, part_labels, mark_labels, part_labels, [(True, None, None)] * 3])

    def test_parts_of_two_are_told_in_their_order(self):
        world = world_of([[1], [1]], [[1], [2]])
        first, second = ("not", A), ("next", "some", B)
        self.assertEqual(table_of(world, ("or", first, second)), [
            [(True, None, None), (False, None, None)], [(False, None, None), (True, None, None)],
            [(False, None, None), (True, None, None)], [(True, None, 1), (True, None, 1)],
            [(True, None, None), (True, None, None)]])

    def test_some_and_all_differ(self):
        # From the first state a way stays there for ever and another one leaves for good.
        world = world_of([[0, 1], [1]], [[1], []])
        wanted = {"next": (True, False), "last": (True, True), "always": (True, False), "again": (True, False),
                  "settle": (True, False)}
        for word, (some, every) in wanted.items():
            self.assertEqual(true_in(world, (word, "some", A))[0], some)
            self.assertEqual(true_in(world, (word, "all", A))[0], every)
        self.assertEqual(true_in(world, ("last", "some", ("not", A))), [True, True])
        self.assertEqual(true_in(world, ("last", "all", ("not", A))), [False, True])

    def test_each_answer_is_a_list_of_its_own(self):
        world = two_rings()
        sentence = ("and", A, A)
        table = table_of(world, sentence)
        table[0].clear()
        self.assertEqual(len(table[1]), 5)
        self.assertEqual(len(table_of(world, sentence)[0]), 5)


if __name__ == "__main__":
    unittest.main()
