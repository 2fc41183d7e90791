"""Point 16: stands, over tables that stand and tables with a label that is not as told."""

import copy
import itertools
import unittest

import literal
from literal import FAR, world_of
from waysaid.checking import stands
from waysaid.tables import table_of

A = ("mark", 1)
B = ("mark", 2)


def split_world():
    """Rings within rings, several doors, a state that no door leads to."""
    return world_of([[1, 2], [3, 1], [3], [4, 2], [4], [0, 5, 4]], [[1], [2], [1, 2], [], [1], [2]])


def table_with(table, part, place, label):
    changed = [list(labels) for labels in table]
    changed[part][place] = label
    return changed


def changes_of(label, size):
    """All labels that differ from this one in one thing."""
    truth, number, door = label
    near = [] if number is None else [number + 1, number - 1, number + 7]
    numbers = [other for other in dict.fromkeys(near + [0, 1, -1, 10 ** 9, FAR, -FAR, None]) if other != number]
    doors = [other for other in list(range(size)) + [-1, -size, size, FAR, None] if other != door]
    return ([(not truth, number, door)] + [(truth, other, door) for other in numbers]
            + [(truth, number, other) for other in doors])


class Checking(unittest.TestCase):
    def assert_told(self, wanted, world, sentence, table):
        before = copy.deepcopy((world, sentence, table))
        told = stands(world, sentence, table)
        self.assertTrue((world, sentence, table) == before)
        self.assertIs(told, wanted)

    def assert_part(self, wanted, world, sentence, labels):
        """The sentence's own labels are these, the labels of its parts those that table_of tells."""
        table = table_of(world, sentence)
        table[-1] = labels
        self.assert_told(wanted, world, sentence, table)

    def assert_each_change(self, world, sentence):
        """Every table that differs in one label from the one told is judged as the points say; how many stand."""
        table = table_of(world, sentence)
        self.assert_told(True, world, sentence, table)
        standing = 0
        for part, labels in enumerate(table):
            for place, label in enumerate(labels):
                for other in changes_of(label, len(world)):
                    changed = table_with(table, part, place, other)
                    told = stands(world, sentence, changed)
                    self.assertIs(told, literal.table_told(world, sentence, changed),
                                  "label %d of part %d" % (place, part))
                    # Only numbers and doors are ever free.
                    self.assertFalse(told and other[0] != label[0])
                    standing = standing + told
        return standing


class EveryTable(Checking):
    def judge_every_table(self, world, sentence, own, truths, all_labels):
        """All tables over these labels are judged as the points say, and those that stand have the true truths."""
        plain = table_of(world, sentence)[:-1]
        count = 0
        for labels in itertools.product(all_labels, repeat=len(world)):
            labels = list(labels)
            told = stands(world, sentence, plain + [labels])
            self.assertIs(told, literal.labels_told(world, sentence[0], sentence[1], labels, own))
            if told:
                count = count + 1
                self.assertEqual([label[0] for label in labels], truths)
        self.assertGreater(count, 0)

    def judge_worlds(self, size, all_labels, step):
        for world, ways, first, second in list(literal.small_cases(size))[::step]:
            for sentence in literal.forms_about_ways(A, B):
                own = [first, second][:len(sentence) - 2]
                # What has one part alone is judged once for all truths of the other mark.
                if len(own) == 2 or second == first:
                    truths = literal.truths_by_ways(ways, sentence[0], sentence[1], own)
                    self.judge_every_table(world, sentence, own, truths, all_labels)

    def test_one_state(self):
        numbers = [None, -FAR, -2, -1, 0, 1, 2, 3, FAR]
        doors = [None, -FAR, -2, -1, 0, 1, 2, FAR]
        self.judge_worlds(1, list(itertools.product([True, False], numbers, doors)), 1)

    def test_two_states(self):
        self.judge_worlds(2, list(itertools.product([True, False], [None, -1, 0, 1, 2], [None, 0, 1])), 1)

    def test_two_states_with_doors_to_nowhere(self):
        self.judge_worlds(2, list(itertools.product([True, False], [None, 0, 1], [None, -1, -2, 0, 1, 2])), 5)


class ChangedTables(Checking):
    def test_each_form(self):
        for world in [split_world(), literal.marked(literal.ring(4), {1: [True, False, True, False], 2: [False] * 4}),
                      literal.marked(literal.down_hill(4), {1: [True, False, True, False], 2: [False, True, True, False]}),
                      literal.marked(literal.each_to_each(3), {1: [True, False, False], 2: [False, True, False]})]:
            for sentence in literal.forms_of(A, B) + literal.forms_of(B, A):
                self.assert_each_change(world, sentence)

    def test_mixed_sentences(self):
        standing = 0
        for seed in range(30):
            world = literal.mixed_world(1 + seed % 6, seed, 3)
            standing = standing + self.assert_each_change(world, literal.mixed_sentence(4 + seed % 9, seed))
        self.assertGreater(standing, 20)

    def test_one_truth_turned(self):
        for seed in range(3):
            world = literal.mixed_world(40, seed, 3)
            sentence = literal.mixed_sentence(100, seed)
            table = table_of(world, sentence)
            self.assert_told(True, world, sentence, table)
            for part in range(0, 100, 7):
                for place in range(part % 5, 40, 5):
                    truth, number, door = table[part][place]
                    self.assert_told(False, world, sentence, table_with(table, part, place, (not truth, number, door)))

    def test_own_tables_of_great_worlds(self):
        for seed in range(30):
            size = 20 + seed
            world = literal.mixed_world(size, seed, 1 + seed % 5)
            sentence = literal.mixed_sentence(60 + seed * 2, seed)
            self.assert_told(True, world, sentence, table_of(world, sentence))

    def test_hundred_deep_and_deeper(self):
        world = split_world()
        for make in [0, 3, 4, 5, 8, 9, 10, 11, 12]:
            for count in [100, 180]:
                sentence = A
                for deep in range(count - 1):
                    sentence = literal.forms_of(sentence, B)[make]
                table = table_of(world, sentence)
                self.assertEqual(len(table), count)
                self.assert_told(True, world, sentence, table)
                truth, number, door = table[50][2]
                self.assert_told(False, world, sentence, table_with(table, 50, 2, (not truth, number, door)))

    def test_all_truths_of_a_part_turned_together_with_those_above(self):
        # The parts above fit what is said below them, so only the mark's own labels tell that it is wrong.
        world = literal.marked(literal.ring(2), {1: [True, False]})
        turned_world = literal.marked(literal.ring(2), {1: [False, True]})
        for sentence in literal.forms_about_ways(("not", A), A):
            self.assert_told(False, world, sentence, table_of(turned_world, sentence))

    def test_labels_of_the_wrong_part(self):
        world = literal.marked(literal.ring(2), {1: [True, False], 2: [False, True]})
        for sentence in [("and", A, B), ("until", "some", A, B), ("or", ("not", A), B)]:
            table = table_of(world, sentence)
            swapped = [table[1], table[0]] + table[2:]
            self.assert_told(False, world, sentence, swapped)

    def test_second_standing_of_a_part_has_labels_of_its_own(self):
        world = literal.marked(literal.each_to_each(2), {1: [True, True]})
        part = ("again", "all", A)
        sentence = ("and", part, part)
        table = table_of(world, sentence)
        for place, number in [(1, 5), (3, FAR)]:
            changed = table_with(table, place, 0, (True, number, None))
            self.assert_told(True, world, sentence, changed)
            self.assert_told(False, world, sentence, table_with(changed, 4 - place, 0, (True, None, None)))


class PlainLabels(Checking):
    def test_nothing_but_the_truth(self):
        world = world_of([[0, 1], [1]], [[1], []])
        for sentence in [A, ("not", A), ("and", A, A), ("or", A, A)]:
            table = table_of(world, sentence)
            self.assert_told(True, world, sentence, table)
            for place in [0, 1]:
                truth = table[-1][place][0]
                for label in [(not truth, None, None), (truth, 0, None), (truth, None, 0), (truth, None, 1),
                              (truth, -1, None), (truth, FAR, None), (truth, None, -1), (truth, 0, 0)]:
                    self.assert_told(False, world, sentence, table_with(table, -1, place, label))


class OtherTablesThatStand(Checking):
    """Tables that differ from those that table_of tells: each point with the room that it leaves."""

    def test_next_another_door(self):
        world = world_of([[0, 1, 2], [2], [2]], [[], [1], [1]])
        for door, wanted in [(1, True), (2, True), (0, False), (None, False), (3, False), (-1, False)]:
            labels = [(True, None, door), (True, None, 2), (True, None, 2)]
            self.assert_part(wanted, world, ("next", "some", A), labels)
        world = world_of([[0, 1, 2], [2], [2]], [[1], [], []])
        for door, wanted in [(1, True), (2, True), (0, False), (None, False), (3, False), (-1, False)]:
            labels = [(False, None, door), (False, None, 2), (False, None, 2)]
            self.assert_part(wanted, world, ("next", "all", A), labels)

    def test_next_a_door_that_is_another_states(self):
        world = world_of([[1], [1, 2], [2]], [[], [1], [1]])
        self.assert_part(True, world, ("next", "some", A), [(True, None, 1), (True, None, 2), (True, None, 2)])
        self.assert_part(False, world, ("next", "some", A), [(True, None, 2), (True, None, 2), (True, None, 2)])

    def test_until_for_some_a_longer_way_or_another_door(self):
        world = world_of([[1, 2, 3], [3], [1], [3]], [[1], [1], [1], [2]])
        sentence = ("until", "some", A, B)
        rest = [(True, 1, 3), (True, 2, 1), (True, 0, None)]
        for label, wanted in [((True, 1, 3), True), ((True, 2, 1), True), ((True, 3, 2), True), ((True, 2, 3), False),
                              ((True, 1, 1), False), ((True, 4, 2), False), ((True, 0, None), False),
                              ((True, 0, 3), False), ((True, 1, None), False), ((True, None, 3), False)]:
            self.assert_part(wanted, world, sentence, [label] + rest)

    def test_until_for_some_a_number_above_nought_where_t_is_true(self):
        world = world_of([[1], [1]], [[1, 2], [2]])
        sentence = ("until", "some", A, B)
        end = (True, 0, None)
        self.assert_part(True, world, sentence, [(True, 0, None), end])
        self.assert_part(True, world, sentence, [(True, 1, 1), end])
        self.assert_part(False, world, sentence, [(True, 0, 1), end])
        self.assert_part(False, world, sentence, [(True, 1, 1), (True, 1, 1)])
        # Where S is not true as well, nought alone is left.
        self.assert_part(False, world_of([[1], [1]], [[2], [2]]), sentence, [(True, 1, 1), end])

    def test_until_for_all_greater_numbers(self):
        world = world_of([[1, 2], [2], [2]], [[1], [1], [2]])
        sentence = ("until", "all", A, B)
        for first, second, wanted in [(2, 1, True), (3, 1, True), (FAR, 1, True), (FAR, FAR - 1, True), (9, 8, True),
                                      (1, 1, False), (1, 2, False), (0, 1, False), (2, 0, False), (2, -1, False),
                                      (None, 1, False), (2, None, False), (FAR, FAR, False), (-1, 1, False)]:
            labels = [(True, first, None), (True, second, None), (True, 0, None)]
            self.assert_part(wanted, world, sentence, labels)
        self.assert_part(False, world, sentence, [(True, 2, 1), (True, 1, None), (True, 0, None)])
        self.assert_part(False, world, sentence, [(True, 2, None), (True, 1, None), (True, 1, None)])

    def test_until_for_all_a_number_above_nought_where_t_is_true(self):
        world = world_of([[1], [1]], [[1, 2], [2]])
        for number, wanted in [(0, True), (1, True), (FAR, True), (-1, False), (None, False)]:
            self.assert_part(wanted, world, ("until", "all", A, B), [(True, number, None), (True, 0, None)])
        world = world_of([[1], [1]], [[2], [2]])
        self.assert_part(False, world, ("until", "all", A, B), [(True, 1, None), (True, 0, None)])

    def test_until_for_all_false(self):
        world = world_of([[0, 1, 2], [1], [2]], [[1], [1], [2]])
        sentence = ("until", "all", A, B)
        for door, wanted in [(0, True), (1, True), (2, False), (None, False), (3, False), (-1, False)]:
            self.assert_part(wanted, world, sentence, [(False, None, door), (False, None, 1), (True, 0, None)])
        self.assert_part(False, world, sentence, [(False, 0, 1), (False, None, 1), (True, 0, None)])
        world = world_of([[0, 1], [1]], [[], [1]])
        for label, wanted in [((False, None, None), True), ((False, None, 0), False), ((False, None, 1), False)]:
            self.assert_part(wanted, world, sentence, [label, (False, None, 1)])

    def test_last_and_always(self):
        world = world_of([[1, 2], [2], [2]], [[], [], [1]])
        for number, door, wanted in [(1, 2, True), (2, 1, True), (2, 2, False), (1, 1, False), (0, None, False)]:
            labels = [(True, number, door), (True, 1, 2), (True, 0, None)]
            self.assert_part(wanted, world, ("last", "some", A), labels)
            turned = [(not truth, other, way) for truth, other, way in labels]
            self.assert_part(wanted, world, ("always", "all", ("not", A)), turned)
            self.assert_part(False, world, ("last", "some", A), turned)
            self.assert_part(False, world, ("always", "all", ("not", A)), labels)
        for first, second, wanted in [(2, 1, True), (FAR, 7, True), (7, 7, False), (1, 2, False)]:
            labels = [(True, first, None), (True, second, None), (True, 0, None)]
            self.assert_part(wanted, world, ("last", "all", A), labels)
            turned = [(not truth, other, way) for truth, other, way in labels]
            self.assert_part(wanted, world, ("always", "some", ("not", A)), turned)

    def test_again_for_some_longer_ways(self):
        world = world_of([[0, 1], [0]], [[1], []])
        sentence = ("again", "some", A)
        for label, wanted in [((True, 0, 0), True), ((True, 0, 1), True), ((True, 0, None), False),
                              ((True, 1, 0), False), ((True, None, 0), False), ((True, -1, 0), False),
                              ((True, 2, 1), False), ((True, 0, 2), False), ((True, 0, -1), False)]:
            self.assert_part(wanted, world, sentence, [label, (True, 1, 0)])
        # Nought is left to the state where S is true, but another one may do for it in the ring.
        both = world_of([[1], [0]], [[1], [1]])
        for first, second, wanted in [(0, 0, True), (0, 1, True), (1, 0, True), (1, 1, False), (2, 1, False),
                                      (0, 2, False)]:
            self.assert_part(wanted, both, sentence, [(True, first, 1), (True, second, 0)])

    def test_again_for_some_false(self):
        world = world_of([[1, 2], [2], [2]], [[1], [], []])
        sentence = ("again", "some", A)
        for numbers, wanted in [((1, 0, 0), True), ((2, 1, 1), True), ((5, 3, 2), True), ((FAR, 3, 0), True),
                                ((0, 0, 0), False), ((1, 1, 0), False), ((2, 0, 1), False), ((1, 0, 1), False),
                                ((None, 0, 0), False), ((1, None, 0), False), ((1, 0, None), False),
                                ((0, -1, -1), False), ((1, 0, -1), False), ((1, -1, -1), False)]:
            self.assert_part(wanted, world, sentence, [(False, number, None) for number in numbers])
        for door in [0, 1, 2, -1, FAR]:
            self.assert_part(False, world, sentence, [(False, 1, door), (False, 0, None), (False, 0, None)])

    def test_again_for_all(self):
        world = world_of([[1, 2], [2], [0]], [[], [], [1]])
        sentence = ("again", "all", A)
        for numbers, wanted in [((2, 1, 0), True), ((3, 2, 1), True), ((FAR, 5, 4), True), ((4, 2, 0), True),
                                ((9, 8, 7), True), ((1, 1, 0), False), ((2, 1, 1), False), ((1, 2, 0), False),
                                ((2, 0, 0), False), ((None, 1, 0), False), ((2, 1, None), False), ((2, None, 0), False),
                                ((2, 1, -1), False), ((1, 0, -1), False)]:
            self.assert_part(wanted, world, sentence, [(True, number, None) for number in numbers])
        for door in [0, 1, 2, -1, FAR]:
            self.assert_part(False, world, sentence, [(True, 2, door), (True, 1, None), (True, 0, None)])

    def test_again_for_all_false(self):
        world = world_of([[0, 1, 2], [0], [2]], [[], [1], []])
        sentence = ("again", "all", A)
        for label, wanted in [((False, 0, 0), True), ((False, 0, 2), True), ((False, 1, 2), True), ((False, 1, 0), False),
                              ((False, 0, 1), False), ((False, 2, 1), False), ((False, None, 0), False),
                              ((False, 0, None), False), ((False, -1, 0), False), ((False, 0, 3), False)]:
            number = 1 if label[1] is None else label[1] + 1
            self.assert_part(wanted, world, sentence, [label, (False, number, 0), (False, 0, 2)])
        # Where S is true the number can't be nought.
        labels = [(False, 0, 0), (False, 0, 0), (False, 0, 2)]
        self.assert_part(False, world, sentence, labels)

    def test_settle(self):
        world = world_of([[1, 2], [2], [0]], [[1], [1], []])
        for numbers, wanted in [((2, 1, 0), True), ((FAR, 5, 4), True), ((1, 1, 0), False), ((2, 1, None), False)]:
            self.assert_part(wanted, world, ("settle", "some", A), [(False, number, None) for number in numbers])
        for first, second, wanted in [(0, 0, True), (0, 1, True), (1, 0, True), (1, 1, False)]:
            labels = [(False, first, 1), (False, second, 0)]
            self.assert_part(wanted, world_of([[1], [0]]), ("settle", "all", A), labels)

    def test_numbers_stretched(self):
        """Where numbers are only held against each other's order, greater ones with the same order stand."""
        for seed in range(40):
            world = literal.mixed_world(12, seed, 3)
            for word, truth in [("again some", False), ("again all", True), ("settle all", True), ("settle some", False)]:
                sentence = tuple(word.split()) + (A,)
                table = table_of(world, sentence)
                table[-1] = [(label[0], label[1] * FAR + 5, label[2]) if label[0] == truth else label
                             for label in table[-1]]
                self.assert_told(True, world, sentence, table)
            for word, truth in [("last all", True), ("always some", False)]:
                sentence = tuple(word.split()) + (A,)
                table = table_of(world, sentence)
                table[-1] = [(label[0], label[1] * FAR, label[2]) if label[0] == truth else label
                             for label in table[-1]]
                self.assert_told(True, world, sentence, table)


if __name__ == "__main__":
    unittest.main()
