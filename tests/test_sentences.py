import copy
import unittest

from waysaid.sentences import is_about_ways, own_places, parts_of

A = ("mark", 1)
B = ("mark", 2)
ONE_PART_WORDS = ["next", "last", "always", "again", "settle"]
FAR = 10 ** 5000


def about_ways(word, who, *own):
    return (word, who) + own


def one_part_forms(part):
    forms = [("not", part)]
    for word in ONE_PART_WORDS:
        forms.extend(about_ways(word, who, part) for who in ["some", "all"])
    return forms


def two_part_forms(first, second):
    plain = [("and", first, second), ("or", first, second)]
    return plain + [about_ways("until", who, first, second) for who in ["some", "all"]]


def broad(leaves):
    """A sentence over these marks, each `and` or `or` halving them: as shallow as it can be."""
    if len(leaves) == 1:
        return leaves[0]
    half = len(leaves) // 2
    return (["and", "or"][len(leaves) % 2], broad(leaves[:half]), broad(leaves[half:]))


def told_by_point_7(sentence):
    """Point 7 word by word, by recursion; apart from the program's own way of doing it."""
    parts = []
    for piece in sentence[1:]:
        if isinstance(piece, tuple):
            parts.extend(told_by_point_7(piece))
    return parts + [sentence]


class Parts(unittest.TestCase):
    def assert_parts(self, sentence, wanted):
        before = copy.deepcopy(sentence)
        told = parts_of(sentence)
        self.assertIs(type(told), list)
        self.assertTrue(told == wanted)
        self.assertTrue(told[-1] == sentence)
        self.assertTrue(sentence == before)

    def test_mark(self):
        for mark in [0, 1, -1, 7, 10 ** 30, -(10 ** 30), FAR, -FAR]:
            self.assert_parts(("mark", mark), [("mark", mark)])

    def test_forms_with_one_part(self):
        forms = one_part_forms(A)
        self.assertEqual(len(forms), 11)
        for sentence in forms:
            self.assert_parts(sentence, [A, sentence])

    def test_forms_with_two_parts(self):
        forms = two_part_forms(A, B)
        self.assertEqual(len(forms), 4)
        for sentence in forms:
            self.assert_parts(sentence, [A, B, sentence])
        for sentence in two_part_forms(B, A):
            self.assert_parts(sentence, [B, A, sentence])

    def test_each_form_within_each(self):
        for within in one_part_forms(A):
            for sentence in one_part_forms(within):
                self.assert_parts(sentence, [A, within, sentence])
            for sentence in two_part_forms(within, B):
                self.assert_parts(sentence, [A, within, B, sentence])
            for sentence in two_part_forms(B, within):
                self.assert_parts(sentence, [B, A, within, sentence])
        for within in two_part_forms(A, B):
            for sentence in one_part_forms(within):
                self.assert_parts(sentence, [A, B, within, sentence])
            for sentence in two_part_forms(within, A):
                self.assert_parts(sentence, [A, B, within, A, sentence])
            for sentence in two_part_forms(A, within):
                self.assert_parts(sentence, [A, A, B, within, sentence])

    def test_first_with_all_its_parts_before_the_second(self):
        first = ("and", ("not", A), ("mark", 3))
        second = ("until", "all", ("mark", 4), ("next", "some", B))
        parts_of_first = [A, ("not", A), ("mark", 3), first]
        parts_of_second = [("mark", 4), B, ("next", "some", B), second]
        for sentence in two_part_forms(first, second):
            self.assert_parts(sentence, parts_of_first + parts_of_second + [sentence])

    def test_part_that_stands_twice_is_told_twice(self):
        for sentence in two_part_forms(A, A):
            self.assert_parts(sentence, [A, A, sentence])
        part = ("settle", "some", A)
        for sentence in two_part_forms(part, part):
            self.assert_parts(sentence, [A, part, A, part, sentence])
        double = ("or", part, part)
        for sentence in two_part_forms(double, A):
            self.assert_parts(sentence, [A, part, A, part, double, A, sentence])

    def test_hundred_parts_one_within_the_other(self):
        for make in range(11):
            for count in [100, 130]:
                wanted = [A]
                while len(wanted) < count:
                    wanted.append(one_part_forms(wanted[-1])[make])
                self.assert_parts(wanted[-1], wanted)

    def test_hundred_parts_deep_through_two_part_forms(self):
        for make in range(4):
            to_the_left, to_the_right = A, A
            left_parts, right_parts = [A], [A]
            for number in range(49):
                leaf = ("mark", number)
                to_the_left = two_part_forms(to_the_left, leaf)[make]
                left_parts = left_parts + [leaf, to_the_left]
                to_the_right = two_part_forms(leaf, to_the_right)[make]
                right_parts = [leaf] + right_parts + [to_the_right]
            self.assertEqual(len(left_parts), 99)
            self.assert_parts(("not", to_the_left), left_parts + [("not", to_the_left)])
            self.assert_parts(("not", to_the_right), right_parts + [("not", to_the_right)])

    def test_hundred_parts_as_broad_as_can_be(self):
        sentence = ("again", "all", broad([("mark", number) for number in range(50)]))
        told = parts_of(sentence)
        self.assertEqual(len(told), 100)
        marks = [part[1] for part in told if part[0] == "mark"]
        self.assertEqual(marks, list(range(50)))
        self.assert_parts(sentence, told_by_point_7(sentence))

    def test_far_deeper_than_a_recursion_goes(self):
        wanted = [A]
        while len(wanted) < 5000:
            wanted.append(("next", "all", wanted[-1]))
        told = parts_of(wanted[-1])
        self.assertEqual(len(told), 5000)
        self.assertTrue(all(one is other for one, other in zip(told, wanted)))

    def test_each_answer_is_a_list_of_its_own(self):
        sentence = ("and", A, B)
        told = parts_of(sentence)
        told.clear()
        self.assert_parts(sentence, [A, B, sentence])


class Places(unittest.TestCase):
    def assert_places(self, sentence, wanted):
        self.assertEqual(own_places(parts_of(sentence)), wanted)

    def test_mark(self):
        self.assert_places(A, [[]])

    def test_one_part(self):
        for sentence in one_part_forms(A):
            self.assert_places(sentence, [[], [0]])

    def test_two_parts(self):
        for sentence in two_part_forms(A, B):
            self.assert_places(sentence, [[], [], [0, 1]])
        for sentence in two_part_forms(("not", A), ("and", A, B)):
            self.assert_places(sentence, [[], [0], [], [], [2, 3], [1, 4]])

    def test_the_parts_at_the_places_are_the_own_parts(self):
        sentence = ("until", "all", broad([("mark", number) for number in range(20)]), ("again", "some", broad([A] * 9)))
        parts = parts_of(sentence)
        for part, places in zip(parts, own_places(parts)):
            self.assertEqual([parts[place] for place in places], [piece for piece in part if isinstance(piece, tuple)])

    def test_no_place_is_told_twice(self):
        sentence = ("and", ("or", A, A), ("or", A, A))
        told = [place for places in own_places(parts_of(sentence)) for place in places]
        self.assertEqual(sorted(told), list(range(6)))


class AboutWays(unittest.TestCase):
    def test_each_form(self):
        for sentence in [A, ("not", A), ("and", A, B), ("or", A, B), ("not", ("next", "some", A))]:
            self.assertIs(is_about_ways(sentence), False)
        for sentence in one_part_forms(A)[1:] + two_part_forms(A, B)[2:]:
            self.assertIs(is_about_ways(sentence), True)


if __name__ == "__main__":
    unittest.main()
