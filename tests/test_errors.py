import unittest

from waysaid.errors import NoDoor, NoState, NoWay, WayError

REFUSALS = [NoDoor, NoState, NoWay]


class Errors(unittest.TestCase):
    def test_way_error_stands_under_value_error(self):
        self.assertEqual(WayError.__bases__, (ValueError,))

    def test_each_refusal_stands_under_way_error(self):
        for refusal in REFUSALS:
            self.assertEqual(refusal.__bases__, (WayError,))

    def test_names(self):
        names = [refusal.__name__ for refusal in REFUSALS + [WayError]]
        self.assertEqual(names, ["NoDoor", "NoState", "NoWay", "WayError"])

    def test_raised_with_words_of_its_own(self):
        for refusal in REFUSALS + [WayError]:
            with self.assertRaises(WayError) as caught:
                raise refusal("some words")
            self.assertIs(type(caught.exception), refusal)
            self.assertEqual(str(caught.exception), "some words")


if __name__ == "__main__":
    unittest.main()
