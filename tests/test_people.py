import unittest

from jointhold.errors import BadGroup, BadNames
from jointhold.people import CROWN, HOLDERS_MOST, LETTERS_MOST, PERSONS_MOST, checked_names, group_of
from tests.made import ALPHABET, many_names


class ConstantsTest(unittest.TestCase):
    def test_constants(self):
        self.assertEqual(CROWN, "CROWN")
        self.assertEqual(PERSONS_MOST, 30)
        self.assertEqual(LETTERS_MOST, 12)
        self.assertEqual(HOLDERS_MOST, 6)


class CheckedNamesTest(unittest.TestCase):
    def check_names(self, names, awaited):
        for handed in (list(names), tuple(names)):
            answer = checked_names(handed)
            self.assertIs(type(answer), tuple)
            self.assertEqual(answer, awaited)

    def check_refused(self, names):
        for handed in (list(names), tuple(names)):
            with self.subTest(names=handed):
                with self.assertRaises(BadNames):
                    checked_names(handed)

    def test_one_name(self):
        self.check_names(["ann"], ("ann",))
        self.check_names(["a"], ("a",))
        self.check_names(["z"], ("z",))

    def test_any_order_is_told_rising(self):
        for names in (["ann", "bob", "cat"], ["cat", "bob", "ann"], ["bob", "cat", "ann"]):
            self.check_names(names, ("ann", "bob", "cat"))

    def test_thirty_names_in_any_order(self):
        rising = many_names(30)
        self.check_names(rising, tuple(rising))
        self.check_names(rising[::-1], tuple(rising))
        self.check_names(rising[17:] + rising[:17], tuple(rising))
        self.check_names(rising[1::2] + rising[::2], tuple(rising))

    def test_a_name_goes_ahead_of_a_longer_one_that_begins_with_it(self):
        self.check_names(["anna", "ann", "an", "annb", "b", "a"], ("a", "an", "ann", "anna", "annb", "b"))
        self.check_names(["b", "az", "aaaaaaaaaaaa"], ("aaaaaaaaaaaa", "az", "b"))

    def test_each_letter_and_twelve_letters(self):
        self.check_names([ALPHABET[:12], ALPHABET[12:24], ALPHABET[14:]], (ALPHABET[:12], ALPHABET[12:24], ALPHABET[14:]))
        for letter in ALPHABET:
            self.check_names([letter], (letter,))
            self.check_names([letter * 12], (letter * 12,))

    def test_no_name_is_refused(self):
        self.check_refused([])

    def test_too_many_names_are_refused(self):
        self.check_refused(many_names(31))
        self.check_refused(many_names(40))

    def test_a_name_twice_is_refused(self):
        self.check_refused(["ann", "ann"])
        self.check_refused(["ann", "bob", "ann"])
        self.check_refused(["bob", "ann", "cat", "ann"])
        self.check_refused(many_names(29) + ["naa"])

    def test_a_name_of_a_wrong_length_is_refused(self):
        self.check_refused([""])
        self.check_refused(["ann", ""])
        self.check_refused(["", "ann", "bob"])
        self.check_refused(["a" * 13])
        self.check_refused(["ann", "a" * 13, "bob"])
        self.check_refused(["a" * 20])

    def test_a_wrong_sign_is_refused_at_each_place(self):
        # The signs just beside a and z, and just beside A and Z, are among these.
        for sign in "`{@[AZ09 ~_-'\n\u00e4\u00df":
            for name in (sign, sign + "nn", "a" + sign + "n", "an" + sign, "a" * 11 + sign):
                self.check_refused([name])

    def test_a_wrong_name_is_refused_at_each_place_of_the_list(self):
        self.check_refused(["Ann", "bob", "cat"])
        self.check_refused(["bob", "Ann", "cat"])
        self.check_refused(["bob", "cat", "Ann"])

    def test_crown_is_refused(self):
        self.check_refused([CROWN])
        self.check_refused(["ann", CROWN])

    def test_what_was_handed_in_stays(self):
        names = ["cat", "ann", "bob"]
        answer = checked_names(names)
        self.assertEqual(names, ["cat", "ann", "bob"])
        names.append("dan")
        self.assertEqual(answer, ("ann", "bob", "cat"))

    def test_what_was_handed_in_stays_where_it_is_refused(self):
        names = ["cat", "ann", "Bob"]
        self.check_refused(names)
        with self.assertRaises(BadNames):
            checked_names(names)
        self.assertEqual(names, ["cat", "ann", "Bob"])


class GroupTest(unittest.TestCase):
    def check_group(self, names, least, most, awaited):
        for handed in (list(names), tuple(names)):
            answer = group_of(handed, least, most)
            self.assertIs(type(answer), tuple)
            self.assertEqual(answer, awaited)

    def check_refused(self, names, least, most):
        for handed in (list(names), tuple(names)):
            with self.subTest(names=handed, least=least, most=most):
                with self.assertRaises(BadGroup):
                    group_of(handed, least, most)

    def test_any_order_is_told_rising(self):
        for names in (["ann", "bob", "cat"], ["cat", "bob", "ann"], ["bob", "cat", "ann"]):
            self.check_group(names, 1, 6, ("ann", "bob", "cat"))

    def test_just_least_and_just_most(self):
        for least, most in ((1, 6), (2, 4), (3, 3), (1, 30), (40, 40), (0, 40)):
            for count in (least, most):
                names = many_names(count)
                self.check_group(names[::-1], least, most, tuple(names))

    def test_one_fewer_and_one_more(self):
        for least, most in ((1, 6), (2, 4), (3, 3), (1, 30), (5, 39)):
            self.check_refused(many_names(least - 1), least, most)
            self.check_refused(many_names(most + 1), least, most)
        self.check_refused(many_names(40), 1, 6)

    def test_no_names(self):
        self.check_group([], 0, 6, ())
        self.check_group([], 0, 0, ())
        self.check_refused([], 1, 6)
        self.check_refused(["ann"], 0, 0)

    def test_a_name_twice_is_refused(self):
        self.check_refused(["ann", "ann"], 1, 6)
        self.check_refused(["ann", "bob", "ann"], 0, 6)
        self.check_refused(["bob", "ann", "cat", "ann"], 1, 6)
        self.check_refused(["", ""], 1, 6)
        self.check_refused([CROWN, "ann", CROWN], 1, 6)
        self.check_refused(many_names(39) + ["naa"], 0, 40)

    def test_a_name_twice_counts_twice(self):
        self.check_refused(["ann", "ann"], 1, 1)
        self.check_refused(["ann", "ann"], 2, 2)

    def test_any_texts_in_the_order_of_texts(self):
        rising = ("", " ", " ann", "1", "10", "2", "Ann", "CROWN", "a b", "ann", "anna", "z" * 20, "~")
        self.check_group(rising, 0, 40, rising)
        self.check_group(rising[::-1], 0, 40, rising)

    def test_texts_that_differ_in_great_and_small_letters_are_two(self):
        self.check_group(["ann", "Ann", "ann "], 1, 6, ("Ann", "ann", "ann "))

    def test_what_was_handed_in_stays(self):
        names = ["cat", "ann", "bob"]
        answer = group_of(names, 1, 6)
        self.assertEqual(names, ["cat", "ann", "bob"])
        names.append("dan")
        self.assertEqual(answer, ("ann", "bob", "cat"))

    def test_what_was_handed_in_stays_where_it_is_refused(self):
        names = ["cat", "ann", "cat"]
        with self.assertRaises(BadGroup):
            group_of(names, 1, 6)
        self.assertEqual(names, ["cat", "ann", "cat"])


if __name__ == "__main__":
    unittest.main()
