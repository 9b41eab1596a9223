"""Finding pages by words that stand near one another [10], [11], [12]."""

import itertools
import unittest

from pagenook.day import answers


def found(pages, words, near):
    """What is found in pages, a dict of names and texts."""
    deeds = [("write", name, text) for name, text in pages.items()]
    return answers(deeds + [("find", words, near)])[-1]


def length_of(text, *words):
    """The length with which one page of this text is told, None where it is not found."""
    told = found({"a": text}, words, 10**99)
    return told[0][1] if told else None


class WordsThatAreFound(unittest.TestCase):
    def test_plain_words(self):
        self.assertEqual(length_of("buy milk now", "milk"), 1)
        self.assertEqual(length_of("buy milk now", "bread"), None)
        self.assertEqual(length_of("", "milk"), None)

    def test_sign_by_sign(self):
        for word in ["Milk", "mil", "ilk", "milks", "milk.", "m", "mi.k", "MILK", "milk*", ""]:
            self.assertEqual(length_of("milk", word), None, word)
        for word in ["x", "[]", "[A]", "a[b]", "[a]b", "Q!", "~", "[[a]]", "a]", "[", "09", "-1", "to", "word"]:
            self.assertEqual(length_of(f"pre {word} post", word), 1, word)

    def test_pointers_are_not_found(self):
        self.assertEqual(length_of("[milk]", "milk"), None)
        self.assertEqual(length_of("[milk] milk", "milk"), 1)
        self.assertEqual(length_of("[milk] x y milk", "milk", "x"), 3)

    def test_a_word_written_like_a_pointer_is_found_nowhere(self):
        pages = {"a": "[a] [b] x", "b": "x", "c": "[q] [a]"}
        for word in ["[a]", "[b]", "[q]", "[zz]"]:
            self.assertEqual(found(pages, (word,), 99), [], word)
            self.assertEqual(found(pages, ("x", word), 99), [], word)
            self.assertEqual(found(pages, (word, "x", word), 99), [], word)

    def test_each_of_the_words_must_stand_there(self):
        pages = {"a": "x y", "b": "x", "c": "y z", "d": "z y x"}
        self.assertEqual(found(pages, ("x", "y"), 9), [("a", 2), ("d", 2)])
        self.assertEqual(found(pages, ("x", "y", "z"), 9), [("d", 3)])
        self.assertEqual(found(pages, ("x", "q"), 9), [])
        self.assertEqual(found(pages, ("q",), 9), [])

    def test_a_word_that_stands_twice_among_them_counts_once(self):
        self.assertEqual(length_of("x q y", "x", "x"), 1)
        self.assertEqual(length_of("x q y", "y", "x", "y", "x"), 3)
        self.assertEqual(found({"a": "x y y y", "b": "x x x y y"}, ("x", "x", "x", "y"), 9), [("b", 2), ("a", 2)])
        # Were x counted twice, a would have the more places.
        self.assertEqual(found({"a": "x x x y", "b": "x y y y y"}, ("x", "x", "y"), 9), [("b", 2), ("a", 2)])

    def test_there_may_be_no_pages(self):
        self.assertEqual(answers([("find", ("x",), 5)]), [[]])


class Lengths(unittest.TestCase):
    def test_both_ends_and_all_between_count(self):
        self.assertEqual(length_of("x y", "x", "y"), 2)
        self.assertEqual(length_of("x - - y", "x", "y"), 4)
        self.assertEqual(length_of("- y - x -", "x", "y"), 3)

    def test_the_shortest_stretch_is_told(self):
        self.assertEqual(length_of("x - - y - x - - - y", "x", "y"), 3)
        self.assertEqual(length_of("x y - - - z x - y z", "x", "y", "z"), 4)
        self.assertEqual(length_of("x x x y", "x", "y"), 2)

    def test_pointers_are_places(self):
        self.assertEqual(length_of("x [a] y", "x", "y"), 3)
        self.assertEqual(length_of("x [a] [b] [zz] y", "x", "y"), 5)
        self.assertEqual(length_of("[a] x y [a]", "x", "y"), 2)

    def test_blanks_are_no_places(self):
        self.assertEqual(length_of("   x      y  ", "x", "y"), 2)

    def test_in_joined_and_cut_pages(self):
        deeds = [("write", "a", "x - y"), ("write", "b", "z x"), ("join", "a", "b"), ("find", ("y", "z"), 9)]
        self.assertEqual(answers(deeds)[-1], [("a", 2)])
        deeds = [("write", "a", "x - y x"), ("cut", "a", 2, "b"), ("find", ("x", "y"), 9), ("find", ("x",), 9)]
        self.assertEqual(answers(deeds)[2:], [[("b", 2)], [("a", 1), ("b", 1)]])

    def test_the_pointer_of_a_cut_is_a_place(self):
        deeds = [("write", "a", "x y"), ("write", "b", "z"), ("cut", "a", 1, "c"), ("join", "a", "b")]
        self.assertEqual(answers(deeds + [("find", ("x", "z"), 9)])[-1], [("a", 3)])

    def test_in_pages_written_anew_renamed_and_dropped(self):
        deeds = [("write", "a", "x y"), ("write", "b", "x - y"), ("write", "c", "y x"), ("write", "a", "x - - y")]
        deeds += [("rename", "b", "d"), ("drop", "c"), ("find", ("x", "y"), 9)]
        self.assertEqual(answers(deeds)[-1], [("d", 3), ("a", 4)])


class Near(unittest.TestCase):
    PAGES = {"a": "x - y", "b": "x y", "c": "x - - y"}

    def test_just_the_length_and_one_less(self):
        self.assertEqual(found(self.PAGES, ("x", "y"), 4), [("b", 2), ("a", 3), ("c", 4)])
        self.assertEqual(found(self.PAGES, ("x", "y"), 3), [("b", 2), ("a", 3)])
        self.assertEqual(found(self.PAGES, ("x", "y"), 2), [("b", 2)])
        self.assertEqual(found(self.PAGES, ("x", "y"), 1), [])

    def test_one_word(self):
        self.assertEqual(found(self.PAGES, ("x",), 1), [("a", 1), ("b", 1), ("c", 1)])
        self.assertEqual(found(self.PAGES, ("x",), 0), [])

    def test_nought_and_below(self):
        for near in [0, -1, -5, -(10**99)]:
            self.assertEqual(found(self.PAGES, ("x", "y"), near), [])
            self.assertEqual(found(self.PAGES, ("y",), near), [])

    def test_very_great(self):
        for near in [10**99, 10**100 - 1, 10**130]:
            self.assertEqual(found(self.PAGES, ("x", "y"), near), [("b", 2), ("a", 3), ("c", 4)])
            self.assertEqual(found(self.PAGES, ("x", "q"), near), [])


class OrderOfThePages(unittest.TestCase):
    def test_the_least_length_first(self):
        pages = {"a": "x - - - y", "b": "x - y", "c": "x y", "d": "x - - y", "e": "y x"}
        told = [("c", 2), ("e", 2), ("b", 3), ("d", 4), ("a", 5)]
        self.assertEqual(found(pages, ("x", "y"), 9), told)

    def test_the_length_goes_ahead_of_the_places(self):
        pages = {"a": "x - y x x y y", "b": "x - y x x x - - x", "c": "- x y -"}
        self.assertEqual(found(pages, ("x", "y"), 9), [("a", 2), ("b", 2), ("c", 2)])
        pages = {"a": "x - y - x - y - x - y", "b": "y x"}
        self.assertEqual(found(pages, ("x", "y"), 9), [("b", 2), ("a", 3)])

    def test_of_one_length_that_with_more_places(self):
        pages = {"a": "x y", "b": "x y - x", "c": "x y - - - y y"}
        self.assertEqual(found(pages, ("x", "y"), 9), [("c", 2), ("b", 2), ("a", 2)])

    def test_places_outside_the_stretch_count_too(self):
        pages = {"a": "x y", "b": "x y" + " -" * 20 + " x"}
        self.assertEqual(found(pages, ("x", "y"), 2), [("b", 2), ("a", 2)])

    def test_only_places_with_one_of_the_words_count(self):
        pages = {"a": "x y x", "b": "x y - - [x] [y] z z z X xy"}
        self.assertEqual(found(pages, ("x", "y"), 9), [("a", 2), ("b", 2)])
        pages = {"a": "x y - -", "b": "[x] x y [x]", "c": "z x y z"}
        self.assertEqual(found(pages, ("x", "y"), 9), [("a", 2), ("b", 2), ("c", 2)])

    def test_of_as_many_places_in_the_order_of_names(self):
        for names in itertools.permutations(["a", "aa", "b", "ab"]):
            pages = {name: "x - y x" for name in names}
            self.assertEqual(found(pages, ("y", "x"), 9), [(name, 2) for name in ["a", "aa", "ab", "b"]])

    def test_the_order_of_the_words_does_not_count(self):
        pages = {"a": "x y z", "b": "z - x y y", "c": "y z - x x", "d": "x z"}
        told = found(pages, ("x", "y", "z"), 9)
        self.assertEqual(told, [("a", 3), ("b", 4), ("c", 4)])
        for words in itertools.permutations(["x", "y", "z"]):
            self.assertEqual(found(pages, words, 9), told)


if __name__ == "__main__":
    unittest.main()
