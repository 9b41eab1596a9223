"""How texts are told [2], what names and pointers are [3], and the order of names [9]."""

import unittest

from pagenook.day import answers, pointers, texts

NO_NAMES = ["", " ", "A", "aB", "Ba", "a1", "1", "a b", " a", "a ", "[a]", "[", "]", "a-b", "a_b", ".", "~", "`", "{"]


def told(text):
    return answers([("write", "page", text), ("text", "page")])[1]


class HowATextIsTold(unittest.TestCase):
    def test_without_words_it_is_the_empty_text(self):
        for text in ["", " ", " " * 70]:
            self.assertEqual(told(text), "")
            self.assertEqual(texts([("write", "page", text)]), [("page", "")])
            self.assertEqual(answers([("write", "page", text)]), [0])

    def test_how_many_blanks_does_not_count(self):
        for text in ["see [milk] now", "  see [milk] now", "see [milk] now   ", "  see     [milk]  now "]:
            self.assertEqual(told(text), "see [milk] now")
            self.assertEqual(texts([("write", "page", text)]), [("page", "see [milk] now")])

    def test_words_are_told_sign_by_sign(self):
        words = ["[]", "[A]", "a[b]", "[a]b", "[[a]]", "[a", "a]", "][", "!#$&'()*+,-./", "09:;<=>?@AZ", "^_`az{|}~"]
        for word in words:
            self.assertEqual(told(word), word)
        self.assertEqual(told("  ".join(words)), " ".join(words))

    def test_a_joined_text_has_one_blank_between_any_two_words(self):
        deeds = [("write", "a", " x  y "), ("write", "b", "  z [c] "), ("write", "c", "  "), ("join", "a", "b")]
        self.assertEqual(answers(deeds + [("text", "a")])[-1], "x y z [c]")
        self.assertEqual(answers(deeds + [("join", "c", "a"), ("text", "c")])[-1], "x y z [c]")
        self.assertEqual(answers(deeds + [("join", "a", "c"), ("text", "a")])[-1], "x y z [a]")

    def test_two_pages_without_words_joined(self):
        deeds = [("write", "a", ""), ("write", "b", "  "), ("join", "a", "b"), ("text", "a")]
        self.assertEqual(answers(deeds), [0, 0, 0, ""])

    def test_a_cut_text_has_one_blank_between_any_two_words(self):
        deeds = [("write", "a", "  x   y  z "), ("cut", "a", 1, "b")]
        self.assertEqual(texts(deeds), [("a", "x [b]"), ("b", "y z")])


class NamesAndPointers(unittest.TestCase):
    def test_names(self):
        for name in ["a", "z", "az", "zzz", "abcdefghijklmnopqrstuvwxyz"]:
            deeds = [("write", name, "x"), ("write", "other", f"[{name}]")]
            self.assertEqual(answers(deeds), [1, 1])
            self.assertEqual(pointers(deeds), [("other", name, True)])

    def test_what_is_no_name_is_no_page(self):
        for word in NO_NAMES:
            self.assertEqual(answers([("write", word, "x")]), ["no name"], word)
            self.assertEqual(texts([("write", word, "x")]), [], word)

    def test_words_that_look_nearly_like_pointers(self):
        start = [("write", "a", ""), ("write", "b", ""), ("write", "ab", "")]
        text = "[] [A] a[b] [a]b [[a]] [a]] [[a] [a][b] [a,b] (a) a [a1] [a b] [ab]. [aB]"
        self.assertEqual(pointers(start + [("write", "c", text)]), [])
        self.assertEqual(pointers(start + [("write", "c", text + " [b]")]), [("c", "b", True)])

    def test_such_words_are_left_as_they_are_by_a_rename(self):
        deeds = [("write", "a", ""), ("write", "c", "a [a] [a]b b[a] [a]. [[a]]"), ("rename", "a", "z"), ("text", "c")]
        self.assertEqual(answers(deeds)[2:], [1, "a [z] [a]b b[a] [a]. [[a]]"])


class OrderOfNames(unittest.TestCase):
    NAMES = ["b", "ab", "a", "ba", "aa", "z", "az", "aaa", "bz"]
    ORDER = ["a", "aa", "aaa", "ab", "az", "b", "ba", "bz", "z"]

    def test_texts(self):
        deeds = [("write", name, f"is {name}") for name in self.NAMES]
        self.assertEqual(texts(deeds), [(name, f"is {name}") for name in self.ORDER])

    def test_pointers(self):
        deeds = [("write", name, "[z] [q] [a]") for name in self.NAMES]
        expected = []
        for name in self.ORDER:
            expected += [(name, "z", True), (name, "q", False), (name, "a", True)]
        self.assertEqual(pointers(deeds), expected)

    def test_back(self):
        deeds = [("write", name, "[q] [z]") for name in self.NAMES]
        for name in ["q", "z"]:
            self.assertEqual(answers(deeds + [("back", name)])[-1], self.ORDER)

    def test_find(self):
        deeds = [("write", name, "word") for name in self.NAMES]
        self.assertEqual(answers(deeds + [("find", ("word",), 1)])[-1], [(name, 1) for name in self.ORDER])

    def test_a_renamed_page_stands_where_its_name_says(self):
        deeds = [("write", "a", "[x]"), ("write", "b", "[x]"), ("rename", "a", "c")]
        self.assertEqual(texts(deeds), [("b", "[x]"), ("c", "[x]")])
        self.assertEqual(pointers(deeds), [("b", "x", False), ("c", "x", False)])
        self.assertEqual(answers(deeds + [("back", "x")])[-1], ["b", "c"])


if __name__ == "__main__":
    unittest.main()
