"""What the words of a text are [2], and which of them are pointers [3]."""

import itertools
import re
import string
import unittest

from pagenook.words import split_up

SIGNS = [chr(code) for code in range(ord(" "), ord("~") + 1) if chr(code) not in '%"\\']


def plain(*words):
    return [("word", word) for word in words]


class WordsOfAText(unittest.TestCase):
    def test_texts_without_words(self):
        for text in ["", " ", "  ", " " * 200]:
            self.assertEqual(split_up(text), [])

    def test_words_in_their_order(self):
        self.assertEqual(split_up("milk"), plain("milk"))
        self.assertEqual(split_up("buy milk and buy bread"), plain("buy", "milk", "and", "buy", "bread"))

    def test_how_many_blanks_does_not_count(self):
        told = split_up("see [milk] now")
        self.assertEqual(told, [("word", "see"), ("to", "milk"), ("word", "now")])
        for text in [" see [milk] now", "see [milk] now ", "see   [milk]  now", "    see [milk]     now   "]:
            self.assertEqual(split_up(text), told)

    def test_only_blanks_part_words(self):
        for sign in SIGNS:
            if sign != " ":
                self.assertEqual(split_up(f"x{sign}y"), plain(f"x{sign}y"))

    def test_many_more_words_than_thirty(self):
        for number in [30, 31, 60, 5000]:
            text = " ".join(["[a] b"] * number)
            self.assertEqual(split_up(text), [("to", "a"), ("word", "b")] * number)

    def test_long_words(self):
        for length in [40, 41, 3000]:
            self.assertEqual(split_up("Q" * length), plain("Q" * length))

    def test_kinds_of_the_answer(self):
        for text in ["", "a", "[a]", " [a] A 7 [b]c "]:
            told = split_up(text)
            self.assertIs(type(told), list)
            for item in told:
                self.assertIs(type(item), tuple)
                self.assertEqual([type(part) for part in item], [str, str])

    def test_each_answer_is_a_list_of_its_own(self):
        first = split_up("a [b]")
        first.append("more")
        self.assertEqual(split_up("a [b]"), [("word", "a"), ("to", "b")])


class Pointers(unittest.TestCase):
    def test_pointers(self):
        for name in ["a", "z", "m", "aa", "az", "zed", string.ascii_lowercase]:
            self.assertEqual(split_up(f"[{name}]"), [("to", name)])

    def test_pointers_with_long_names(self):
        for length in [39, 40, 41, 80, 1000]:
            name = "qz" * (length // 2) + "a" * (length % 2)
            self.assertEqual(split_up(f"x [{name}]"), [("word", "x"), ("to", name)])

    def test_the_same_pointer_again(self):
        self.assertEqual(split_up("[a] [b] [a]"), [("to", "a"), ("to", "b"), ("to", "a")])

    def test_a_name_alone_is_a_plain_word(self):
        self.assertEqual(split_up("a zed"), plain("a", "zed"))


class PlainWords(unittest.TestCase):
    def test_those_that_the_document_names(self):
        for word in ["[]", "[A]", "a[b]", "[a]b"]:
            self.assertEqual(split_up(word), plain(word))
            self.assertEqual(split_up(f"x {word} [y]"), [("word", "x"), ("word", word), ("to", "y")])

    def test_their_like(self):
        for word in [
            "[", "]", "][", "[[", "]]", "[a", "a]", "[[a]]", "[[a]", "[a]]", "[a][b]", "[]a", "]a[", "[a1]",
            "[1a]", "[1]", "[aB]", "[Ba]", "[a-b]", "[a_b]", "[a.b]", "[a,b]", "(a)", "{a}", "<a>", "[a)", "(a]",
            "[a],", ",[a]", "[a]b]", "[a[b]",
        ]:
            self.assertEqual(split_up(word), plain(word), word)

    def test_brackets_do_not_hold_blanks_together(self):
        self.assertEqual(split_up("[a, a]"), plain("[a,", "a]"))
        self.assertEqual(split_up("[a b]"), plain("[a", "b]"))
        self.assertEqual(split_up("[ a ]"), plain("[", "a", "]"))
        self.assertEqual(split_up("[a ]"), plain("[a", "]"))

    def test_each_sign_alone_and_within_brackets(self):
        for sign in SIGNS:
            if sign == " ":
                continue
            self.assertEqual(split_up(sign), plain(sign))
            is_letter = sign in string.ascii_lowercase
            for inner in [sign, f"{sign}b", f"b{sign}", f"b{sign}c"]:
                kind = ("to", inner) if is_letter else ("word", f"[{inner}]")
                self.assertEqual(split_up(f"[{inner}]"), [kind])

    def test_a_word_of_all_signs(self):
        word = "".join(SIGNS).replace(" ", "")
        self.assertEqual(split_up(f" {word} "), plain(word))
        self.assertEqual(split_up(f"[{word}]"), plain(f"[{word}]"))

    def test_every_short_text_of_some_signs(self):
        def told_by_pattern(text):
            told = []
            for word in re.findall("[^ ]+", text):
                match = re.fullmatch(r"\[([a-z]+)\]", word)
                told.append(("to", match.group(1)) if match else ("word", word))
            return told

        for length in range(7):
            for signs in itertools.product(" [a]A", repeat=length):
                text = "".join(signs)
                self.assertEqual(split_up(text), told_by_pattern(text), text)


if __name__ == "__main__":
    unittest.main()
