"""Each deed and its answer [7]."""

import unittest

from pagenook.day import answers, pointers, texts


class Write(unittest.TestCase):
    def test_answered_with_how_many_words(self):
        for text, number in [("", 0), ("   ", 0), ("x", 1), (" x  [y] ", 2), ("[a] [a] [b] [] z", 5)]:
            self.assertEqual(answers([("write", "a", text)]), [number])

    def test_the_page_is_made(self):
        self.assertEqual(texts([]), [])
        self.assertEqual(texts([("write", "a", "x y")]), [("a", "x y")])

    def test_the_page_has_the_later_text(self):
        deeds = [("write", "a", "x y z"), ("write", "b", "other"), ("write", "a", "new")]
        self.assertEqual(answers(deeds), [3, 1, 1])
        self.assertEqual(texts(deeds), [("a", "new"), ("b", "other")])

    def test_written_empty_the_page_is_still_there(self):
        deeds = [("write", "a", "x"), ("write", "b", "[a]"), ("write", "a", "")]
        self.assertEqual(texts(deeds), [("a", ""), ("b", "[a]")])
        self.assertEqual(pointers(deeds), [("b", "a", True)])


class Rename(unittest.TestCase):
    def test_answered_with_how_many_pointers_lead_to_it_then(self):
        deeds = [("write", "a", "[a] x"), ("write", "b", "[a] [b] [a]"), ("write", "c", "[z]")]
        self.assertEqual(answers(deeds + [("rename", "a", "q")])[-1], 3)
        self.assertEqual(answers(deeds + [("rename", "b", "q")])[-1], 1)
        self.assertEqual(answers(deeds + [("rename", "c", "q")])[-1], 0)
        self.assertEqual(answers(deeds + [("rename", "a", "z")])[-1], 4)
        self.assertEqual(answers(deeds + [("rename", "c", "z")])[-1], 1)

    def test_the_page_keeps_its_text(self):
        deeds = [("write", "a", "x y [b]"), ("rename", "a", "c")]
        self.assertEqual(texts(deeds), [("c", "x y [b]")])
        self.assertEqual(answers(deeds + [("text", "a"), ("text", "c")])[2:], ["no page", "x y [b]"])

    def test_the_earlier_name_is_free(self):
        deeds = [("write", "a", "x"), ("rename", "a", "b"), ("write", "a", "y z"), ("rename", "a", "c")]
        self.assertEqual(answers(deeds), [1, 0, 2, 0])
        self.assertEqual(texts(deeds), [("b", "x"), ("c", "y z")])


class Join(unittest.TestCase):
    def test_the_text_of_the_other_is_put_behind(self):
        deeds = [("write", "a", "x y"), ("write", "b", "z"), ("join", "a", "b")]
        self.assertEqual(texts(deeds), [("a", "x y z")])
        deeds = [("write", "a", "x y"), ("write", "b", "z"), ("join", "b", "a")]
        self.assertEqual(texts(deeds), [("b", "z x y")])

    def test_answered_with_how_many_pointers_lead_to_the_page_that_is_left(self):
        deeds = [("write", "a", "[b] [c]"), ("write", "b", "[a] [b]"), ("write", "c", "[a] [b] [c]")]
        self.assertEqual(answers(deeds + [("join", "a", "b")])[-1], 5)
        self.assertEqual(answers(deeds + [("join", "c", "a")])[-1], 4)
        self.assertEqual(answers([("write", "a", "x"), ("write", "b", "y"), ("join", "a", "b")])[-1], 0)

    def test_the_other_goes(self):
        deeds = [("write", "a", "x"), ("write", "b", "y"), ("join", "a", "b"), ("text", "b"), ("join", "a", "b")]
        self.assertEqual(answers(deeds), [1, 1, 0, "no page", "no page"])


class Cut(unittest.TestCase):
    START = [("write", "a", "one [q] three")]

    def cut(self, place):
        deeds = self.START + [("cut", "a", place, "b")]
        return answers(deeds)[-1], texts(deeds)

    def test_at_nought(self):
        self.assertEqual(self.cut(0), (3, [("a", "[b]"), ("b", "one [q] three")]))

    def test_within(self):
        self.assertEqual(self.cut(1), (2, [("a", "one [b]"), ("b", "[q] three")]))
        self.assertEqual(self.cut(2), (1, [("a", "one [q] [b]"), ("b", "three")]))

    def test_at_the_number_of_words(self):
        self.assertEqual(self.cut(3), (0, [("a", "one [q] three [b]"), ("b", "")]))

    def test_below_nought_and_beyond(self):
        for place in [-1, -2, -3, -4, 4, 5, 10**99, -(10**99)]:
            self.assertEqual(self.cut(place), ("no place", [("a", "one [q] three")]))

    def test_a_page_without_words(self):
        deeds = [("write", "a", "  "), ("cut", "a", 0, "b")]
        self.assertEqual(answers(deeds), [0, 0])
        self.assertEqual(texts(deeds), [("a", "[b]"), ("b", "")])
        for place in [-1, 1]:
            self.assertEqual(answers([("write", "a", ""), ("cut", "a", place, "b")]), [0, "no place"])

    def test_the_pointer_is_a_word_of_what_is_left(self):
        deeds = self.START + [("cut", "a", 1, "b"), ("cut", "a", 3, "c"), ("cut", "a", 2, "c"), ("cut", "a", 1, "d")]
        self.assertEqual(answers(deeds), [3, 2, "no place", 0, 2])
        self.assertEqual(texts(deeds), [("a", "one [d]"), ("b", "[q] three"), ("c", ""), ("d", "[b] [c]")])


class Drop(unittest.TestCase):
    def test_answered_with_how_many_pointers_led_to_it(self):
        deeds = [("write", "a", "[a] [a] [b]"), ("write", "b", "[a] [c]"), ("write", "d", "x")]
        self.assertEqual(answers(deeds + [("drop", "a")])[-1], 3)
        self.assertEqual(answers(deeds + [("drop", "b")])[-1], 1)
        self.assertEqual(answers(deeds + [("drop", "d")])[-1], 0)

    def test_the_page_goes(self):
        deeds = [("write", "a", "x"), ("write", "b", "y"), ("drop", "a")]
        self.assertEqual(texts(deeds), [("b", "y")])
        self.assertEqual(answers(deeds + [("text", "a"), ("drop", "a")])[3:], ["no page", "no page"])

    def test_made_anew_it_has_the_new_text_alone(self):
        deeds = [("write", "a", "x [a]"), ("drop", "a"), ("write", "a", "y"), ("text", "a"), ("drop", "a")]
        self.assertEqual(answers(deeds), [2, 1, 1, "y", 0])


class Text(unittest.TestCase):
    def test_answered_with_the_text(self):
        deeds = [("write", "a", " x   [b]  "), ("write", "b", ""), ("text", "a"), ("text", "b")]
        self.assertEqual(answers(deeds)[2:], ["x [b]", ""])

    def test_pointers_are_told_with_the_names_of_then(self):
        deeds = [
            ("write", "b", ""), ("write", "a", "x [b] [b]"), ("text", "a"), ("rename", "b", "c"), ("text", "a"),
            ("drop", "c"), ("text", "a"), ("write", "d", ""), ("rename", "d", "c"), ("rename", "c", "e"), ("text", "a"),
        ]
        told = [answer for answer in answers(deeds) if isinstance(answer, str)]
        self.assertEqual(told, ["x [b] [b]", "x [c] [c]", "x [c] [c]", "x [e] [e]"])


class Back(unittest.TestCase):
    START = [
        ("write", "d", "[b] x [b]"), ("write", "c", "[a] [q]"),
        ("write", "b", "[b] [q] [q]"), ("write", "a", "b q [B]"),
    ]

    def back(self, name, *more):
        return answers(self.START + list(more) + [("back", name)])[-1]

    def test_a_name_with_a_page(self):
        self.assertEqual(self.back("b"), ["b", "d"])
        self.assertEqual(self.back("a"), ["c"])

    def test_a_name_without_a_page(self):
        self.assertEqual(self.back("q"), ["b", "c"])

    def test_a_name_that_no_pointer_has(self):
        self.assertEqual(self.back("c"), [])
        self.assertEqual(self.back("zz"), [])
        self.assertEqual(answers([("back", "a")]), [[]])

    def test_what_is_no_name(self):
        for word in ["", " ", "B", "[b]", "[q]", "x", "1", "b "]:
            self.assertEqual(self.back(word), [], word)

    def test_behind_a_rename(self):
        rename = ("rename", "b", "e")
        self.assertEqual(self.back("b", rename), [])
        self.assertEqual(self.back("e", rename), ["d", "e"])
        self.assertEqual(self.back("q", ("rename", "a", "q")), ["b", "c"])
        self.assertEqual(self.back("q", ("rename", "b", "q")), ["c", "d", "q"])

    def test_behind_a_drop(self):
        self.assertEqual(self.back("b", ("drop", "b")), ["d"])
        self.assertEqual(self.back("b", ("drop", "d")), ["b"])

    def test_behind_a_join(self):
        join = ("join", "a", "b")
        self.assertEqual(self.back("b", join), [])
        self.assertEqual(self.back("a", join), ["a", "c", "d"])
        self.assertEqual(self.back("q", join), ["a", "c"])

    def test_behind_a_cut(self):
        cut = ("cut", "b", 1, "e")
        self.assertEqual(self.back("b", cut), ["b", "d"])
        self.assertEqual(self.back("e", cut), ["b"])
        self.assertEqual(self.back("q", cut), ["c", "e"])

    def test_behind_a_text_written_anew(self):
        self.assertEqual(self.back("b", ("write", "d", "no more")), ["b"])


class Asking(unittest.TestCase):
    def test_changes_nothing(self):
        start = [("write", "a", "x [b]"), ("write", "b", "y [a] [q]")]
        rest = [("rename", "a", "c"), ("text", "b"), ("back", "c"), ("drop", "b"), ("text", "c")]
        asked = [
            ("text", "a"), ("text", "zz"), ("back", "q"), ("back", "a"), ("back", "E"),
            ("find", ("x", "y"), 5), ("find", ("x",), 1), ("find", (), 5),
        ]
        without = answers(start + rest)[len(start):]
        for ask in asked:
            self.assertEqual(texts(start + [ask]), texts(start))
            self.assertEqual(pointers(start + [ask]), pointers(start))
            self.assertEqual(answers(start + [ask] + rest)[len(start) + 1:], without)
        self.assertEqual(answers(start + asked + rest)[len(start) + len(asked):], without)

    def test_asked_twice_the_answer_is_the_same(self):
        start = [("write", "a", "x [b]"), ("write", "b", "y [a] [q]")]
        for ask in [("text", "a"), ("back", "q"), ("find", ("x",), 1)]:
            told = answers(start + [ask, ask])[2:]
            self.assertEqual(told[0], told[1])


if __name__ == "__main__":
    unittest.main()
