"""The refusals, their texts and their order, and that they change nothing [8]."""

import unittest

from pagenook.day import answers, pointers, texts

START = [("write", "a", "x [b] y"), ("write", "b", "[a] [q]"), ("write", "c", "")]

NO_PAGE = [
    ("rename", "zz", "d"), ("join", "zz", "a"), ("join", "a", "zz"), ("cut", "zz", 0, "d"), ("drop", "zz"),
    ("text", "zz"), ("text", ""), ("text", "A"), ("text", "[a]"), ("drop", "q"), ("drop", "a "), ("join", "q", "A"),
]
NO_NAME = [
    ("write", "", "x"), ("write", "A", "x"), ("write", "[a]", "x"), ("write", "a ", "x"), ("write", "a1", ""),
    ("rename", "a", ""), ("rename", "a", "A"), ("rename", "a", "[d]"), ("rename", "c", "d e"),
    ("cut", "a", 0, ""), ("cut", "a", 1, "aB"), ("cut", "c", 0, "[d]"), ("cut", "a", 3, "d."),
]
SAME_PAGE = [("join", "a", "a"), ("join", "c", "c")]
TAKEN = [
    ("rename", "a", "b"), ("rename", "a", "a"), ("rename", "c", "c"), ("cut", "a", 0, "b"), ("cut", "a", 3, "a"),
    ("cut", "c", 0, "c"),
]
NO_PLACE = [
    ("cut", "a", -1, "d"), ("cut", "a", 4, "d"), ("cut", "c", 1, "d"), ("cut", "c", -1, "q"), ("cut", "b", 3, "q"),
    ("cut", "a", -3, "d"), ("cut", "a", 10**99, "d"), ("cut", "a", -(10**99), "d"),
]
NO_WORDS = [("find", (), 5), ("find", (), 0), ("find", (), -1), ("find", (), 10**99)]
ALONE = [
    ("no page", NO_PAGE), ("no name", NO_NAME), ("same page", SAME_PAGE), ("taken", TAKEN), ("no place", NO_PLACE),
    ("no words", NO_WORDS),
]

SEVERAL = [
    ("no page", [
        ("rename", "zz", "A"), ("rename", "zz", ""), ("rename", "zz", "a"), ("rename", "zz", "zz"),
        ("rename", "A", "A"),
        ("join", "zz", "zz"), ("join", "A", "A"), ("join", "zz", "yy"),
        ("cut", "zz", 0, "A"), ("cut", "zz", 0, "a"), ("cut", "zz", -1, "d"), ("cut", "zz", 1, "d"),
        ("cut", "zz", -1, "A"), ("cut", "zz", 9, "a"), ("cut", "zz", 0, "zz"),
    ]),
    ("no name", [("cut", "a", -1, "A"), ("cut", "a", 4, ""), ("cut", "c", 1, "[a]")]),
    ("taken", [("cut", "a", -1, "b"), ("cut", "a", 4, "a"), ("cut", "c", 1, "c"), ("cut", "c", 10**99, "a")]),
]


class Answers(unittest.TestCase):
    def check(self, groups):
        for text, deeds in groups:
            for deed in deeds:
                with self.subTest(deed=deed):
                    self.assertEqual(answers(START + [deed])[-1], text)

    def test_each_alone(self):
        self.check(ALONE)

    def test_the_first_where_several_hold(self):
        self.check(SEVERAL)

    def test_without_any_page(self):
        deeds = [
            ("rename", "a", "b"), ("join", "a", "b"), ("join", "a", "a"), ("cut", "a", 0, "b"), ("drop", "a"),
            ("text", "a"), ("back", "a"), ("find", ("x",), 3), ("find", (), 3), ("write", "A", "x"),
        ]
        told = ["no page"] * 6 + [[], [], "no words", "no name"]
        self.assertEqual(answers(deeds), told)

    def test_a_name_that_was_refused_may_be_had_later(self):
        deeds = START + [("rename", "a", "b"), ("drop", "b"), ("rename", "a", "b"), ("rename", "c", "a")]
        self.assertEqual(answers(deeds)[3:], ["taken", 1, 1, 0])

    def test_what_is_not_refused_for_a_missing_page(self):
        self.assertEqual(answers([("write", "a", "x")]), [1])
        self.assertEqual(answers([("back", "a")]), [[]])
        self.assertEqual(answers([("find", ("x",), 1)]), [[]])

    def test_a_text_may_hold_what_is_no_name(self):
        self.assertEqual(answers([("write", "a", "[A] [] [a1]")]), [3])

    def test_a_page_may_be_called_like_a_refusal_or_a_deed(self):
        deeds = [("write", "taken", "x"), ("write", "drop", "[taken]"), ("rename", "taken", "text"), ("text", "drop")]
        self.assertEqual(answers(deeds), [1, 1, 1, "[text]"])


class NothingIsChanged(unittest.TestCase):
    def test_by_any_refused_deed(self):
        rest = [
            ("text", "a"), ("text", "b"), ("text", "c"), ("back", "a"), ("back", "q"), ("back", "d"),
            ("find", ("x", "y"), 3), ("rename", "a", "d"), ("text", "b"), ("write", "q", ""), ("drop", "q"),
        ]
        without = answers(START + rest)[len(START):]
        for text, deeds in ALONE + SEVERAL:
            for deed in deeds:
                with self.subTest(deed=deed):
                    behind = START + [deed]
                    self.assertEqual(texts(behind), texts(START))
                    self.assertEqual(pointers(behind), pointers(START))
                    self.assertEqual(answers(behind + rest)[len(behind):], without)


if __name__ == "__main__":
    unittest.main()
