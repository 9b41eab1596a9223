"""What holds over a whole day of deeds: bounds, kinds, and that nothing handed in is changed [1]."""

import copy
import unittest

from pagenook.day import answers, pointers, texts

SOME_DAY = [
    ("write", "home", "  buy [milk]   and bread "),
    ("write", "milk", "from the [shop] see [home]"),
    ("write", "shop", "open till noon"),
    ("rename", "milk", "dairy"),
    ("cut", "home", 2, "rest"),
    ("find", ("and", "bread", "and"), 2),
    ("find", (), 2),
    ("back", "dairy"),
    ("back", "nowhere"),
    ("join", "dairy", "shop"),
    ("text", "dairy"),
    ("text", "shop"),
    ("drop", "home"),
    ("rename", "rest", "home"),
    ("cut", "dairy", 99, "x"),
]
ITS_ANSWERS = [
    4, 5, 3, 1, 2, [("rest", 2)], "no words", ["home"], [], 2, "from the [dairy] see [home] open till noon",
    "no page", 1, 1, "no place",
]


def letters(number):
    """A name for each number, each of them another one."""
    name = ""
    while True:
        name = chr(ord("a") + number % 26) + name
        number //= 26
        if number == 0:
            return name


class ADay(unittest.TestCase):
    def test_its_answers(self):
        self.assertEqual(answers(SOME_DAY), ITS_ANSWERS)

    def test_its_texts(self):
        told = [("dairy", "from the [dairy] see [home] open till noon"), ("home", "and bread")]
        self.assertEqual(texts(SOME_DAY), told)

    def test_its_pointers(self):
        told = [("dairy", "dairy", True), ("dairy", "home", True)]
        self.assertEqual(pointers(SOME_DAY), told)
        self.assertEqual(pointers(SOME_DAY[:13]), [("dairy", "dairy", True), ("dairy", "home", False)])

    def test_no_deeds(self):
        self.assertEqual(answers([]), [])
        self.assertEqual(texts([]), [])
        self.assertEqual(pointers([]), [])

    def test_each_deed_has_one_answer(self):
        for number in range(len(SOME_DAY) + 1):
            self.assertEqual(answers(SOME_DAY[:number]), ITS_ANSWERS[:number])


class Kinds(unittest.TestCase):
    def check(self, value, kinds):
        self.assertIs(type(value), tuple)
        self.assertEqual([type(part) for part in value], kinds)

    def test_of_answers(self):
        told = answers(SOME_DAY)
        self.assertIs(type(told), list)
        for answer, expected in zip(told, ITS_ANSWERS):
            self.assertIs(type(answer), type(expected))
        self.check(told[5][0], [str, int])
        self.assertIs(type(told[7][0]), str)

    def test_of_texts(self):
        self.assertIs(type(texts(SOME_DAY)), list)
        for item in texts(SOME_DAY):
            self.check(item, [str, str])

    def test_of_pointers(self):
        self.assertIs(type(pointers(SOME_DAY)), list)
        for item in pointers(SOME_DAY[:13]):
            self.check(item, [str, str, bool])


class WhatIsHandedIn(unittest.TestCase):
    def test_is_not_changed(self):
        for ask in [answers, texts, pointers]:
            deeds = list(SOME_DAY)
            ahead = copy.deepcopy(deeds)
            own = list(deeds)
            ask(deeds)
            self.assertEqual(deeds, ahead)
            self.assertTrue(all(deed is same for deed, same in zip(deeds, own)))

    def test_asked_twice_and_one_after_the_other(self):
        deeds = list(SOME_DAY)
        first = [answers(deeds), texts(deeds), pointers(deeds)]
        again = [pointers(deeds), answers(deeds), texts(deeds)]
        self.assertEqual(first, [again[1], again[2], again[0]])
        self.assertEqual(first[0], ITS_ANSWERS)

    def test_other_deeds_between_leave_no_trace(self):
        first = answers(SOME_DAY)
        answers([("write", "home", "other"), ("write", "dairy", "[home]")])
        texts([("write", "zz", "[home]")])
        self.assertEqual(answers(SOME_DAY), first)

    def test_what_is_handed_out_may_be_changed(self):
        deeds = [("write", "a", "x [q]"), ("back", "q"), ("back", "q"), ("find", ("x",), 1), ("find", ("x",), 1)]
        told = answers(deeds)
        told[1].append("more")
        told[3].append("more")
        self.assertEqual([told[2], told[4]], [["a"], [("a", 1)]])
        for ask in [answers, texts, pointers]:
            before = copy.deepcopy(ask(deeds))
            ask(deeds).append("more")
            self.assertEqual(ask(deeds), before)


class Bounds(unittest.TestCase):
    def test_a_hundred_and_sixty_deeds_and_beyond(self):
        for number in [160, 161, 400]:
            deeds = [("write", letters(k), f"[{letters(k + 1)}]") for k in range(number)]
            self.assertEqual(answers(deeds), [1] * number)
            told = pointers(deeds)
            self.assertEqual(len(told), number)
            loose = [item for item in told if not item[2]]
            self.assertEqual(loose, [(letters(number - 1), letters(number), False)])

    def test_many_renames(self):
        for number in [160, 200]:
            deeds = [("write", letters(0), "x"), ("write", "pointing", f"[{letters(0)}] [pointing]")]
            deeds += [("rename", letters(k), letters(k + 1)) for k in range(number - 2)]
            self.assertEqual(answers(deeds)[2:], [1] * (number - 2))
            self.assertIn(("pointing", f"[{letters(number - 2)}] [pointing]"), texts(deeds))

    def test_texts_of_thirty_words_and_beyond(self):
        for number in [30, 31, 45, 300]:
            words = [f"w{k}" for k in range(number - 1)] + ["[a]"]
            deeds = [("write", "a", "  ".join(words)), ("text", "a"), ("find", ("w0", f"w{number - 2}"), number)]
            self.assertEqual(answers(deeds), [number, " ".join(words), [("a", number - 1)]])
            deeds = deeds[:1] + [("cut", "a", number, "b"), ("cut", "a", number + 2, "c")]
            self.assertEqual(answers(deeds)[1:], [0, "no place"])

    def test_names_of_forty_letters_and_beyond(self):
        for length in [40, 41, 60, 400]:
            name = "z" * length
            other = "z" * (length - 1) + "a"
            deeds = [("write", name, f"[{other}] [{name}]"), ("write", other, f"[{name}]")]
            deeds.append(("rename", name, "q" + name))
            self.assertEqual(answers(deeds), [2, 1, 2])
            told = [("q" + name, f"[{other}] [q{name}]"), (other, f"[q{name}]")]
            self.assertEqual(texts(deeds), told)
            self.assertEqual(answers(deeds + [("cut", other, 0, name), ("back", name)])[3:], [1, [other]])

    def test_six_words_to_find_and_beyond(self):
        for number in [6, 7, 13, 20]:
            words = tuple(f"w{k}" for k in range(number))
            deeds = [("write", "a", " - ".join(words)), ("write", "b", " ".join(reversed(words)) + " w0")]
            told = [("b", number), ("a", 2 * number - 1)]
            self.assertEqual(answers(deeds + [("find", words, 99)])[-1], told)
            self.assertEqual(answers(deeds + [("find", words + words, number)])[-1], [("b", number)])
            self.assertEqual(answers(deeds + [("find", words + ("q",), 99)])[-1], [])

    def test_numbers_of_a_hundred_figures_and_beyond(self):
        for number in [10**99, 10**100 - 1, 10**100, 10**120]:
            deeds = [("write", "a", "x y"), ("cut", "a", number, "b"), ("cut", "a", -number, "b")]
            deeds += [("find", ("x", "y"), number), ("find", ("x",), -number)]
            self.assertEqual(answers(deeds)[1:], ["no place", "no place", [("a", 2)], []])

    def test_joined_texts_have_many_more_words(self):
        text = " ".join(["x"] + ["-"] * 27 + ["[a]", "[b]"])
        names = [letters(k) for k in range(26)]
        deeds = [("write", name, text) for name in names]
        joins = [("join", "a", name) for name in names[1:]]
        whole = deeds + joins
        # The first join turns all 26 pointers to b to a, the later ones find none to turn.
        self.assertEqual(answers(whole)[26:], [52] * 25)
        self.assertEqual(texts(whole), [("a", " ".join([text.replace("[b]", "[a]")] * 26))])
        told = answers(whole + [("cut", "a", 390, "q"), ("find", ("x", "-"), 9)])[-2:]
        self.assertEqual(told, [390, [("a", 2), ("q", 2)]])

    def test_a_very_long_joined_text(self):
        text = " ".join(["[a]", "x"] + ["[q]"] * 14 + ["y"] * 14)
        deeds = []
        for number in range(80):
            deeds += [("write", "b", text), ("join", "a", "b")] if number else [("write", "a", text)]
        told = answers(deeds + [("text", "a"), ("find", ("x", "y"), 99), ("rename", "a", "q")])
        self.assertEqual(told[-3], " ".join([text] * 80))
        self.assertEqual(told[-2], [("a", 3)])
        self.assertEqual(told[-1], 80 * 15)


if __name__ == "__main__":
    unittest.main()
