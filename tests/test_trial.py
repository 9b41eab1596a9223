"""Many days of deeds, against another way to do them.

Here pages and pointers are objects, and a pointer holds the page itself that
it leads to; the program keeps no more than the names.
"""

import itertools
import random
import re
import unittest

from pagenook.day import answers, pointers, texts


class Page:
    def __init__(self, name):
        self.name = name
        self.words = []


class Pointer:
    def __init__(self, name):
        self.loose_name = name
        self.page = None

    def told(self):
        return self.page.name if self.page else self.loose_name


def is_name(word):
    return re.fullmatch("[a-z]+", word) is not None


class Desk:
    def __init__(self):
        self.pages = []

    def page(self, name):
        return next((page for page in self.pages if page.name == name), None)

    def all_pointers(self):
        return [word for page in self.pages for word in page.words if isinstance(word, Pointer)]

    def leading_to(self, page):
        return [pointer for pointer in self.all_pointers() if pointer.page is page]

    def bind(self):
        for pointer in self.all_pointers():
            if pointer.page is None:
                pointer.page = self.page(pointer.loose_name)

    def text(self, page):
        return " ".join(f"[{word.told()}]" if isinstance(word, Pointer) else word for word in page.words)

    def refusals(self, deed):
        """All refusals that hold, in the order of the document."""
        kind = deed[0]
        told = [deed[1]] if kind in ("rename", "join", "cut", "drop", "text") else []
        told += [deed[2]] if kind == "join" else []
        named = {"write": deed[1:2], "rename": deed[2:3], "cut": deed[3:4]}.get(kind, ())
        if any(self.page(name) is None for name in told):
            yield "no page"
        if any(self.page(name) is None and not is_name(name) for name in named):
            yield "no name"
        if kind == "join" and deed[1] == deed[2]:
            yield "same page"
        if kind in ("rename", "cut") and any(self.page(name) for name in named):
            yield "taken"
        if kind == "cut" and self.page(deed[1]) and not 0 <= deed[2] <= len(self.page(deed[1]).words):
            yield "no place"
        if kind == "find" and not deed[1]:
            yield "no words"

    def answer(self, deed):
        refusal = next(self.refusals(deed), None)
        if refusal:
            return refusal
        told = getattr(self, "do_" + deed[0])(*deed[1:])
        self.bind()
        # Pointers that lead to a page are counted when loose ones lead there too.
        return len(self.leading_to(told)) if isinstance(told, Page) else told

    def made(self, name):
        page = Page(name)
        self.pages.append(page)
        return page

    def do_write(self, name, text):
        page = self.page(name) or self.made(name)
        page.words = []
        for word in re.findall("[^ ]+", text):
            match = re.fullmatch(r"\[([a-z]+)\]", word)
            page.words.append(Pointer(match.group(1)) if match else word)
        return len(page.words)

    def do_rename(self, name, fresh):
        page = self.page(name)
        page.name = fresh
        return page

    def do_join(self, name, other):
        page, gone = self.page(name), self.page(other)
        page.words += gone.words
        self.pages.remove(gone)
        for pointer in self.leading_to(gone):
            pointer.page = page
        return page

    def do_cut(self, name, place, fresh):
        page, made = self.page(name), self.made(fresh)
        page.words, made.words = page.words[:place], page.words[place:]
        pointer = Pointer(fresh)
        pointer.page = made
        page.words.append(pointer)
        return len(made.words)

    def do_drop(self, name):
        page = self.page(name)
        led = self.leading_to(page)
        for pointer in led:
            pointer.loose_name = page.name
            pointer.page = None
        self.pages.remove(page)
        return len(led)

    def do_text(self, name):
        return self.text(self.page(name))

    def do_back(self, name):
        return sorted({
            page.name for page in self.pages for word in page.words
            if isinstance(word, Pointer) and word.told() == name
        })

    def do_find(self, words, near):
        found = []
        for page in self.pages:
            length = self.shortest(page, set(words))
            if length and length <= near:
                places = len([word for word in page.words if word in words])
                found.append((page.name, length, places))
        found.sort(key=lambda item: item[0])
        found.sort(key=lambda item: item[2], reverse=True)
        found.sort(key=lambda item: item[1])
        return [(name, length) for name, length, _ in found]

    def shortest(self, page, words):
        for length in range(1, len(page.words) + 1):
            for start in range(len(page.words) - length + 1):
                if words <= set(page.words[start:start + length]):
                    return length
        return None

    def in_order(self):
        return sorted(self.pages, key=lambda page: page.name)

    def texts(self):
        return [(page.name, self.text(page)) for page in self.in_order()]

    def pointers(self):
        return [
            (page.name, word.told(), word.page is not None)
            for page in self.in_order() for word in page.words if isinstance(word, Pointer)
        ]


class Chance:
    """Deeds by chance, the same ones in each run."""

    def __init__(self, seed, names, most_words):
        self.random = random.Random(seed)
        self.names = names
        self.most_words = most_words

    def name(self):
        return self.random.choice(self.names + ["A", ""] if self.random.random() < 0.1 else self.names)

    def word(self):
        if self.random.random() < 0.4:
            return f"[{self.name()}]"
        return self.random.choice(["x", "y", "z", "X", "[]", "a"])

    def text(self):
        number = self.random.randint(0, self.most_words)
        return " ".join(self.word() + " " * self.random.randint(0, 1) for _ in range(number))

    def deed(self):
        kind = self.random.choice(
            ["write", "write", "write", "rename", "rename", "join", "cut", "drop", "text", "back", "find"]
        )
        if kind == "write":
            return (kind, self.name(), self.text())
        if kind == "cut":
            return (kind, self.name(), self.random.randint(-1, self.most_words + 1), self.name())
        if kind == "find":
            words = tuple(self.word() for _ in range(self.random.randint(0, 3)))
            return (kind, words, self.random.randint(-1, 2 * self.most_words))
        if kind in ("rename", "join"):
            return (kind, self.name(), self.name())
        return (kind, self.name())

    def deeds(self, number):
        return [self.deed() for _ in range(number)]


class Trial(unittest.TestCase):
    def check(self, deeds):
        desk = Desk()
        expected = [desk.answer(deed) for deed in deeds]
        self.assertEqual(answers(deeds), expected, deeds)
        self.assertEqual(texts(deeds), desk.texts(), deeds)
        self.assertEqual(pointers(deeds), desk.pointers(), deeds)

    def test_short_days(self):
        for seed in range(1500):
            self.check(Chance(seed, ["a", "b", "c"], 4).deeds(12))

    def test_longer_days(self):
        for seed in range(300):
            self.check(Chance(seed, ["a", "b", "c", "ab", "ba", "zz"], 5).deeds(50))

    def test_whole_days(self):
        for seed in range(5):
            self.check(Chance(seed, ["a", "b", "c", "d", "e", "f", "g", "aa", "ab", "zz"], 30).deeds(160))

    def test_every_three_deeds_behind_some_pages(self):
        some = [
            ("write", "a", "[b] [c]"), ("write", "b", "[b] [a]"), ("write", "c", "x [a]"), ("rename", "a", "b"),
            ("rename", "a", "c"), ("rename", "b", "c"), ("rename", "c", "a"), ("join", "a", "b"), ("join", "b", "a"),
            ("join", "c", "b"), ("cut", "a", 1, "c"), ("cut", "b", 0, "a"), ("cut", "b", 2, "c"), ("drop", "a"),
            ("drop", "b"), ("drop", "c"),
        ]
        starts = [[], [("write", "a", "[a] x [b]"), ("write", "b", "[c] [a] y")]]
        for start in starts:
            for deeds in itertools.product(some, repeat=3):
                self.check(start + list(deeds))


if __name__ == "__main__":
    unittest.main()
