"""Where pointers lead [4], [5], [6]."""

import unittest

from pagenook.day import answers, pointers, texts


def last(*deeds):
    return answers(list(deeds))[-1]


class PointersToPages(unittest.TestCase):
    def test_written_behind_the_page(self):
        deeds = [("write", "b", "x"), ("write", "a", "see [b]")]
        self.assertEqual(pointers(deeds), [("a", "b", True)])

    def test_written_ahead_of_the_page(self):
        deeds = [("write", "a", "see [b]")]
        self.assertEqual(pointers(deeds), [("a", "b", False)])
        deeds.append(("write", "b", "x"))
        self.assertEqual(pointers(deeds), [("a", "b", True)])

    def test_either_goes_on_leading_to_the_page_when_it_is_renamed(self):
        page = ("write", "b", "x")
        pointer = ("write", "a", "see [b] now")
        for start in [[page, pointer], [pointer, page]]:
            deeds = start + [("rename", "b", "c")]
            self.assertEqual(pointers(deeds), [("a", "c", True)])
            self.assertEqual(texts(deeds), [("a", "see [c] now"), ("c", "x")])

    def test_a_page_that_points_to_itself(self):
        deeds = [("write", "a", "[a] x [a]")]
        self.assertEqual(pointers(deeds), [("a", "a", True), ("a", "a", True)])
        deeds.append(("rename", "a", "b"))
        self.assertEqual(pointers(deeds), [("b", "b", True), ("b", "b", True)])
        self.assertEqual(texts(deeds), [("b", "[b] x [b]")])

    def test_several_pointers_to_one_page_in_one_text(self):
        deeds = [("write", "b", ""), ("write", "a", "[b] [b] and [b]"), ("rename", "b", "c"), ("text", "a")]
        self.assertEqual(answers(deeds)[2:], [3, "[c] [c] and [c]"])

    def test_in_the_order_of_the_text(self):
        deeds = [("write", "c", ""), ("write", "a", "[c] [b] x [a] [c]")]
        told = [("a", "c", True), ("a", "b", False), ("a", "a", True), ("a", "c", True)]
        self.assertEqual(pointers(deeds), told)

    def test_a_text_written_anew_has_its_new_pointers_alone(self):
        deeds = [("write", "b", ""), ("write", "a", "[b] [b] [q]"), ("write", "a", "x [c]")]
        self.assertEqual(pointers(deeds), [("a", "c", False)])
        self.assertEqual(answers(deeds + [("back", "b"), ("back", "q"), ("rename", "b", "d")])[3:], [[], [], 0])

    def test_pointers_to_a_page_written_anew_lead_to_it_still(self):
        deeds = [("write", "b", "[c]"), ("write", "a", "[b]"), ("write", "b", "x"), ("rename", "b", "d")]
        self.assertEqual(pointers(deeds), [("a", "d", True)])
        self.assertEqual(answers(deeds)[3], 1)

    def test_written_anew_with_the_earlier_name_it_is_loose(self):
        deeds = [("write", "b", ""), ("write", "a", "[b]"), ("rename", "b", "c"), ("write", "a", "[b] [c]")]
        self.assertEqual(pointers(deeds), [("a", "b", False), ("a", "c", True)])


class RenamedPages(unittest.TestCase):
    START = [("write", "b", "x"), ("write", "a", "[b]")]

    def test_renamed_several_times(self):
        deeds = self.START + [("rename", "b", "c"), ("rename", "c", "d"), ("rename", "d", "e")]
        self.assertEqual(pointers(deeds), [("a", "e", True)])

    def test_renamed_back(self):
        deeds = self.START + [("rename", "b", "c"), ("rename", "c", "b")]
        self.assertEqual(pointers(deeds), [("a", "b", True)])
        self.assertEqual(texts(deeds), [("a", "[b]"), ("b", "x")])

    def test_another_page_with_the_earlier_name_is_not_pointed_to(self):
        deeds = self.START + [("rename", "b", "c"), ("write", "b", "new")]
        self.assertEqual(pointers(deeds), [("a", "c", True)])
        self.assertEqual(answers(deeds + [("back", "b"), ("drop", "b")])[4:], [[], 0])

    def test_two_pages_change_their_names(self):
        deeds = [
            ("write", "a", "one [b]"), ("write", "b", "two [a]"), ("write", "c", "[a] [b]"),
            ("rename", "a", "x"), ("rename", "b", "a"), ("rename", "x", "b"),
        ]
        self.assertEqual(texts(deeds), [("a", "two [b]"), ("b", "one [a]"), ("c", "[b] [a]")])

    def test_renamed_to_a_name_that_loose_pointers_have(self):
        deeds = self.START + [("write", "d", "[c] [b] [c]"), ("rename", "b", "c")]
        told = [("a", "c", True), ("d", "c", True), ("d", "c", True), ("d", "c", True)]
        self.assertEqual(pointers(deeds), told)
        self.assertEqual(answers(deeds)[3], 4)

    def test_from_then_on_those_go_with_the_page_too(self):
        deeds = self.START + [("write", "d", "[c] [b]"), ("rename", "b", "c"), ("rename", "c", "e")]
        self.assertEqual(answers(deeds)[4], 3)
        self.assertEqual(pointers(deeds), [("a", "e", True), ("d", "e", True), ("d", "e", True)])
        deeds.append(("rename", "e", "b"))
        self.assertEqual(pointers(deeds), [("a", "b", True), ("d", "b", True), ("d", "b", True)])

    def test_its_own_loose_pointers_too(self):
        deeds = [("write", "a", "[b] [a]"), ("rename", "a", "b"), ("text", "b")]
        self.assertEqual(answers(deeds)[1:], [2, "[b] [b]"])


class DroppedPages(unittest.TestCase):
    START = [("write", "b", "x [b]"), ("write", "a", "[b] y [b]"), ("drop", "b")]

    def test_pointers_to_it_are_loose(self):
        self.assertEqual(answers(self.START)[2], 3)
        self.assertEqual(pointers(self.START), [("a", "b", False), ("a", "b", False)])
        self.assertEqual(texts(self.START), [("a", "[b] y [b]")])

    def test_by_the_name_that_it_had_last(self):
        deeds = [("write", "b", ""), ("write", "a", "[b]"), ("rename", "b", "c"), ("drop", "c")]
        self.assertEqual(pointers(deeds), [("a", "c", False)])
        self.assertEqual(pointers(deeds + [("write", "b", "")]), [("a", "c", False)])
        self.assertEqual(pointers(deeds + [("write", "c", "")]), [("a", "c", True)])

    def test_made_anew_by_a_write(self):
        deeds = self.START + [("write", "b", "new")]
        self.assertEqual(pointers(deeds), [("a", "b", True), ("a", "b", True)])
        self.assertEqual(answers(deeds + [("rename", "b", "c"), ("text", "a")])[4:], [2, "[c] y [c]"])

    def test_made_anew_by_a_rename(self):
        deeds = self.START + [("write", "c", "new"), ("rename", "c", "b")]
        self.assertEqual(answers(deeds)[4], 2)
        self.assertEqual(pointers(deeds), [("a", "b", True), ("a", "b", True)])
        self.assertEqual(answers(deeds + [("rename", "b", "d"), ("text", "a")])[5:], [2, "[d] y [d]"])

    def test_made_anew_by_a_cut(self):
        deeds = self.START + [("write", "c", "one two"), ("cut", "c", 1, "b")]
        told = [("a", "b", True), ("a", "b", True), ("c", "b", True)]
        self.assertEqual(pointers(deeds), told)
        self.assertEqual(answers(deeds + [("rename", "b", "d"), ("text", "a")])[5:], [3, "[d] y [d]"])

    def test_its_own_pointers_are_gone(self):
        deeds = [("write", "b", ""), ("write", "a", "[b] [q]"), ("drop", "a")]
        self.assertEqual(answers(deeds + [("back", "b"), ("back", "q"), ("rename", "b", "c")])[3:], [[], [], 0])
        self.assertEqual(pointers(deeds + [("write", "q", "")]), [])


class JoinedPages(unittest.TestCase):
    def test_pointers_in_third_pages(self):
        deeds = [("write", "a", "x"), ("write", "b", "y"), ("write", "c", "[b] [a] [b]"), ("join", "a", "b")]
        self.assertEqual(answers(deeds)[3], 3)
        self.assertEqual(pointers(deeds), [("c", "a", True)] * 3)
        self.assertEqual(texts(deeds), [("a", "x y"), ("c", "[a] [a] [a]")])

    def test_pointers_in_its_own_text(self):
        deeds = [("write", "a", "x"), ("write", "b", "y [b] [a]"), ("join", "a", "b")]
        self.assertEqual(answers(deeds)[2], 2)
        self.assertEqual(texts(deeds), [("a", "x y [a] [a]")])

    def test_pointers_in_the_text_of_the_page_that_is_left(self):
        deeds = [("write", "a", "[b] x [a] [b]"), ("write", "b", "y"), ("join", "a", "b")]
        self.assertEqual(answers(deeds)[2], 3)
        self.assertEqual(texts(deeds), [("a", "[a] x [a] [a] y")])

    def test_they_go_with_the_page_that_is_left(self):
        deeds = [
            ("write", "a", "[b]"), ("write", "b", "[b] [a]"), ("write", "c", "[b]"),
            ("join", "a", "b"), ("rename", "a", "d"),
        ]
        self.assertEqual(answers(deeds)[3:], [4, 4])
        self.assertEqual(texts(deeds), [("c", "[d]"), ("d", "[d] [d] [d]")])

    def test_a_page_made_anew_with_the_name_is_not_pointed_to(self):
        deeds = [("write", "a", ""), ("write", "b", ""), ("write", "c", "[b]"), ("join", "a", "b"), ("write", "b", "")]
        self.assertEqual(pointers(deeds), [("c", "a", True)])
        self.assertEqual(answers(deeds + [("back", "b")])[-1], [])

    def test_pointers_written_by_its_name_later_are_loose(self):
        deeds = [("write", "a", ""), ("write", "b", ""), ("join", "a", "b"), ("write", "c", "[b]")]
        self.assertEqual(pointers(deeds), [("c", "b", False)])

    def test_loose_pointers_of_either_text_stay_loose(self):
        deeds = [("write", "a", "[p]"), ("write", "b", "[q] [p]"), ("join", "a", "b")]
        self.assertEqual(answers(deeds)[2], 0)
        self.assertEqual(pointers(deeds), [("a", "p", False), ("a", "q", False), ("a", "p", False)])
        self.assertEqual(pointers(deeds + [("write", "q", "")])[1], ("a", "q", True))

    def test_pointers_to_third_pages_lead_there_still(self):
        deeds = [("write", "c", ""), ("write", "a", "[c]"), ("write", "b", "[c]"), ("join", "a", "b")]
        self.assertEqual(answers(deeds + [("rename", "c", "d"), ("text", "a")])[4:], [2, "[d] [d]"])

    def test_a_page_that_took_up_another_is_joined_or_dropped_itself(self):
        deeds = [("write", "a", "1"), ("write", "b", "2"), ("write", "c", "3"), ("write", "d", "[a] [b] [c]")]
        deeds += [("join", "a", "b"), ("join", "c", "a")]
        self.assertEqual(answers(deeds)[4:], [2, 3])
        self.assertEqual(texts(deeds), [("c", "3 1 2"), ("d", "[c] [c] [c]")])
        self.assertEqual(answers(deeds + [("drop", "c")])[-1], 3)
        self.assertEqual(pointers(deeds + [("drop", "c")]), [("d", "c", False)] * 3)


class CutPages(unittest.TestCase):
    def test_the_pointer_to_the_page_that_is_made(self):
        deeds = [("write", "a", "x y"), ("cut", "a", 1, "b")]
        self.assertEqual(pointers(deeds), [("a", "b", True)])
        deeds.append(("rename", "b", "c"))
        self.assertEqual(texts(deeds), [("a", "x [c]"), ("c", "y")])

    def test_pointers_go_with_their_words_and_lead_where_they_led(self):
        deeds = [("write", "b", ""), ("write", "a", "[b] [a] [q] [b] [a] [q]"), ("cut", "a", 3, "c")]
        told = [
            ("a", "b", True), ("a", "a", True), ("a", "q", False), ("a", "c", True),
            ("c", "b", True), ("c", "a", True), ("c", "q", False),
        ]
        self.assertEqual(pointers(deeds), told)
        self.assertEqual(answers(deeds + [("rename", "b", "d"), ("rename", "a", "e")])[3:], [2, 2])

    def test_loose_pointers_lead_to_the_page_that_is_made(self):
        deeds = [("write", "d", "[c]"), ("write", "a", "[c] x [c]"), ("cut", "a", 1, "c")]
        told = [("a", "c", True), ("a", "c", True), ("c", "c", True), ("d", "c", True)]
        self.assertEqual(pointers(deeds), told)
        self.assertEqual(last(*deeds, ("rename", "c", "e")), 4)

    def test_pointers_to_the_page_stay_with_what_is_left(self):
        deeds = [("write", "a", "x y"), ("write", "b", "[a]"), ("cut", "a", 0, "c"), ("rename", "a", "d")]
        self.assertEqual(texts(deeds), [("b", "[d]"), ("c", "x y"), ("d", "[c]")])

    def test_cut_and_joined_again(self):
        deeds = [("write", "a", "x [a] y"), ("cut", "a", 1, "b"), ("join", "a", "b")]
        self.assertEqual(answers(deeds)[2], 2)
        self.assertEqual(texts(deeds), [("a", "x [a] [a] y")])


if __name__ == "__main__":
    unittest.main()
