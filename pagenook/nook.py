"""The pages, and the deeds that change them or ask about them."""

from pagenook.errors import NoName, NoPage, NoPlace, NoWords, SamePage, Taken
from pagenook.index import count_pointers, names_pointed_to, pages_near, pages_pointing
from pagenook.words import is_name, split_up, tell_text


def point_on(words, name, fresh):
    return [("to", fresh) if word == ("to", name) else word for word in words]


class Nook:
    # A pointer is kept by the name that it is told with, and leads to the page
    # of that name, if there is one. No more is needed: a loose pointer leads to
    # a page as soon as one has its name, so never is a pointer told with a
    # page's name without leading to that page. When a page gets another name,
    # the pointers to it get it too; when it goes, they are loose by themselves.

    def __init__(self):
        self.pages = {}

    def need_page(self, name):
        if name not in self.pages:
            raise NoPage()

    def need_free_name(self, name):
        if not is_name(name):
            raise NoName()
        if name in self.pages:
            raise Taken()

    def point_all_on(self, name, fresh):
        for page in list(self.pages):
            self.pages[page] = point_on(self.pages[page], name, fresh)

    def write_page(self, name, text):
        # What is no name is no page's name either, so only a page that is to be
        # made is refused here.
        if not is_name(name):
            raise NoName()
        self.pages[name] = split_up(text)
        return len(self.pages[name])

    def rename_page(self, name, fresh):
        self.need_page(name)
        self.need_free_name(fresh)
        self.pages[fresh] = self.pages.pop(name)
        self.point_all_on(name, fresh)
        return count_pointers(self.pages, fresh)

    def join_pages(self, name, other):
        self.need_page(name)
        self.need_page(other)
        if name == other:
            raise SamePage()
        behind = self.pages.pop(other)
        self.pages[name] = self.pages[name] + behind
        self.point_all_on(other, name)
        return count_pointers(self.pages, name)

    def cut_page(self, name, place, fresh):
        self.need_page(name)
        self.need_free_name(fresh)
        words = self.pages[name]
        if place < 0 or place > len(words):
            raise NoPlace()
        self.pages[fresh] = words[place:]
        self.pages[name] = words[:place] + [("to", fresh)]
        return len(self.pages[fresh])

    def drop_page(self, name):
        self.need_page(name)
        led = count_pointers(self.pages, name)
        self.pages.pop(name)
        return led

    def text_of(self, name):
        self.need_page(name)
        return tell_text(self.pages[name])

    def back_from(self, name):
        return pages_pointing(self.pages, name)

    def find_pages(self, wanted, near):
        if len(wanted) == 0:
            raise NoWords()
        return pages_near(self.pages, wanted, near)

    def all_texts(self):
        return [(name, self.text_of(name)) for name in sorted(self.pages)]

    def all_pointers(self):
        told = []
        for name in sorted(self.pages):
            told.extend([(name, to, to in self.pages) for to in names_pointed_to(self.pages[name])])
        return told
