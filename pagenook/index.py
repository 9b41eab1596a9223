"""What stands where in the pages: pointers, and words near one another.

Pages are a dict of their names and of their words, as split_up tells them.
"""

from pagenook.near import shortest


def names_pointed_to(words):
    return [inner for kind, inner in words if kind == "to"]


def count_pointers(pages, name):
    return sum([words.count(("to", name)) for words in pages.values()])


def pages_pointing(pages, name):
    return sorted([page for page, words in pages.items() if ("to", name) in words])


def places_of(words, plain):
    return [place for place, word in enumerate(words) if word == ("word", plain)]


def pages_near(pages, wanted, near):
    # Each word once, so that no place stands in two rows and is counted twice.
    plains = sorted(set(wanted))
    found = []
    for page, words in pages.items():
        rows = [places_of(words, plain) for plain in plains]
        length = shortest(rows)
        if length is not None and length <= near:
            places = sum([len(row) for row in rows])
            # Below nought, so that the page with more places sorts ahead.
            found.append((length, -places, page))
    return [(page, length) for length, places, page in sorted(found)]
