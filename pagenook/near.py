"""How near to one another the places of several lists lie."""


def places_in_order(rows):
    marks = []
    for number, row in enumerate(rows):
        marks.extend([(place, number) for place in row])
    return sorted(marks)


def shortest(rows):
    # Places may be a hundred figures long, so only the places that are listed
    # are walked. A stretch that ends at one of them is shortest where it begins
    # at the latest place of that list which lies furthest behind.
    latest = {}
    best = None
    for place, number in places_in_order(rows):
        latest[number] = place
        if len(latest) == len(rows):
            length = place - min(latest.values()) + 1
            if best is None or length < best:
                best = length
    return best
