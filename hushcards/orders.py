"""Rows of cards, and the orders by which they are laid."""

MOST_CARDS = 8
GREATEST_CARD = 9


def is_whole(thing):
    # True and False are whole numbers to Python, but none to the document.
    return isinstance(thing, int) and not isinstance(thing, bool)


def is_card(thing):
    return is_whole(thing) and 0 <= thing <= GREATEST_CARD


def is_row(thing):
    if not isinstance(thing, tuple) or not 1 <= len(thing) <= MOST_CARDS:
        return False
    return all([is_card(card) for card in thing])


def is_order(thing, many):
    if not isinstance(thing, tuple):
        return False
    # The kinds come first: things of unlike kinds can't be sorted.
    return all([is_whole(place) for place in thing]) and sorted(thing) == list(range(many))


def own(thing):
    # A tuple that is no row may hold lists and dicts; what is told must not share them with what was handed in.
    if isinstance(thing, list):
        return [own(part) for part in thing]
    if isinstance(thing, tuple):
        return tuple([own(part) for part in thing])
    if isinstance(thing, dict):
        copied = {}
        for key, part in thing.items():
            copied[key] = own(part)
        return copied
    return thing


def cards_at(row, places):
    # Whole numbers need no copying, and walks do this very often.
    return tuple([row[place] for place in places])


def laid(row, order):
    return tuple([own(row[place]) for place in order])


def then(one, other):
    # What lies at place k in the end lay at other[k] in between, and so at one[other[k]] at first.
    return cards_at(one, other)


def back(order):
    return tuple([order.index(place) for place in range(len(order))])


def round_from(order, least):
    places = [least]
    while order[places[-1]] != least:
        places.append(order[places[-1]])
    return tuple(places)


def rounds(order):
    told = []
    met = {}
    # Walked upwards, a place not met yet is the least one of its round.
    for place in range(len(order)):
        if place not in met:
            places = round_from(order, place)
            told.append(places)
            for each in places:
                met[each] = True
    return told


def order_to(row, other):
    if sorted(row) != sorted(other):
        return None
    order = []
    # With the same cards in both, taking the least free place each time never runs short later on.
    for card in other:
        order.append(min([place for place in range(len(row)) if row[place] == card and place not in order]))
    return tuple(order)
