"""Selectors: for which items of a document they hold."""

from treefiltersdesk.texts import is_blank
from treefiltersdesk.trees import LABEL_PARTS, TARGET_PARTS, lists_of, plain_text


class Place:
    """Where an item stands in a document; the other places are told by their numbers, -1 for none.

    The list number tells in which of the lists of its parent it stands, and the index where in this list.
    """

    def __init__(self, item, parent, list_number, index):
        self.item = item
        self.parent = parent
        self.list_number = list_number
        self.index = index
        self.previous = -1
        self.following = -1
        self.plain = None

    def whole_text(self):
        """The plain text of the item, which is put together when it is asked for first."""
        if self.plain is None:
            self.plain = plain_text(self.item)
        return self.plain


def places_of(blocks):
    """The places of all items of a document, in the order of the notation."""
    places = []
    add_places(blocks, -1, 0, places)
    return places


def add_places(siblings, parent, list_number, places):
    """Adds the places of the items of a list and of all items in them."""
    previous = -1
    for index, item in enumerate(siblings):
        number = len(places)
        place = Place(item, parent, list_number, index)
        places.append(place)
        if previous >= 0:
            place.previous = previous
            places[previous].following = number
        previous = number
        for inner_number, inner in enumerate(lists_of(item)):
            add_places(inner, number, inner_number, places)


def path_of(place, places):
    """The path of a block: the index of a block, then alternately a number of a list of blocks and an index."""
    path = [place.index]
    inner = place
    while inner.parent >= 0:
        outer = places[inner.parent]
        path = [outer.index, number_of_block_list(outer.item, inner.list_number)] + path
        inner = outer
    return path


def number_of_block_list(block, list_number):
    """The number that one of the lists of a block has among its lists of blocks."""
    # In a term list a term, which is no list of blocks, stands ahead of the blocks of each entry.
    return list_number // 2 if block.head == "terms" else list_number


def selected_places(selector, places, role):
    """The places, in their order, of the blocks or of the inline elements for which the selector holds."""
    held = holding(selector, places)
    return [place for place, answer in zip(places, held) if answer and place.item.role == role]


def holding(selector, places):
    """For each place, in their order, whether the selector holds for its item."""
    head = selector.head
    if head in TESTS:
        return [TESTS[head](place, selector) for place in places]
    inner = [holding(argument, places) for argument in selector.parts[1:]]
    if head == "not":
        return [not held for held in inner[0]]
    if head in ("and", "or"):
        return combined(head, inner, len(places))
    if head in ("child", "descendant"):
        return holding_below(inner[0], places, head == "descendant")
    if head in ("parent", "ancestor"):
        return holding_above(inner[0], places, head == "ancestor")
    if head == "next":
        return [place.following >= 0 and inner[0][place.following] for place in places]
    return [place.previous >= 0 and inner[0][place.previous] for place in places]


def combined(head, inner, length):
    """For each place, whether all or any of several selectors hold."""
    result = [head == "and"] * length
    for answers in inner:
        if head == "and":
            result = [one and other for one, other in zip(result, answers)]
        else:
            result = [one or other for one, other in zip(result, answers)]
    return result


def holding_above(inner, places, at_any_height):
    """For each place, whether a selector holds for its parent, or for one of its ancestors."""
    result = []
    for place in places:
        above = place.parent
        result.append(above >= 0 and (inner[above] or at_any_height and result[above]))
    return result


def holding_below(inner, places, at_any_depth):
    """For each place, whether a selector holds for one of its children, or of its descendants."""
    result = [False] * len(places)
    # An item comes after its parent, so from the last to the first each one is complete in time.
    for number in range(len(places) - 1, -1, -1):
        above = places[number].parent
        if above >= 0 and (inner[number] or at_any_depth and result[number]):
            result[above] = True
    return result


def always_holds(place, selector):
    """Holds for each place."""
    return True


def has_kind(place, selector):
    """Whether the item has the kind that the selector names."""
    kind = "text" if place.item.shape == "string" else place.item.head
    return kind == selector.parts[1].text


def has_level(place, selector):
    """Whether the item is a heading with a level between two levels."""
    if place.item.head != "heading":
        return False
    return selector.parts[1].number <= place.item.parts[1].number <= selector.parts[2].number


def has_label(place, selector):
    """Whether a text is the identifier or label of the item or one of its keys."""
    item = place.item
    label = selector.parts[1].text
    if item.head == "cite":
        return label in [key.text for key in item.parts[1:]]
    return item.head in LABEL_PARTS and item.parts[LABEL_PARTS[item.head]].text == label


def has_class(place, selector):
    """Whether the item is a group or a span with a class."""
    if place.item.head not in ("group", "span"):
        return False
    return selector.parts[1].text in [label.text for label in place.item.parts[1].parts[1:]]


def has_target(place, selector):
    """Whether the item has a target that begins with a text."""
    item = place.item
    if item.head not in TARGET_PARTS:
        return False
    return item.parts[TARGET_PARTS[item.head]].text.startswith(selector.parts[1].text)


def has_text(place, selector):
    """Whether the plain text of the item contains a text."""
    return selector.parts[1].text in place.whole_text()


def is_empty(place, selector):
    """Whether the plain text of the item is white space only."""
    return is_blank(place.whole_text())


def is_first(place, selector):
    """Whether the item is the first one of its siblings."""
    return place.index == 0


def is_last(place, selector):
    """Whether the item is the last one of its siblings."""
    return place.following == -1


def has_index(place, selector):
    """Whether the item has an index."""
    return place.index == selector.parts[1].number


TESTS = {
    "any": always_holds,
    "kind": has_kind,
    "level": has_level,
    "label": has_label,
    "class": has_class,
    "target": has_target,
    "text": has_text,
    "empty": is_empty,
    "first": is_first,
    "last": is_last,
    "index": has_index,
}
