"""The interface: programs and documents as lists of bytes, answers as lists of whole numbers."""

from treefiltersdesk.errors import BadTemplate, Fault, NotDocument, NotSelector, TooLarge
from treefiltersdesk.programs import read_program, read_selector
from treefiltersdesk.reading import read_document
from treefiltersdesk.running import executed
from treefiltersdesk.selecting import path_of, places_of, selected_places
from treefiltersdesk.texts import bytes_of
from treefiltersdesk.writing import notation_of


def check(program):
    """0 and the number of outermost steps, or the kind and the position of the first error."""
    try:
        steps = read_program(program)
    except Fault as fault:
        return [fault.kind, fault.position]
    return [0, len(steps)]


def apply(program, tree):
    """The length and the bytes of the canonical notation of a document after a program."""
    return answered(read_program, program, tree, notation_after)


def trace(program, tree):
    """The count of the executed steps `blocks` and `inlines`, and for how many items each one's selector held."""
    return answered(read_program, program, tree, selected_counts)


def is_stable(program, tree):
    """1 if a program, applied to its own result, doesn't change it any more, otherwise 0."""
    return answered(read_program, program, tree, stability)


def select(selector, tree):
    """The count of the blocks for which a selector holds, and for each of them the length of its path and the path."""
    return answered(read_selector, selector, tree, selected_paths)


def count(selector, tree):
    """The counts of the blocks and of the inline elements for which a selector holds."""
    return answered(read_selector, selector, tree, selected_numbers)


def extract(selector, tree):
    """The length and the bytes of the canonical notation of all blocks for which a selector holds."""
    return answered(read_selector, selector, tree, selected_notation)


def answered(read, text, tree, operation):
    """What an operation answers of what is read of a text and of the blocks of a document, or an error code."""
    try:
        first = read(text)
        blocks = read_document(tree)
        return operation(first, blocks)
    except Fault:
        return [-21]
    except NotSelector:
        return [-21]
    except NotDocument:
        return [-20]
    except TooLarge:
        return [-28]
    except BadTemplate:
        return [-33]


def notation_after(steps, blocks):
    """The answer of apply for a program that doesn't fail."""
    return as_returned(executed(steps, blocks).notation)


def selected_counts(steps, blocks):
    """The answer of trace for a program that doesn't fail."""
    counts = executed(steps, blocks).selected
    return [len(counts)] + counts


def stability(steps, blocks):
    """The answer of is_stable for a program that fails neither on the document nor on its result."""
    first = executed(steps, blocks)
    second = executed(steps, first.blocks)
    return [1] if second.notation == first.notation else [0]


def selected_paths(selector, blocks):
    """The answer of select."""
    places = places_of(blocks)
    selected = selected_places(selector, places, "block")
    answer = [len(selected)]
    for place in selected:
        path = path_of(place, places)
        answer.append(len(path))
        answer.extend(path)
    return answer


def selected_numbers(selector, blocks):
    """The answer of count."""
    places = places_of(blocks)
    return [len(selected_places(selector, places, role)) for role in ("block", "inline")]


def selected_notation(selector, blocks):
    """The answer of extract."""
    selected = selected_places(selector, places_of(blocks), "block")
    return as_returned(notation_of([place.item for place in selected]))


def as_returned(notation):
    """A notation as it is returned: its number of bytes, followed by the bytes."""
    data = bytes_of(notation)
    return [len(data)] + data
