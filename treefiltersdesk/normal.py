"""The normal form of documents."""

from treefiltersdesk.errors import TooLarge
from treefiltersdesk.expressions import make_list, make_string, make_symbol
from treefiltersdesk.longtexts import LONGEST_PLAIN, with_short_gaps
from treefiltersdesk.texts import words_between_spaces
from treefiltersdesk.trees import with_lists

STYLES = ("emph", "strong", "strike", "super", "sub", "caps")


class Run:
    """A piece of a list of inline elements, and the wrappers around it, the outermost first.

    Its gap is "space" or "break" if it belongs to a gap, and empty otherwise. A wrapper is a
    tuple: its symbol, and then its target or its classes.
    """

    def __init__(self, gap, item, wrappers):
        self.gap = gap
        self.item = item
        self.wrappers = wrappers


def normal_list(siblings, form):
    """The normal form of a list of blocks or of inline elements."""
    if form == "block":
        return normal_blocks(siblings)
    return normal_inlines(siblings)


def normal_inlines(inlines):
    """The normal form of a list of inline elements; refuses one with too many words for any document."""
    runs = runs_of(inlines, ())
    if sum([len(run.item.text) for run in runs if run.gap == ""]) > LONGEST_PLAIN:
        raise TooLarge()
    return built(with_gaps_replaced(runs), 0)


def runs_of(inlines, wrappers):
    """The runs of inline elements that have these wrappers around them."""
    runs = []
    for item in inlines:
        if item.shape == "string":
            runs.extend(runs_of_text(item.text, wrappers))
        elif item.head in STYLES or item.head in ("link", "span"):
            wrapper = wrapper_of(item)
            inner = wrappers if is_left_out(wrapper, wrappers) else wrappers + (wrapper,)
            runs.extend(runs_of(item.parts[first_child(item):], inner))
        elif item.head == "break":
            runs.append(Run("break", item, wrappers))
        else:
            runs.append(Run("", with_lists(item, normal_list), wrappers))
    return runs


def runs_of_text(text, wrappers):
    """The runs of a text.

    The words of one text and the gaps between them have the same wrappers, so they
    stay together, and each of these gaps is one space at once.
    """
    spaced = with_short_gaps(text)
    if not isinstance(spaced, str):
        raise TooLarge()
    pieces = words_between_spaces(spaced)
    words = [piece for piece in pieces if piece != ""]
    space = Run("space", make_string(" "), wrappers)
    if not words:
        return [space] if len(pieces) > 1 else []
    runs = [Run("", make_string(" ".join(words)), wrappers)]
    if pieces[0] == "":
        runs.insert(0, space)
    if pieces[-1] == "":
        runs.append(space)
    return runs


def first_child(item):
    """Where the children of a wrapper begin among its parts."""
    return 1 if item.head in STYLES else 2


def wrapper_of(item):
    """A styled element, a link or a span without its children."""
    if item.head == "link":
        return ("link", item.parts[1].text)
    if item.head == "span":
        return tuple(["span"] + [label.text for label in item.parts[1].parts[1:]])
    return (item.head,)


def is_left_out(wrapper, wrappers):
    """Whether an element doesn't count as a wrapper inside of these."""
    if wrapper[0] == "span":
        return len(wrapper) == 1
    return wrapper[0] in [outer[0] for outer in wrappers]


def with_gaps_replaced(runs):
    """The runs with each gap left out or replaced by line breaks or one space."""
    result = []
    gap = []
    for run in runs:
        if run.gap != "":
            gap.append(run)
        else:
            if result and gap:
                result.extend(replaced_gap(gap, common_beginning(result[-1].wrappers, run.wrappers)))
            gap = []
            result.append(run)
    return result


def replaced_gap(gap, wrappers):
    """What stands instead of a gap."""
    breaks = [Run("break", run.item, wrappers) for run in gap if run.gap == "break"]
    return breaks if breaks else [Run("space", make_string(" "), wrappers)]


def common_beginning(before, after):
    """The longest common beginning of two lists of wrappers."""
    length = 0
    while length < min(len(before), len(after)) and before[length] == after[length]:
        length += 1
    return before[:length]


def built(runs, level):
    """The elements that are built from runs, without so many of their first wrappers."""
    result = []
    at = 0
    while at < len(runs):
        end = at + 1
        while end < len(runs) and belong_together(runs[at], runs[end], level):
            end += 1
        run = runs[at]
        if len(run.wrappers) > level:
            result.append(wrapped(run.wrappers[level], built(runs[at:end], level + 1)))
        elif run.item.shape == "string":
            result.append(make_string("".join([piece.item.text for piece in runs[at:end]])))
        else:
            result.append(run.item)
        at = end
    return result


def belong_together(one, other, level):
    """Whether consecutive runs become one element."""
    if len(one.wrappers) > level and len(other.wrappers) > level:
        return one.wrappers[level] == other.wrappers[level]
    if len(one.wrappers) > level or len(other.wrappers) > level:
        return False
    return one.item.shape == "string" and other.item.shape == "string"


def wrapped(wrapper, children):
    """The element of a wrapper around its children."""
    parts = [make_symbol(wrapper[0])]
    if wrapper[0] == "link":
        parts.append(make_string(wrapper[1]))
    if wrapper[0] == "span":
        labels = [make_string(label) for label in wrapper[1:]]
        parts.append(make_list([make_symbol("class")] + labels))
    return make_list(parts + children)


def normal_blocks(blocks):
    """The normal form of a list of blocks."""
    kept = []
    for block in blocks:
        kept.extend(normal_block(block))
    return joined_blocks(kept)


def normal_block(block):
    """What the normal form has for a block, ahead of the joining of neighbours."""
    # A template can put one block into very many places, so it is brought into normal form once.
    if block.normal is None:
        block.normal = kept_of_block(with_lists(block, normal_list))
    return block.normal


def kept_of_block(changed):
    """What stands for a block whose lists are in normal form."""
    if changed.head in ("para", "quote") and len(changed.parts) == 1:
        return []
    if changed.head == "group" and len(changed.parts[1].parts) == 1:
        return list(changed.parts[2:])
    if changed.head == "group" and len(changed.parts) == 2:
        return []
    return [changed]


def joined_blocks(blocks):
    """The blocks with neighbours joined."""
    result = []
    at = 0
    while at < len(blocks):
        end = at + 1
        while end < len(blocks) and is_joined(blocks[end - 1], blocks[end]):
            end += 1
        result.append(joined(blocks[at:end]) if end > at + 1 else blocks[at])
        at = end
    return result


def is_joined(one, other):
    """Whether two neighbours become one block."""
    if one.head == "numbers" and other.head == "numbers":
        return other.parts[1].number == one.parts[1].number + len(one.parts) - 2
    return one.head == other.head and one.head in ("quote", "bullets")


def joined(blocks):
    """The one block that several neighbours become."""
    firsts = 2 if blocks[0].head == "numbers" else 1
    inner = []
    for block in blocks:
        inner.extend(block.parts[firsts:])
    if blocks[0].head == "quote":
        # The blocks of each quote are joined already, so this joins just where they meet.
        inner = joined_blocks(inner)
    return make_list(list(blocks[0].parts[:firsts]) + inner)
