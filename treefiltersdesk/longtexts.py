"""Changes of texts, also of texts that are too long to be written out.

One step can make a text longer than any memory, and short again. So a text that is longer than
what a document can hold after a step is kept as a long text: pieces, each a plain text or again
a long one, that may stand in many places but are kept and changed once.
"""

from treefiltersdesk.texts import words_between_spaces

# A byte is at most five signs, so a text with more signs than this doesn't fit into 3000 bytes.
LONGEST_PLAIN = 16000
# What comes of a plain piece is one plain piece again, if it isn't longer than this.
LONGEST_PIECE = 64


class LongText:
    """Pieces one after another, and all of them so many times."""

    def __init__(self, pieces, times):
        self.pieces = pieces
        self.times = times
        self.length = times * sum([number_of_signs(piece) for piece in pieces])
        self.spaced = None


class Joining:
    """The putting together of pieces; it makes just one long text of the same pieces."""

    def __init__(self):
        self.known = {}

    def long_text(self, pieces, times):
        """The long text of these pieces."""
        key = (pieces, times)
        if key not in self.known:
            self.known[key] = LongText(pieces, times)
        return self.known[key]

    def repeated(self, piece, times):
        """A piece so many times."""
        if times == 1 or piece == "":
            return piece
        if not isinstance(piece, str):
            return self.long_text(piece.pieces, piece.times * times)
        root = root_of(piece)
        root_times = len(piece) // len(root) * times
        if len(root) * root_times <= LONGEST_PIECE:
            return root * root_times
        return self.long_text((root,), root_times)

    def joined(self, pieces):
        """Pieces one after another, as one piece."""
        result = []
        for piece in pieces:
            if piece != "":
                drawn = self.drawn_together(result[-1], piece) if result else None
                if drawn is None:
                    result.append(piece)
                else:
                    result[-1] = drawn
        if len(result) == 1:
            return result[0]
        if sum([number_of_signs(piece) for piece in result]) <= LONGEST_PIECE:
            return "".join(result)
        return self.long_text(tuple(result), 1)

    def drawn_together(self, one, other):
        """Two neighbours that repeat the same as one piece, and None of two others.

        Without this, what counts repetitions would make ever more different pieces of them.
        """
        base = common_base(one, other)
        times_of_one = times_of(base, one)
        times_of_other = times_of(base, other)
        if times_of_one == 0 or times_of_other == 0:
            return None
        if len(base) == 1:
            return self.repeated(base[0], times_of_one + times_of_other)
        return self.long_text(base, times_of_one + times_of_other)


def number_of_signs(text):
    """How many signs a plain or long text has."""
    return len(text) if isinstance(text, str) else text.length


def root_of(text):
    """The shortest text that a plain text repeats."""
    return text[:(text + text).find(text, 1)]


def common_base(one, other):
    """The pieces that two pieces repeat, if they repeat the same."""
    if not isinstance(one, str):
        return one.pieces
    if not isinstance(other, str):
        return other.pieces
    # Just texts that repeat the same one can change places.
    return (root_of(one),) if one + other == other + one else ()


def times_of(base, piece):
    """How many times a piece repeats the pieces of a base; 0 if it is something else."""
    if not isinstance(piece, str):
        return piece.times if piece.pieces == base else 0
    if len(base) != 1:
        return 0
    times = len(piece) // len(base[0])
    return times if base[0] * times == piece else 0


class Visit:
    """A long text that is being changed, and how far.

    The states in which its turns begin are kept with the turns, for what begins in a state
    again goes on as it did.
    """

    def __init__(self, text, state):
        self.text = text
        self.entry = state
        self.state = state
        self.starts = {state: 0}
        self.turns = []
        self.made = []


class Passage:
    """The way of a change through a long text.

    change(text, state) tells of a plain text, and of the state in which what stands before it
    left the change, a tuple: the pieces that come of it, and the state in which it is left.
    """

    def __init__(self, change):
        self.change = change
        self.joining = Joining()
        self.known = {}

    def changed(self, text, state):
        """What comes of a long text that is entered in a state, and the state in which it is left."""
        visits = [Visit(text, state)]
        while visits:
            visit = visits[-1]
            if len(visit.made) < len(visit.text.pieces):
                self.go_on(visits)
            else:
                visit.turns.append(self.joining.joined(visit.made))
                visit.made = []
                if len(visit.turns) == visit.text.times or visit.state in visit.starts:
                    self.known[(visit.text, visit.entry)] = self.outcome(visit)
                    visits.pop()
                else:
                    visit.starts[visit.state] = len(visit.turns)
        return self.known[(text, state)]

    def go_on(self, visits):
        """Goes past the next piece of the innermost visit, or into it."""
        visit = visits[-1]
        piece = visit.text.pieces[len(visit.made)]
        key = (piece, visit.state)
        if key not in self.known:
            if not isinstance(piece, str):
                visits.append(Visit(piece, visit.state))
                return
            change = self.change
            answer = change(piece, visit.state)
            self.known[key] = (self.joining.joined(answer[0]), answer[1])
        visit.made.append(self.known[key][0])
        visit.state = self.known[key][1]

    def outcome(self, visit):
        """What comes of a long text, as far as its turns differ, and the state in which it is left."""
        times = visit.text.times
        if len(visit.turns) == times:
            return (self.joining.joined(visit.turns), visit.state)
        begin = visit.starts[visit.state]
        cycle = visit.turns[begin:]
        rest = (times - begin) % len(cycle)
        cycles = self.joining.repeated(self.joining.joined(cycle), (times - begin) // len(cycle))
        states = list(visit.starts)
        return (self.joining.joined(visit.turns[:begin] + [cycles] + cycle[:rest]), states[begin + rest])


def replaced(text, old, new):
    """A text in which each occurrence of another one is replaced."""
    whole = text
    if isinstance(text, str):
        if len(text) + text.count(old) * (len(new) - len(old)) <= LONGEST_PLAIN:
            return text.replace(old, new)
        whole = LongText((text,), 1)
    passage = Passage(lambda piece, held: replaced_in_piece(piece, held, old, new))
    answer = passage.changed(whole, 0)
    return plain_if_short(passage.joining.joined([answer[0], old[:answer[1]]]))


def replaced_in_piece(piece, held, old, new):
    """What comes of a plain piece; so many signs of the old text are held back before it, and after it."""
    parts = (old[:held] + piece).split(old)
    pieces = []
    for part in parts[:-1]:
        pieces.append(part)
        pieces.append(new)
    rest = parts[-1]
    length = begun_length(rest, old)
    pieces.append(rest[:len(rest) - length])
    return (pieces, length)


def begun_length(text, old):
    """How many signs at the end of a text may be the beginning of the old text."""
    for length in range(min(len(text), len(old) - 1), 0, -1):
        if text.endswith(old[:length]):
            return length
    return 0


def in_upper_case(text):
    """A text with its letters in upper case."""
    if isinstance(text, str):
        return text.upper()
    return changed_in_pieces(text, lambda piece, state: ([piece.upper()], state))


def in_lower_case(text):
    """A text with its letters in lower case."""
    if isinstance(text, str):
        return text.lower()
    return changed_in_pieces(text, lambda piece, state: ([piece.lower()], state))


def with_short_gaps(text):
    """A text that has, if it is long, just one space for each white space."""
    if isinstance(text, str):
        return text
    if text.spaced is None:
        text.spaced = changed_in_pieces(text, with_short_gaps_in_piece)
    return text.spaced


def with_short_gaps_in_piece(piece, is_in_gap):
    """A plain piece with one space for each white space; 1 for one that began before it or goes on."""
    words = words_between_spaces(piece)
    kept = [word for word in words if word != ""]
    before = " " if words[0] == "" and is_in_gap == 0 else ""
    if not kept:
        return ([before], 1)
    after = " " if words[-1] == "" else ""
    return ([before, " ".join(kept), after], len(after))


def changed_in_pieces(text, change):
    """A long text after a change that holds nothing back."""
    return plain_if_short(Passage(change).changed(text, 0)[0])


def plain_if_short(text):
    """A text as a plain one, unless it is too long for that."""
    if isinstance(text, str) or text.length > LONGEST_PLAIN:
        return text
    written = []
    left = [text]
    while left:
        piece = left.pop()
        if isinstance(piece, str):
            written.append(piece)
        else:
            left.extend(list(reversed(piece.pieces * piece.times)))
    return "".join(written)
