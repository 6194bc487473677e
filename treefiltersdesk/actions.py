"""Actions, applied to one selected item, and the templates in them."""

from treefiltersdesk.errors import BadTemplate, TooLarge
from treefiltersdesk.expressions import DEEPEST, make_integer, make_list, make_string
from treefiltersdesk.longtexts import in_lower_case, in_upper_case, replaced
from treefiltersdesk.trees import LABEL_PARTS, TARGET_PARTS, children_of, with_lists, with_part

UNWRAPPED = ("quote", "group", "note", "emph", "strong", "strike", "super", "sub", "caps", "link", "image",
             "span", "bullets", "numbers")
NEVER_WITHOUT_LABEL = ("note", "ref", "noteref")


def changed_item(item, actions):
    """The items that stand instead of a selected item after the actions."""
    before = []
    current = [item]
    after = []
    for action in actions:
        if action.head == "before":
            before = before + filled_template(action, current, item.role)
        elif action.head == "after":
            after = filled_template(action, current, item.role) + after
        elif action.head == "replace":
            current = filled_template(action, current, item.role)
        else:
            current = changed_items(current, action)
    return before + current + after


def changed_items(current, action):
    """The current items after an action without a template."""
    if action.head == "remove":
        return []
    if action.head == "unwrap":
        return unwrapped(current)
    if action.head in TEXT_CHANGES:
        texts = TextChange(action)
        return [texts.changed_in(item) for item in current]
    return [CHANGES[action.head](item, action.parts[1:]) for item in current]


def filled_template(action, current, role):
    """The items of a template, filled with the current items."""
    check_depth(current)
    contents = []
    for item in current:
        contents.extend(children_of(item))
    result = filled(action.parts[1:], current, contents)
    check_depth(result)
    for expression in result:
        if expression.role != role:
            raise BadTemplate()
    return result


def check_depth(expressions):
    """Refuses expressions that are nested too deeply."""
    for expression in expressions:
        if expression.depth > DEEPEST:
            raise TooLarge()


def filled(parts, current, contents):
    """The parts of a template or of a list in it, filled with items and with the items in them."""
    result = []
    for part in parts:
        if part.head == "self" and len(part.parts) == 1:
            result.extend(current)
        elif part.head == "content" and len(part.parts) == 1:
            result.extend(contents)
        elif part.shape == "list":
            result.append(make_list(filled(part.parts, current, contents)))
        else:
            result.append(part)
    return result


def unwrapped(current):
    """The items, those that can be unwrapped replaced by the items in them."""
    result = []
    for item in current:
        if item.head in UNWRAPPED:
            result.extend(children_of(item))
        else:
            result.append(item)
    return result


def with_level(item, level):
    """A heading with another level."""
    return with_part(item, 1, make_integer(level))


def with_set_level(item, arguments):
    """The item with the level of the action, if it is a heading."""
    return with_level(item, arguments[0].number) if item.head == "heading" else item


def with_raised_level(item, arguments):
    """The item with its level decreased, if it is a heading."""
    return with_level(item, max(item.parts[1].number - 1, 1)) if item.head == "heading" else item


def with_lowered_level(item, arguments):
    """The item with its level increased, if it is a heading."""
    return with_level(item, min(item.parts[1].number + 1, 6)) if item.head == "heading" else item


def with_set_label(item, arguments):
    """The item with the identifier or label of the action, if it can have it."""
    if item.head not in LABEL_PARTS or item.head in NEVER_WITHOUT_LABEL and arguments[0].text == "":
        return item
    return with_part(item, LABEL_PARTS[item.head], arguments[0])


def with_class(item, arguments):
    """The item with a class more, if it is a group or a span without it."""
    if item.head not in ("group", "span"):
        return item
    classes = item.parts[1].parts
    if arguments[0].text in [label.text for label in classes[1:]]:
        return item
    return with_part(item, 1, make_list(list(classes) + [arguments[0]]))


def without_class(item, arguments):
    """The item without a class, if it is a group or a span."""
    if item.head not in ("group", "span"):
        return item
    classes = item.parts[1].parts
    kept = [label for label in classes[1:] if label.text != arguments[0].text]
    return with_part(item, 1, make_list([classes[0]] + kept))


def with_set_target(item, arguments):
    """The item with the target of the action, if it can have one."""
    if item.head not in TARGET_PARTS:
        return item
    return with_part(item, TARGET_PARTS[item.head], arguments[0])


class TextChange:
    """An action on text elements. An item that stands in many places, or a text, is changed once."""

    def __init__(self, action):
        self.action = action
        self.known_items = {}
        self.known_texts = {}

    def changed_in(self, item):
        """The item with each of its text elements changed, at any depth."""
        if item not in self.known_items:
            if item.shape == "string":
                self.known_items[item] = make_string(self.changed_text(item.text))
            else:
                self.known_items[item] = with_lists(
                    item, lambda siblings, form: [self.changed_in(inner) for inner in siblings])
        return self.known_items[item]

    def changed_text(self, text):
        """A text after the action."""
        if text not in self.known_texts:
            self.known_texts[text] = TEXT_CHANGES[self.action.head](text, self.action.parts[1:])
        return self.known_texts[text]


def replaced_text(text, arguments):
    """A text with a text in it replaced by another one."""
    return replaced(text, arguments[0].text, arguments[1].text)


def upper_case_text(text, arguments):
    """A text with its letters in upper case."""
    return in_upper_case(text)


def lower_case_text(text, arguments):
    """A text with its letters in lower case."""
    return in_lower_case(text)


CHANGES = {
    "set-level": with_set_level,
    "raise": with_raised_level,
    "lower": with_lowered_level,
    "set-label": with_set_label,
    "add-class": with_class,
    "remove-class": without_class,
    "set-target": with_set_target,
}
TEXT_CHANGES = {
    "replace-text": replaced_text,
    "upper-case": upper_case_text,
    "lower-case": lower_case_text,
}
