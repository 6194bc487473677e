"""Items and the lists in them, and their plain text."""

from treefiltersdesk.expressions import make_list, rule_of

ITEM_FORMS = ("inline", "block")
SINGLE_LINES = ("para", "heading", "figure")
# Which part of an item is its identifier or label, and which its target.
LABEL_PARTS = {"heading": 2, "formula": 1, "table": 1, "figure": 1, "note": 1, "ref": 1, "noteref": 1}
TARGET_PARTS = {"figure": 2, "link": 1, "image": 1}


def lists_of(expression):
    """The lists of items directly in an item, in the order of the notation."""
    lists = []
    if expression.shape == "list":
        rule = rule_of(expression)
        firsts = len(rule[1])
        for part in expression.parts[:firsts]:
            lists.extend(lists_of(part))
        if rule[2] in ITEM_FORMS:
            lists.append(expression.parts[firsts:])
        else:
            for part in expression.parts[firsts:]:
                lists.extend(lists_of(part))
    return lists


def children_of(item):
    """The items of the lists of an item, one list after another."""
    children = []
    for siblings in lists_of(item):
        children.extend(siblings)
    return children


def with_lists(expression, change):
    """An item whose lists have been replaced, in their order, by what change(list, form) gives."""
    if expression.shape != "list":
        return expression
    rule = rule_of(expression)
    firsts = len(rule[1])
    parts = [with_lists(part, change) for part in expression.parts[:firsts]]
    if rule[2] in ITEM_FORMS:
        parts.extend(change(expression.parts[firsts:], rule[2]))
    else:
        parts.extend([with_lists(part, change) for part in expression.parts[firsts:]])
    return make_list(parts)


def with_part(item, number, part):
    """An item with another expression as one of its parts."""
    parts = list(item.parts)
    parts[number] = part
    return make_list(parts)


def plain_text(item):
    """The plain text of a block or an inline element."""
    if item.role == "block":
        return plain_text_of_block(item)
    if item.shape == "string":
        return item.text
    if item.head == "break":
        return "\n"
    if item.head == "noteref":
        return ""
    if item.head in ("code", "math", "ref"):
        return item.parts[1].text
    if item.head == "cite":
        return ", ".join([key.text for key in item.parts[1:]])
    return joined_text(children_of(item))


def plain_text_of_block(block):
    """The plain text of a block."""
    if block.head in SINGLE_LINES:
        return joined_text(children_of(block)) + "\n"
    if block.head in ("code", "formula"):
        return block.parts[2].text + "\n"
    if block.head == "terms":
        return "".join([joined_text(term.parts[1].parts) + "\n" + joined_text(term.parts[2:])
                        for term in block.parts[1:]])
    if block.head == "table":
        return plain_text_of_table(block)
    return joined_text(children_of(block))


def plain_text_of_table(table):
    """The plain text of a table: its caption, if any, and a line for each row."""
    caption = table.parts[2].parts[1:]
    lines = [joined_text(caption) + "\n"] if caption else []
    for row in table.parts[4:]:
        lines.append("\t".join([joined_text(cell.parts[1:]) for cell in row.parts[1:]]) + "\n")
    return "".join(lines)


def joined_text(siblings):
    """The plain text of a list of items."""
    return "".join([plain_text(item) for item in siblings])
