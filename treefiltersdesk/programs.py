"""Programs and selectors: reading and checking them."""

from treefiltersdesk.errors import Fault, NotSelector
from treefiltersdesk.expressions import has_form
from treefiltersdesk.reading import read_expressions

KINDS = ("para", "heading", "code", "formula", "rule", "quote", "bullets", "numbers", "terms", "table",
         "figure", "group", "note", "text", "math", "break", "noteref", "ref", "cite", "emph", "strong",
         "strike", "super", "sub", "caps", "link", "image", "span")

STEPS = ("blocks", "inlines", "repeat", "when")

# The forms of the arguments of each selector and action; "selectors" and "template" stand
# for any number of them.
SELECTORS = {
    "any": (),
    "kind": ("kind",),
    "level": ("level", "level"),
    "label": ("identifier",),
    "class": ("label",),
    "target": ("string",),
    "text": ("string",),
    "empty": (),
    "first": (),
    "last": (),
    "index": ("integer",),
    "and": ("selectors",),
    "or": ("selectors",),
    "not": ("selector",),
    "parent": ("selector",),
    "ancestor": ("selector",),
    "child": ("selector",),
    "descendant": ("selector",),
    "next": ("selector",),
    "previous": ("selector",),
}
ACTIONS = {
    "remove": (),
    "unwrap": (),
    "replace": ("template",),
    "before": ("template",),
    "after": ("template",),
    "set-level": ("level",),
    "raise": (),
    "lower": (),
    "set-label": ("identifier",),
    "add-class": ("label",),
    "remove-class": ("label",),
    "set-target": ("string",),
    "replace-text": ("filled", "string"),
    "upper-case": (),
    "lower-case": (),
}
MOST_REPEATS = 50


def read_program(data):
    """The steps of a program; its first error is raised."""
    steps = read_expressions(data)
    check_steps(steps)
    return steps


def read_selector(data):
    """The one selector of a text; its first error is raised."""
    expressions = read_expressions(data)
    if len(expressions) != 1:
        raise NotSelector()
    check_selector(expressions[0])
    return expressions[0]


def check_steps(steps):
    """Raises the first error of several steps."""
    for step in steps:
        check_step(step)


def check_step(step):
    """Raises the first error of a step."""
    if step.head not in STEPS:
        raise Fault(7, step.place)
    if len(step.parts) == 1:
        raise Fault(8, step.place)
    if step.head == "repeat":
        check_repeats(step.parts[1])
    else:
        check_selector(step.parts[1])
    if step.head in ("repeat", "when"):
        check_steps(step.parts[2:])
    else:
        for action in step.parts[2:]:
            check_action(action)


def check_repeats(argument):
    """Raises the error of the number of executions, if it has one."""
    check_shape(argument, "integer")
    if not 1 <= argument.number <= MOST_REPEATS:
        raise Fault(9, argument.place)


def check_selector(selector):
    """Raises the first error of a selector."""
    if selector.head not in SELECTORS:
        raise Fault(7, selector.place)
    forms = SELECTORS[selector.head]
    if forms == ("selectors",):
        for argument in selector.parts[1:]:
            check_selector(argument)
    else:
        check_arguments(selector, forms)


def check_action(action):
    """Raises the first error of an action."""
    if action.head not in ACTIONS:
        raise Fault(7, action.place)
    forms = ACTIONS[action.head]
    if forms != ("template",):
        check_arguments(action, forms)


def check_arguments(expression, forms):
    """Raises the first error of arguments that are to have these forms, one each."""
    if len(expression.parts) != 1 + len(forms):
        raise Fault(8, expression.place)
    for argument, form in zip(expression.parts[1:], forms):
        if form == "selector":
            check_selector(argument)
        elif form == "kind":
            check_kind(expression, argument)
        elif form in ("level", "integer"):
            check_shape(argument, "integer")
            check_range(argument, form)
        else:
            check_shape(argument, "string")
            check_range(argument, form)


def check_kind(expression, argument):
    """Raises the error of the argument of a selector `kind`, if it has one."""
    if argument.shape != "symbol":
        raise Fault(8, expression.place)
    if argument.text not in KINDS:
        raise Fault(9, argument.place)


def check_shape(argument, shape):
    """Raises an error if an argument isn't an integer or a string, as it should be."""
    if argument.shape != shape:
        raise Fault(8, argument.place)


def check_range(argument, form):
    """Raises an error if an argument of the right shape isn't one of those allowed."""
    fits = argument.text != "" if form == "filled" else has_form(argument, form)
    if not fits:
        raise Fault(9, argument.place)
