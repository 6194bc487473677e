"""Running a program on a document."""

from treefiltersdesk.actions import changed_item
from treefiltersdesk.errors import TooLarge
from treefiltersdesk.expressions import DEEPEST
from treefiltersdesk.normal import normal_blocks
from treefiltersdesk.selecting import holding, places_of
from treefiltersdesk.trees import with_lists
from treefiltersdesk.writing import length_of_notation, notation_of

MOST_STEPS = 200
LONGEST_NOTATION = 3000
ROLES = {"blocks": "block", "inlines": "inline"}


def executed(steps, blocks):
    """The execution of a program on a document, at its end."""
    execution = Execution(blocks)
    execution.execute_steps(steps)
    return execution


class Execution:
    """A document on its way through a program, always in normal form.

    For each step `blocks` and `inlines` it keeps for how many items the selector held.
    """

    def __init__(self, blocks):
        self.blocks = normal_blocks(blocks)
        self.notation = notation_of(self.blocks)
        self.selected = []

    def execute_steps(self, steps):
        """Executes steps one after another."""
        for step in steps:
            if step.head == "repeat":
                self.execute_repeatedly(step.parts[1].number, step.parts[2:])
            elif step.head == "when":
                if True in holding(step.parts[1], places_of(self.blocks)):
                    self.execute_steps(step.parts[2:])
            else:
                self.execute_change(step)

    def execute_repeatedly(self, times, steps):
        """Executes steps until the document stays as it is, but not more than so many times."""
        for turn in range(times):
            before = self.notation
            self.execute_steps(steps)
            if self.notation == before:
                return

    def execute_change(self, step):
        """Executes a step `blocks` or `inlines`."""
        if len(self.selected) == MOST_STEPS:
            raise TooLarge()
        places = places_of(self.blocks)
        held = holding(step.parts[1], places)
        role = ROLES[step.head]
        chosen = [place.item.role == role and answer for place, answer in zip(places, held)]
        self.selected.append(chosen.count(True))
        self.blocks = normal_blocks(Change(chosen, step.parts[2:]).changed_list(self.blocks))
        deepest = max([block.depth for block in self.blocks], default=0)
        if length_of_notation(self.blocks) > LONGEST_NOTATION or deepest > DEEPEST:
            raise TooLarge()
        self.notation = notation_of(self.blocks)


class Change:
    """The actions of a step on their way through a document, in which these items are chosen."""

    def __init__(self, chosen, actions):
        self.chosen = chosen
        self.actions = actions
        self.passed = 0

    def changed_list(self, siblings):
        """A list of items after the actions, the inner items before the items around them."""
        result = []
        for item in siblings:
            is_chosen = self.chosen[self.passed]
            self.passed += 1
            changed = with_lists(item, lambda inner, form: self.changed_list(inner))
            if is_chosen:
                result.extend(changed_item(changed, self.actions))
            else:
                result.append(changed)
        return result
