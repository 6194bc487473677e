"""The interface: programs and documents as lists of bytes, answers as lists of whole numbers."""

from treefiltersdesk.errors import BadTemplate, Fault, NotDocument, TooLarge
from treefiltersdesk.programs import read_program
from treefiltersdesk.reading import read_document
from treefiltersdesk.running import Execution
from treefiltersdesk.texts import bytes_of


def check(program):
    """0 and the number of outermost steps, or the kind and the position of the first error."""
    try:
        steps = read_program(program)
    except Fault as fault:
        return [fault.kind, fault.position]
    return [0, len(steps)]


def apply(program, tree):
    """The length and the bytes of the canonical notation of a document after a program."""
    try:
        steps = read_program(program)
        blocks = read_document(tree)
        execution = Execution(blocks)
        execution.execute_steps(steps)
    except Fault:
        return [-21]
    except NotDocument:
        return [-20]
    except TooLarge:
        return [-28]
    except BadTemplate:
        return [-33]
    notation = bytes_of(execution.notation)
    return [len(notation)] + notation
