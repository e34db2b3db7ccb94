"""Patches: reading their steps, and doing them one behind another."""

from onevalues.changes import add_at, put_at, take_at
from onevalues.kinds import LIST, YES
from onevalues.paths import read_path
from onevalues.refusals import LeadsNowhere, NoPath, NoStep, NoValue, StepLeadsNowhere, StepMakesNoValue
from onevalues.shapes import has_names
from onevalues.trees import make_tree

PUT = 1
TAKE = 2
ADD = 3


# A step of a patch: what is done, the steps of the path at which it is, and the part that is put or added.
class Step:
    def __init__(self, action, path, part):
        self.action = action
        self.path = path
        self.part = part


# All steps are read before the first is done.
def read_patch(row, whole):
    if whole.kind != LIST:
        raise NoStep(0)
    return [read_patch_step(row, part, i) for i, part in enumerate(whole.members)]


def read_patch_step(row, part, i):
    if has_names(part, ("at", "put")):
        return Step(PUT, read_at(row, part.members[0], i), part.members[1])
    if has_names(part, ("at", "take")) and part.members[1].kind == YES:
        return Step(TAKE, read_at(row, part.members[0], i), part.members[1])
    if has_names(part, ("add", "at")):
        return Step(ADD, read_at(row, part.members[1], i), part.members[0])
    raise NoStep(i)


def read_at(row, part, i):
    try:
        return read_path(row, part)
    except NoPath:
        raise NoStep(i) from None


# The tree is that of the value that is patched, the row that of the patch. Gives back the top of what came.
def do_patch(tree, row, steps):
    top = tree
    for i, step in enumerate(steps):
        try:
            top = do_step(top, row, step)
        except LeadsNowhere:
            raise StepLeadsNowhere(i) from None
        except NoValue:
            raise StepMakesNoValue(i) from None
    return top


def do_step(top, row, step):
    if step.action == TAKE:
        return take_at(top, step.path)
    x = make_tree(row, step.part)
    if step.action == PUT:
        return put_at(top, step.path, x, step.part.depth)
    return add_at(top, step.path, x, step.part.depth)
