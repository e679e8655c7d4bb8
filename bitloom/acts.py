"""The acts that change what stands at a desk."""

from bitloom.chain import STEP_WORDS
from bitloom.errors import BadTree
from bitloom.fabric import is_fabric
from bitloom.names import is_count, is_name
from bitloom.trees import check_tree

MEMBERS = {"put": 2, "drop": 2, "top": 3, "steps": 2, "fabric": 2}
MOST_STEPS = 8
MOST_SIZE = 1000000


class Standing:
    """What stands at a desk: a dict of modules, a top, steps and a fabric; it is never changed."""

    def __init__(self, modules, top, steps, fabric):
        self.by_name = dict(modules)
        self.top_told = top
        self.steps_told = steps
        self.fabric_told = fabric

    def design_told(self):
        """The design."""
        modules = tuple([self.by_name[name] for name in sorted(self.by_name)])
        if self.top_told is None:
            return modules, None
        name, sizes = self.top_told
        return modules, (name, tuple([("number", size) for size in sizes]))

    def after(self, act):
        """What stands when an act is done that can be done."""
        modules, top = dict(self.by_name), self.top_told
        steps, fabric = self.steps_told, self.fabric_told
        if act[0] == "put":
            modules[act[1][0]] = act[1]
        elif act[0] == "drop":
            del modules[act[1]]
        elif act[0] == "top":
            top = (act[1], act[2])
        elif act[0] == "steps":
            steps = act[1]
        else:
            fabric = act[1]
        return Standing(modules, top, steps, fabric)


def _is_module(value):
    """Whether a value, which may be anything, is a module."""
    try:
        check_tree(((value,), ("top_of_all", ())))
    except BadTree:
        return False
    return True


def _is_top(name, sizes):
    """Whether a name and sizes, which may be anything, may be those of a top."""
    if not is_name(name) or not isinstance(sizes, tuple):
        return False
    return all([is_count(size) and size <= MOST_SIZE for size in sizes])


def _are_steps(value):
    """Whether a value, which may be anything, is a tuple of steps."""
    if not isinstance(value, tuple) or len(value) > MOST_STEPS:
        return False
    return all([isinstance(word, str) and word in STEP_WORDS for word in value])


def word_against(standing, act):
    """The word with which an act, which may be anything, cannot be done, or None."""
    if not isinstance(act, tuple) or not act or not isinstance(act[0], str) or len(act) != MEMBERS.get(act[0]):
        return "form"
    if act[0] == "put":
        return None if _is_module(act[1]) else "module"
    if act[0] == "drop":
        return None if isinstance(act[1], str) and act[1] in standing.by_name else "name"
    if act[0] == "top":
        return None if _is_top(act[1], act[2]) else "top"
    if act[0] == "steps":
        return None if _are_steps(act[1]) else "steps"
    return None if is_fabric(act[1]) else "fabric"
