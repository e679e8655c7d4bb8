"""A plain model of a desk: what stands at it comes from its acts each time, and each stage is a row of a table."""

from models import model_fault
from samples import random_part

from bitloom.bits import config_bits
from bitloom.blasting import graph_of
from bitloom.cells import cells_of
from bitloom.chain import STEP_WORDS, stepped
from bitloom.checker import check_design
from bitloom.configs import config_of
from bitloom.errors import BadRing, LoomError, NoRoom
from bitloom.fabric import check_fabric
from bitloom.graphs import cut_graph
from bitloom.laying import lay
from bitloom.mapping import mapped
from bitloom.names import is_name
from bitloom.texts import read_design
from bitloom.trees import check_tree
from bitloom.unrolling import flat_of

STAGES = ("design", "flat", "graph", "steps", "net", "cells", "laid", "bits")
UP_TO = {"fault": "bits", "flat": "flat", "graph": "steps", "shift": "steps", "net": "net", "cells": "cells", "laid": "laid", "bits": "bits",
         "machine": "bits", "outputs": "bits"}
MODULES = [read_design(f"design {{ {text} top m; }}")[0][0] for text in (
    "module m { in a bits 1; out z bits 1; z = ~a; }",
    "module m { in a bits 1; out z bits 1; wire y bits 1; y = ~a; z = y; }",
    "module m { in a bits 1; out z bits 1; reg r bits 1 = 1 <- a ^ r; z = r; }",
    "module m { in a bits 1; out z bits 1; z = a & z; }",
    "module m { in a bits 1; out z bits 1; z = b; }",
    "module m { in a bits 1; out z bits 1; u : n size 2 (a = a); z = u.z{0:1}; }",
    "module n size w { in a bits 1; out z bits w; reg r bits w = 0 <- a ? r + bits(w, 1) : r; z = r; }",
    "module n size w { in a bits 1; out z bits w; reg r bits w = 0 <- r + bits(w, 1); z = a ? r : bits(w, 0); }",
    "module o { out z bits 1; z = bits(1, 1); }",
    "module p { in a bits 3; in b bits 2; }",
)]
FABRICS = [(3, 3, 12, 2, 2), (3, 3, 12, 4, 2), (4, 3, 12, 4, 2), (1, 1, 1, 2, 1), (2, 2, 1, 3, 1)]


def random_act(dice):
    """An act, one that can be done most of the time."""
    kind = dice.randrange(24)
    if kind < 7:
        return "put", dice.choice(MODULES)
    if kind < 9:
        return "drop", dice.choice(["m", "n", "o", "p", "q"])
    if kind < 14:
        return dice.choice([("top", "m", ()), ("top", "m", ()), ("top", "n", (3,)), ("top", "n", (2,)), ("top", "o", ()), ("top", "p", ()), ("top", "n", ())])
    if kind < 17:
        return "steps", tuple(dice.choice(STEP_WORDS) for _ in range(dice.randint(0, 3)))
    if kind < 22:
        return "fabric", dice.choice(FABRICS)
    return dice.choice([("put", random_part(dice, "item", 2)), ("drop", []), ("top", "in", ()), ("top", "m", (10**6 + 1,)), ("steps", ("move",)),
                        ("fabric", (0, 1, 1, 2, 1)), ("undo",), (), None, ("put",), ["drop", "m"]])


def model_act_word(modules, act):
    """The word of an act of any kind, or None."""
    many = {"put": 2, "drop": 2, "top": 3, "steps": 2, "fabric": 2}
    if type(act) is not tuple or not act or type(act[0]) is not str or act[0] not in many or len(act) != many[act[0]]:
        return "form"
    if act[0] == "drop":
        return None if type(act[1]) is str and act[1] in modules else "name"
    if act[0] == "top":
        is_right = is_name(act[1]) and type(act[2]) is tuple and all(type(n) is int and 0 <= n <= 10**6 for n in act[2])
        return None if is_right else "top"
    if act[0] == "steps":
        is_right = type(act[1]) is tuple and len(act[1]) <= 8 and all(type(word) is str and word in STEP_WORDS for word in act[1])
        return None if is_right else "steps"
    try:
        if act[0] == "put":
            check_tree(((act[1],), ("x", ())))
        else:
            check_fabric(act[1])
    except LoomError:
        return "module" if act[0] == "put" else "fabric"
    return None


class ModelDesk:
    """A desk that is told by its acts; what is kept is a dict from stages to (made from, made, fault)."""

    def __init__(self):
        self.done, self.left, self.kept, self.work = [], [], {}, ()

    def stand(self):
        modules, top, steps, fabric = {}, None, (), None
        for act in self.done:
            if act[0] == "put":
                modules[act[1][0]] = act[1]
            elif act[0] == "drop":
                modules.pop(act[1])
            elif act[0] == "top":
                top = act[1:]
            elif act[0] == "steps":
                steps = act[1]
            else:
                fabric = act[1]
        return modules, top, steps, fabric

    def design(self):
        modules, top, _, _ = self.stand()
        told = None if top is None else (top[0], tuple(("number", n) for n in top[1]))
        return tuple(modules[name] for name in sorted(modules)), told

    def do(self, act):
        self.done, self.left = self.done + [act], []

    def undo(self):
        self.left.append(self.done.pop())

    def redo(self):
        self.done.append(self.left.pop())

    def made(self, stage, told):
        """What a stage is made from, what it makes, and its fault."""
        _, _, steps, fabric = self.stand()
        if stage == "design":
            given = self.design()
            return given, given, design_fault(given)
        if stage in ("flat", "graph", "cells"):
            given = told[{"flat": "design", "graph": "flat", "cells": "net"}[stage]]
            call = {"flat": flat_of, "graph": lambda flat: cut_graph(graph_of(flat)), "cells": cells_of}[stage]
            return given, call(given), None
        if stage == "steps":
            return (told["graph"], steps), stepped(told["graph"], steps), None
        if stage == "net":
            graph = told["steps"][0]
            return (graph, fabric and fabric[3]), fabric and mapped(graph, fabric[3]), None if fabric else ("net", "fabric")
        if stage == "laid":
            try:
                return (told["cells"], fabric), lay(fabric, told["cells"]), None
            except NoRoom as error:
                return (told["cells"], fabric), None, ("laid", error.word)
        given = (told["cells"], told["laid"], fabric)
        return given, config_bits(config_of(fabric, given[0], given[1])), None

    def ask(self, asking):
        """What an asking tells, or its fault; what is kept changes as S10.5 says."""
        kept, told, work, fault = dict(self.kept), {}, [], None
        for stage in STAGES[:STAGES.index(UP_TO[asking]) + 1]:
            row = self.made(stage, told)
            if stage not in kept or kept[stage][0] != row[0]:
                kept[stage] = row
                work.append(stage)
            told[stage], fault = kept[stage][1:]
            if fault:
                break
        if asking == "fault" or not fault:
            self.kept, self.work = kept, tuple(work)
        return fault, told


def design_fault(design):
    """The fault of the first stage, or None."""
    modules, top = design
    if top is None or not modules:
        return "design", "top"
    fault = model_fault(design)
    if fault:
        return ("design", *fault)
    try:
        check_design(design)
    except BadRing as ring:
        return "design", tuple(ring.names)
    return None
