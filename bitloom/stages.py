"""What is made at a desk, stage by stage, from what it was made last, and with which fault."""

from bitloom.cells import cells_of
from bitloom.chain import bits_made, cut_of, stepped
from bitloom.checker import check_design
from bitloom.errors import BadDesign, BadRing, NoRoom
from bitloom.laying import lay
from bitloom.mapping import mapped
from bitloom.unrolling import flat_of

STAGES = ("design", "flat", "graph", "steps", "net", "cells", "laid", "bits")


class Made:
    """What a stage was made from, what it made, and its fault, a tuple, or None."""

    def __init__(self, given, result, trouble):
        self.given = given
        self.result = result
        self.trouble = trouble


def _given(standing, stage, results):
    """What a stage is made from, by what stands at the desk, and what the stages ahead made."""
    fabric = standing.fabric_told
    if stage == "design":
        return standing.design_told()
    if stage == "flat":
        return results["design"]
    if stage == "graph":
        return results["flat"]
    if stage == "steps":
        return results["graph"], standing.steps_told
    if stage == "net":
        return results["steps"][0], None if fabric is None else fabric[3]
    if stage == "cells":
        return results["net"]
    if stage == "laid":
        return results["cells"], fabric
    return results["cells"], results["laid"], fabric


def _made_design(design):
    """The stage of a design."""
    modules, top = design
    if top is None or not modules:
        return Made(design, None, ("design", "top"))
    try:
        check_design(design)
    except BadDesign as fault:
        return Made(design, None, ("design", fault.word, fault.where, fault.path))
    except BadRing as ring:
        return Made(design, None, ("design", ring.names))
    return Made(design, design, None)


def _made_laid(given):
    """The stage of what is laid."""
    cells, fabric = given
    try:
        return Made(given, lay(fabric, cells), None)
    except NoRoom as lack:
        return Made(given, None, ("laid", lack.word))


def _made_stage(stage, given):
    """A stage done anew."""
    if stage == "design":
        return _made_design(given)
    if stage == "flat":
        return Made(given, flat_of(given), None)
    if stage == "graph":
        return Made(given, cut_of(given), None)
    if stage == "steps":
        return Made(given, stepped(given[0], given[1]), None)
    if stage == "net":
        graph, k = given
        return Made(given, None, ("net", "fabric")) if k is None else Made(given, mapped(graph, k), None)
    if stage == "cells":
        return Made(given, cells_of(given), None)
    if stage == "laid":
        return _made_laid(given)
    cells, laid, fabric = given
    return Made(given, bits_made(fabric, cells, laid), None)


class Asking:
    """The stages that are gone through for an asking, kept ones standing where they can."""

    def __init__(self, standing, kept, last):
        self.kept = dict(kept)
        self.done_anew = []
        self.results = {}
        self.trouble = None
        for stage in STAGES[:STAGES.index(last) + 1]:
            given = _given(standing, stage, self.results)
            if stage not in self.kept or self.kept[stage].given != given:
                self.kept[stage] = _made_stage(stage, given)
                self.done_anew.append(stage)
            self.results[stage] = self.kept[stage].result
            self.trouble = self.kept[stage].trouble
            if self.trouble is not None:
                break
