"""Designs unrolled: their instances, their things, and flat designs."""

from bitloom.hanging import let_by
from bitloom.looking import looked_through
from bitloom.rowmaking import RowMaker


def instances_of(design):
    """The list of the triples (flat name, module, sizes) of all instances of a design without fault."""
    found = []
    for instance in looked_through(design):
        name, sizes, _ = design[0][instance.place]
        found.append((instance.name, name, tuple([instance.sizes[size] for size in sizes])))
    return found


def _things_in(instances, sorts):
    """The list of the things of some sorts that instances have, instance by instance."""
    return [thing for instance in instances for thing in instance.things.values() if thing.kind in sorts]


def things_of(design):
    """The list of the triples (sort, flat name, width) of all things of a design without fault but instances."""
    things = _things_in(looked_through(design), ("in", "out", "wire", "reg", "mem"))
    return [(thing.kind, thing.name, thing.width) for thing in things]


def _registers_of(thing):
    """The triples (name, width, start) of the registers that a register or a memory becomes."""
    if thing.kind == "reg":
        return [(thing.name, thing.width, thing.start)]
    return [(f"{thing.name}.{k}", thing.width, 0) for k in range(thing.many)]


def _with_registers(ins, keepers):
    """A maker of rows for ins and for the registers and memories of a list."""
    regs = [told for keeper in keepers for told in _registers_of(keeper)]
    maker = RowMaker([(thing.name, thing.width) for thing in ins], regs)
    for k, thing in enumerate(ins):
        maker.standing[thing.name] = k
    number = len(ins)
    for keeper in keepers:
        maker.standing[keeper.name] = number
        number += keeper.many
    return maker


def _next_rows(maker, keepers):
    """The list of the numbers of the rows of the next values of registers and memories."""
    found = []
    for keeper in keepers:
        if keeper.kind == "reg":
            found.append(maker.made(keeper.plans[0]))
        else:
            found.extend(maker.made_memory(keeper))
    return found


def flat_of(design):
    """The flat design of a design; raise BadDesign or BadRing if it is not let by."""
    instances = let_by(design)
    keepers = _things_in(instances, ("reg", "mem"))
    maker = _with_registers(_things_in(instances[:1], ("in",)), keepers)
    outs = []
    for thing in _things_in(instances[:1], ("out",)):
        outs.append((thing.name, maker.made([("thing", thing)])))
    numbers = _next_rows(maker, keepers)
    regs = [(*told, number) for told, number in zip(maker.regs, numbers)]
    return tuple(maker.ins), tuple(outs), tuple(regs), tuple(maker.rows)
