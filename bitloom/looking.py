"""The expressions of a design that is unrolled: their faults, and their plans.

A plan is a list of steps, by which a value is made as on a heap of values: ("thing", thing) puts the value of an
in, out, wire or register on it; ("read", thing) takes one and puts what a memory has there; ("word", width, n)
puts n; ("cut", low, width) and each other (word,) take as many as the word has members that are expressions, and
put what it makes of them.
"""

from bitloom.errors import BadDesign
from bitloom.forms import MEMBERS
from bitloom.instances import number_in, rounds_in, unrolled
from bitloom.names import is_width
from bitloom.rowforms import fitting_width

WITH_VALUES = ("in", "out", "wire", "reg")


class Look:
    """A look at one expression in an instance: the plan so far, and the widths of the values that it puts."""

    def __init__(self, instance, sizes):
        self.instance = instance
        self.sizes = sizes
        self.walk = []
        self.widths = []

    def put(self, step, width):
        """Go on by a step that puts a value of a width."""
        self.walk.append(step)
        self.widths.append(width)


def _thing_at(instance, values, place, path, sorts):
    """The thing that a place at a path means; raise BadDesign if it means none, or none of the sorts."""
    rounds = rounds_in(place, values, instance.name, path)
    thing = instance.things.get((place[1], rounds))
    if thing is None:
        raise BadDesign("unknown", instance.name, path)
    if thing.kind not in sorts:
        raise BadDesign("sort", instance.name, path)
    return thing


def _memory_of(look, part, path):
    """The memory that a read at a path means."""
    return _thing_at(look.instance, look.sizes, part[1], path + (1,), ("mem",))


def _look_at_place(look, part, path):
    thing = _thing_at(look.instance, look.sizes, part, path, WITH_VALUES)
    look.put(("thing", thing), thing.width)


def _look_at_of(look, part, path):
    thing = _thing_at(look.instance, look.sizes, part[1], path + (1,), ("use",))
    port = thing.inside.things.get((part[2], ()))
    if port is None or port.kind != "out":
        raise BadDesign("port", look.instance.name, path)
    look.put(("thing", port), port.width)


def _look_at_read(look, part, path):
    memory = _memory_of(look, part, path)
    look.widths.pop()
    look.put(("read", memory), memory.width)


def _look_at_word(look, part, path):
    where = look.instance.name
    width = number_in(part[1], look.sizes, where, path + (1,))
    number = number_in(part[2], look.sizes, where, path + (2,))
    if not is_width(width):
        raise BadDesign("width", where, path + (1,))
    look.put(("word", width, number & (1 << width) - 1), width)


def _look_at_cut(look, part, path):
    where = look.instance.name
    low = number_in(part[2], look.sizes, where, path + (2,))
    width = number_in(part[3], look.sizes, where, path + (3,))
    if low < 0 or width < 1 or low + width > look.widths.pop():
        raise BadDesign("cut", where, path)
    look.put(("cut", low, width), width)


LOOKS = {
    "name": _look_at_place,
    "at": _look_at_place,
    "of": _look_at_of,
    "read": _look_at_read,
    "word": _look_at_word,
    "cut": _look_at_cut,
}


def _look_behind(look, part, path):
    """Look at an expression at a path whose members that are expressions were looked at."""
    if part[0] in LOOKS:
        action = LOOKS[part[0]]
        action(look, part, path)
        return
    many = len(part) - 1
    width = fitting_width(part[0], look.widths[-many:])
    if width is None:
        raise BadDesign("width" if part[0] == "join" else "unlike", look.instance.name, path)
    del look.widths[-many:]
    look.put((part[0],), width)


def _look_at(instance, values, expression, path):
    """The pair of the plan and the width of an expression at a path."""
    look = Look(instance, values)
    # Expressions whose members are looked at first wait in a list of their own, however deep they are.
    todo = [(expression, path, False)]
    while todo:
        part, at, is_ready = todo.pop()
        inner = [k for k, kind in enumerate(MEMBERS[part[0]], start=1) if kind == "expression"]
        if is_ready or not inner:
            _look_behind(look, part, at)
            continue
        if part[0] == "read":
            # The place of a read stands ahead of what tells where it reads.
            _memory_of(look, part, at)
        todo.append((part, at, True))
        todo.extend([(part[k], at + (k,), False) for k in inner[::-1]])
    return look.walk, look.widths[0]


def _look_at_reg(instance, told):
    item, path, values, thing = told
    steps, width = _look_at(instance, values, item[4], path + (4,))
    if width != thing.width:
        raise BadDesign("unlike", instance.name, path + (4,))
    thing.plans.append(steps)


def _look_at_mem(instance, told):
    item, path, values, thing = told
    widths = []
    for k in (4, 5, 6):
        steps, width = _look_at(instance, values, item[k], path + (k,))
        thing.plans.append(steps)
        widths.append(width)
    if widths[1] != thing.width:
        raise BadDesign("unlike", instance.name, path + (5,))
    if widths[2] != 1:
        raise BadDesign("unlike", instance.name, path + (6,))


def _look_at_drive(instance, told):
    item, path, values, _ = told
    thing = _thing_at(instance, values, item[1], path + (1,), ("wire", "out"))
    steps, width = _look_at(instance, values, item[2], path + (2,))
    if width != thing.width:
        raise BadDesign("unlike", instance.name, path + (2,))
    thing.plans.append(steps)


def _look_at_use(instance, told):
    item, path, values, thing = told
    ports = path + (4,)
    things = thing.inside.things
    for k, (name, expression) in enumerate(item[4]):
        port = things.get((name, ()))
        if port is None or port.kind != "in" or port.plans:
            raise BadDesign("port", instance.name, ports + (k,))
        steps, width = _look_at(instance, values, expression, ports + (k, 1))
        if width != port.width:
            raise BadDesign("unlike", instance.name, ports + (k, 1))
        port.plans.append(steps)
    if any([port.kind == "in" and not port.plans for port in things.values()]):
        raise BadDesign("ports", instance.name, ports)


LOOKS_AT_ITEMS = {
    "reg": _look_at_reg,
    "mem": _look_at_mem,
    "drive": _look_at_drive,
    "use": _look_at_use,
}


def looked_through(design):
    """The list of the instances of a design, their things having plans; raise BadDesign with its first fault."""
    instances = unrolled(design)
    for instance in instances:
        for told in instance.told:
            if told[0][0] in LOOKS_AT_ITEMS:
                action = LOOKS_AT_ITEMS[told[0][0]]
                action(instance, told)
    for instance in instances:
        for thing in instance.things.values():
            if thing.kind in ("wire", "out") and len(thing.plans) != 1:
                raise BadDesign("driven", instance.name, thing.path)
    return instances
