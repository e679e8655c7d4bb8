"""The instances of a design, and what their items tell when they are unrolled."""

from bitloom.errors import BadDesign
from bitloom.laps import Laps
from bitloom.names import is_width
from bitloom.numbers import reckoned

MOST_UNROLLED = 10000
MOST_AROUND = 20
MOST_MANY = 256
TOP_PATH = (1,)


class Thing:
    """What an item tells: an in, out, wire, register, memory or instance, with its flat name and its path."""

    def __init__(self, kind, name, path):
        self.kind = kind
        self.name = name
        self.path = path
        self.width = 0
        self.many = 1
        self.start = 0
        self.inside = None
        # What its value hangs on: of an in, out or wire what drives it, of a register or a memory its expressions.
        self.plans = []


class Instance:
    """An instance of a module, with what its items tell, as they are unrolled."""

    def __init__(self, name, place, sizes, around):
        self.name = name
        self.place = place
        self.sizes = sizes
        self.around = around
        self.told = []
        self.things = {}
        self.depths = {}
        # How many items and rounds were met in the design when a name was told first.
        self.since = {}

    def prefix(self):
        """What stands ahead of the flat names of its things."""
        return self.name + "." if self.name else ""


class Use:
    """An instance that is told, and not unrolled yet, its thing having the path of the part that tells it.

    The member first of this part is the name of its module, the next one its numbers; sizes tells what names have
    values there.
    """

    def __init__(self, thing, part, first, sizes):
        self.thing = thing
        self.part = part
        self.first = first
        self.sizes = sizes


class Unroller:
    """A design whose items are unrolled: the places of its modules, and how much is unrolled."""

    def __init__(self, design):
        self.tree = design
        self.places = {module[0]: k for k, module in enumerate(design[0])}
        self.met = 0

    def meet(self, where, path):
        """Count one item or round more."""
        self.met += 1
        if self.met > MOST_UNROLLED:
            raise BadDesign("great", where, path)

    def begin_laps(self, instance, laps):
        """Keep what was met and told ahead of the first one of some rounds."""
        laps.begun = self.met
        laps.told = len(instance.told)

    def pass_laps(self, instance, laps, item):
        """Count rounds that are all like the first one without unrolling them, where nothing else is met in them.

        Rounds that tell something are passed only if there are too many of them: then some later one is "great".
        """
        many = self.met - laps.begun
        by = min(laps.high - laps.low, (MOST_UNROLLED - self.met) // many)
        tells = len(instance.told) > laps.told
        if (tells and by == laps.high - laps.low) or not laps.is_steady(item, instance.since):
            return
        self.met += by * many
        laps.low += by


def number_in(number, values, where, path):
    """What a number at a path is, in an instance; raise BadDesign if it is bad."""
    worth = reckoned(number, values)
    if worth is None:
        raise BadDesign("number", where, path)
    return worth


def _numbers_in(numbers, values, where, path):
    """The list of what the members of a tuple of numbers at a path are."""
    return [number_in(number, values, where, path + (k,)) for k, number in enumerate(numbers)]


def rounds_in(place, values, where, path):
    """The rounds that a place at a path tells."""
    return () if place[0] == "name" else tuple(_numbers_in(place[2], values, where, path + (2,)))


def _check_names(modules):
    """Raise BadDesign if two modules have one name, or two sizes of a module."""
    earlier = {}
    for k, (name, sizes, _) in enumerate(modules):
        if name in earlier:
            raise BadDesign("double", "", (0, k, 0))
        earlier[name] = True
        for j, size in enumerate(sizes):
            if size in sizes[:j]:
                raise BadDesign("double", "", (0, k, 1, j))


def _opened(unroller, use, where, around):
    """The instance that a use tells, without its items, if it stands where, in as many others as around tells."""
    path, first = use.thing.path, use.first
    name, numbers = use.part[first], use.part[first + 1]
    if name not in unroller.places:
        raise BadDesign("module", where, path + (first,))
    place = unroller.places[name]
    sizes = _numbers_in(numbers, use.sizes, where, path + (first + 1,))
    told = unroller.tree[0][place][1]
    if len(sizes) != len(told):
        raise BadDesign("sizes", where, path + (first + 1,))
    if around > MOST_AROUND:
        raise BadDesign("great", where, path)
    return Instance(use.thing.name, place, dict(zip(told, sizes)), around)


def _measure(thing, item, values, where):
    """Tell a thing that is no instance its width, and how many values it has, or its start."""
    path = thing.path
    numbers = [item[2], item[3]] if item[0] in ("reg", "mem") else [item[2]]
    found = [number_in(number, values, where, path + (k + 2,)) for k, number in enumerate(numbers)]
    if not is_width(found[0]):
        raise BadDesign("width", where, path + (2,))
    thing.width = found[0]
    if item[0] == "mem":
        if not 1 <= found[1] <= MOST_MANY:
            raise BadDesign("many", where, path + (3,))
        thing.many = found[1]
    elif item[0] == "reg":
        thing.start = found[1] & (1 << thing.width) - 1


def _tell(instance, item, path, values, rounds):
    """Add the thing that an item tells to an instance."""
    sort, name = item[0], item[1]
    if rounds and sort in ("in", "out"):
        raise BadDesign("round", instance.name, path)
    flat_name = instance.prefix() + name + "".join(f".{number}" for number in rounds)
    thing = Thing(sort, flat_name, path)
    if sort != "use":
        _measure(thing, item, values, instance.name)
    if (name, rounds) in instance.things or instance.depths.get(name, len(rounds)) != len(rounds):
        raise BadDesign("double", instance.name, path)
    instance.things[(name, rounds)] = thing
    instance.depths[name] = len(rounds)
    instance.told.append((item, path, values, thing))


def _met_items(items, path, values, rounds):
    """What is to be done for the items of a tuple at a path, the last one first."""
    return [(item, path + (k,), values, rounds, None) for k, item in enumerate(items)][::-1]


def _laps_of(item, path, values, where):
    """The rounds of an each, none of which is begun."""
    low = number_in(item[2], values, where, path + (2,))
    if low < 0:
        raise BadDesign("number", where, path + (2,))
    high = number_in(item[3], values, where, path + (3,))
    if high < 0:
        raise BadDesign("number", where, path + (3,))
    return Laps(low, high)


def _go_on(unroller, instance, todo, task):
    """Go on with the rounds of an each."""
    item, path, values, rounds, laps = task
    if laps.done == 1 and laps.low < laps.high:
        unroller.pass_laps(instance, laps, item)
    if laps.low >= laps.high:
        return
    if laps.begun is None:
        unroller.begin_laps(instance, laps)
    unroller.meet(instance.name, path)
    todo.append(task)
    number = laps.next_number()
    todo.extend(_met_items(item[4], path + (4,), {**values, item[1]: number}, rounds + (number,)))


def _meet_item(unroller, instance, todo, task):
    """Unroll one item that is met."""
    item, path, values, rounds, _ = task
    unroller.meet(instance.name, path)
    if item[0] == "each":
        todo.append((item, path, values, rounds, _laps_of(item, path, values, instance.name)))
    elif item[0] == "when":
        branch = 2 if number_in(item[1], values, instance.name, path + (1,)) else 3
        todo.extend(_met_items(item[branch], path + (branch,), values, rounds))
    elif item[0] == "drive":
        instance.told.append((item, path, values, None))
    else:
        _tell(instance, item, path, values, rounds)
        instance.since.setdefault(item[1], unroller.met)


def _unroll(unroller, instance):
    """Unroll the items of an instance."""
    # A task has an item, its path, the values and the rounds around it, and of an each that is begun its laps.
    todo = _met_items(unroller.tree[0][instance.place][2], (0, instance.place, 2), instance.sizes, ())
    while todo:
        task = todo.pop()
        if task[4] is None:
            _meet_item(unroller, instance, todo, task)
        else:
            _go_on(unroller, instance, todo, task)


def _uses_in(instance):
    """The triples (use, where, around) of the instances that the items of an instance told, the last one first."""
    found = []
    for item, _, values, thing in instance.told:
        if item[0] == "use":
            found.append((Use(thing, item, 2, values), instance.name, instance.around + 1))
    return found[::-1]


def unrolled(design):
    """The list of the instances of a design; raise BadDesign with the first fault that is met by unrolling."""
    _check_names(design[0])
    unroller = Unroller(design)
    found = []
    todo = [(Use(Thing("use", "", TOP_PATH), design[1], 0, {}), "", 0)]
    while todo:
        use, where, around = todo.pop()
        instance = _opened(unroller, use, where, around)
        thing = use.thing
        thing.inside = instance
        found.append(instance)
        _unroll(unroller, instance)
        todo.extend(_uses_in(instance))
    return found
