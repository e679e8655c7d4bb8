"""Slow and plain models of what the document tells, by which the package is tested; and the document's examples."""

import re

C = (
    (
        (
            "count",
            ("w",),
            (
                ("in", "on", ("number", 1)),
                ("out", "now", ("size", "w")),
                (
                    "reg",
                    "r",
                    ("size", "w"),
                    ("number", 0),
                    (
                        "mux",
                        ("name", "on"),
                        ("add", ("name", "r"), ("word", ("size", "w"), ("number", 1))),
                        ("name", "r"),
                    ),
                ),
                ("drive", ("name", "now"), ("name", "r")),
            ),
        ),
    ),
    ("count", (("number", 8),)),
)

C_FLAT = (
    (("on", 1),),
    (("now", 1),),
    (("r", 8, 0, 4),),
    (("in", 0), ("reg", 0), ("word", 8, 1), ("add", 1, 2), ("mux", 0, 3, 1)),
)

F = (
    (("on", 1),),
    (("sum", 4),),
    (("count", 3, 6, 4),),
    (("in", 0), ("reg", 0), ("word", 2, 0), ("join", 2, 0), ("add", 1, 3)),
)

T = (1, ((0, 11),), ((2, 5), (3, 4), (7, 9)), (4,))

KEYWORDS = "design module size in out wire reg mem bits for to when else top".split()

ITEM_WORDS = ("in", "out", "wire", "reg", "mem", "drive", "use", "each", "when")
NUMBER_WORDS = ("number", "size", "plus", "minus", "times", "over", "less", "same")
UNARY = ("not", "all", "any", "odd")
BINARY = ("and", "or", "xor", "add", "sub", "mul", "eq", "lt", "join", "shl", "shr", "pick")

# Texts: lexemes by one pattern, and forms by a recognizer that tries all ways at once (Earley's).

LEXEME = re.compile(
    r"(?P<skip>[ \n]+|//[^\n]*)|(?P<name>[a-z][a-z0-9_]*)|(?P<numeral>0|[1-9][0-9]*)|"
    r"(?P<sign><<|>>|==|<-|[{}()\[\];,.:=?!@#+\-*/<~&|^])"
)


def model_lexemes(text):
    """The lexemes of a text up to the first wrong character, and its place or None."""
    found = []
    place = 0
    while place < len(text):
        match = LEXEME.match(text, place)
        if match is None or match.lastgroup == "name" and len(match.group()) > 16:
            return found, place
        if match.lastgroup != "skip":
            sort = "keyword" if match.group() in KEYWORDS else match.lastgroup
            found.append((sort, match.group(), place))
        place = match.end()
    return found, None


BNF = """
DESIGN = design { MODULE MODULES top NAME SIZES ; }
MODULES = | MODULE MODULES
MODULE = module NAME { ITEMS } | module NAME size NAME NAMES { ITEMS }
NAMES = | , NAME NAMES
ITEMS = | ITEM ITEMS
SIZES = | size N1 NUMBERS
NUMBERS = | , N1 NUMBERS
ITEM = in NAME bits N1 ; | out NAME bits N1 ; | wire NAME bits N1 ; | reg NAME bits N1 = N1 <- E0 ;
ITEM = mem NAME [ N1 ] bits N1 [ E0 ] <- E0 when E0 ; | PLACE = E0 ; | NAME : NAME SIZES ( PORTS ) ;
ITEM = for NAME = N1 to N1 { ITEMS } | when N1 { ITEMS } | when N1 { ITEMS } else { ITEM ITEMS }
PORTS = | NAME = E0 MOREPORTS
MOREPORTS = | , NAME = E0 MOREPORTS
PLACE = NAME | NAME [ N1 NUMBERS ]
N1 = N2 | N1 < N2 | N1 == N2
N2 = N3 | N2 + N3 | N2 - N3
N3 = N4 | N3 * N4 | N3 / N4
N4 = NUMERAL | NAME | ( N1 )
E0 = E1 | E1 ? E0 : E0
E1 = E2 | E1 or E2
E2 = E3 | E2 ^ E3
E3 = E4 | E3 & E4
E4 = E5 | E4 == E5
E5 = E6 | E5 < E6
E6 = E7 | E6 << E7 | E6 >> E7
E7 = E8 | E7 # E8
E8 = E9 | E8 + E9 | E8 - E9
E9 = E10 | E9 * E10
E10 = E11 | E10 ! E11
E11 = E12 | ~ E11 | & E11 | or E11 | ^ E11
E12 = E13 | E12 { N1 : N1 }
E13 = PLACE | PLACE . NAME | PLACE @ E13 | bits ( N1 , N1 ) | ( E0 )
LINE = put MODULE ; | drop NAME ; | top NAME ; | top NAME size NUMERAL VALUES ; | steps WORDS ; | undo ; | redo ; | fault ;
LINE = fabric NUMERAL NUMERAL NUMERAL NUMERAL NUMERAL ; | depth ; | shift ; | work ; | rows ; | row NUMERAL ; | run ;
LINE = run LOT LOTS ;
VALUES = | , NUMERAL VALUES
WORDS = | NAME WORDS
LOTS = | ; LOT LOTS
LOT = - | NUMERAL VALUES
"""


def _bnf_rules():
    rules = {}
    for line in BNF.strip().split("\n"):
        head, _, tail = line.partition(" = ")
        head = head.removesuffix(" =")
        for way in (" " + tail + " ").split(" | "):
            rules.setdefault(head, []).append(tuple("|" if word == "or" else word for word in way.split()))
    return rules


WAYS = _bnf_rules()


def _empty_forms():
    empty = set()
    for _ in WAYS:
        for head, ways in WAYS.items():
            if any(all(symbol in empty for symbol in way) for way in ways):
                empty.add(head)
    return empty


EMPTY = _empty_forms()


def _closed(sets, items):
    """An item set with all that it asks for; items are (head, way, dot, origin)."""
    found = set(items)
    todo = list(items)
    sets.append(found)
    while todo:
        head, way, dot, origin = todo.pop()
        more = []
        if dot == len(way):
            for other in list(sets[origin]):
                if other[2] < len(other[1]) and other[1][other[2]] == head:
                    more.append((other[0], other[1], other[2] + 1, other[3]))
        elif way[dot] in WAYS:
            more = [(way[dot], other, 0, len(sets) - 1) for other in WAYS[way[dot]]]
            if way[dot] in EMPTY:
                more.append((head, way, dot + 1, origin))
        for item in more:
            if item not in found:
                found.add(item)
                todo.append(item)
    return sets


def model_wrong_place(text, form):
    """The first wrong place of a text of a form (DESIGN, E0, N1 or LINE), or None."""
    lexemes, wrong = model_lexemes(text)
    sets = []
    _closed(sets, [("START", (form,), 0, 0)])
    for sort, lexeme, place in lexemes:
        symbol = {"name": "NAME", "numeral": "NUMERAL"}.get(sort, lexeme)
        items = [
            (head, way, dot + 1, origin)
            for head, way, dot, origin in sets[-1]
            if dot < len(way) and way[dot] in (symbol, lexeme)
        ]
        if not items:
            return place
        _closed(sets, items)
    if wrong is not None:
        return wrong
    return None if ("START", (form,), 1, 0) in sets[-1] else len(text)


# Designs: each part looked at by calling itself for what is within it.


class Fault(Exception):
    """A first fault."""


def reckon(number, values):
    """What a number is, or None."""
    if number[0] == "number":
        worth = number[1]
    elif number[0] == "size":
        worth = values.get(number[1])
    else:
        one, other = reckon(number[1], values), reckon(number[2], values)
        if one is None or other is None or number[0] == "over" and other == 0:
            return None
        worth = {
            "plus": lambda: one + other,
            "minus": lambda: one - other,
            "times": lambda: one * other,
            "over": lambda: one // other,
            "less": lambda: int(one < other),
            "same": lambda: int(one == other),
        }[number[0]]()
    if worth is None or abs(worth) > 10**9:
        return None
    return worth


class Model:
    """A design looked at by S2.6 as it stands there, phase by phase."""

    def __init__(self, design):
        self.design = design
        self.count = 0
        self.instances = []
        self.look()

    def number(self, number, values, where, path):
        worth = reckon(number, values)
        if worth is None:
            raise Fault("number", where, path)
        return worth

    def look(self):
        names = []
        for m, (name, sizes, _) in enumerate(self.design[0]):
            if name in names:
                raise Fault("double", "", (0, m, 0))
            names.append(name)
            for s, size in enumerate(sizes):
                if size in sizes[:s]:
                    raise Fault("double", "", (0, m, 1, s))
        self.instance("", self.design[1][0], self.design[1][1], (1, 0), (1, 1), (1,), {}, "", 0)
        for here in self.instances:
            for row in here["rows"]:
                self.second(here, *row)
        for here in self.instances:
            for key, thing in here["things"].items():
                if thing["sort"] in ("wire", "out") and len(here["drives"].get(key, [])) != 1:
                    raise Fault("driven", here["name"], thing["path"])

    def instance(self, name, module, numbers, module_path, numbers_path, use_path, values, where, around):
        names = [part[0] for part in self.design[0]]
        if module not in names:
            raise Fault("module", where, module_path)
        m = names.index(module)
        worths = [self.number(part, values, where, numbers_path + (k,)) for k, part in enumerate(numbers)]
        _, sizes, items = self.design[0][m]
        if len(worths) != len(sizes):
            raise Fault("sizes", where, numbers_path)
        if around > 20:
            raise Fault("great", where, use_path)
        here = {
            "name": name, "module": module, "sizes": dict(zip(sizes, worths)), "rows": [], "things": {}, "drives": {},
            "ports": {}, "uses": {},
        }
        self.instances.append(here)
        self.items(here, items, (0, m, 2), here["sizes"], ())
        for item, path, values, rounds in list(here["rows"]):
            if item[0] == "use":
                key = (item[1], rounds)
                here["uses"][key] = self.instance(
                    self.flat(here, key), item[2], item[3], path + (2,), path + (3,), path, values, name, around + 1
                )
        return here

    def flat(self, here, key):
        name = key[0] + "".join("." + str(k) for k in key[1])
        return here["name"] + "." + name if here["name"] else name

    def met(self, where, path):
        self.count += 1
        if self.count > 10000:
            raise Fault("great", where, path)

    def items(self, here, items, path, values, rounds):
        for k, item in enumerate(items):
            self.item(here, item, path + (k,), values, rounds)

    def item(self, here, item, path, values, rounds):
        where = here["name"]
        self.met(where, path)
        word = item[0]
        if word == "each":
            bounds = []
            for k in (2, 3):
                bounds.append(self.number(item[k], values, where, path + (k,)))
                if bounds[-1] < 0:
                    raise Fault("number", where, path + (k,))
            i = bounds[0]
            while i < bounds[1]:
                self.met(where, path)
                self.items(here, item[4], path + (4,), dict(values, **{item[1]: i}), rounds + (i,))
                i += 1
            return
        if word == "when":
            k = 2 if self.number(item[1], values, where, path + (1,)) != 0 else 3
            self.items(here, item[k], path + (k,), values, rounds)
            return
        here["rows"].append((item, path, values, rounds))
        if word == "drive":
            return
        if word in ("in", "out") and rounds != ():
            raise Fault("round", where, path)
        thing = {"sort": word, "path": path}
        if word != "use":
            thing["width"] = self.number(item[2], values, where, path + (2,))
            if word in ("reg", "mem"):
                thing["other"] = self.number(item[3], values, where, path + (3,))
            if not 1 <= thing["width"] <= 64:
                raise Fault("width", where, path + (2,))
            if word == "mem" and not 1 <= thing["other"] <= 256:
                raise Fault("many", where, path + (3,))
        for name, others in here["things"]:
            if name == item[1] and (others == rounds or len(others) != len(rounds)):
                raise Fault("double", where, path)
        here["things"][(item[1], rounds)] = thing

    def key(self, here, place, path, values):
        if place[0] == "name":
            return (place[1], ())
        return (
            place[1],
            tuple(self.number(n, values, here["name"], path + (2, k)) for k, n in enumerate(place[2])),
        )

    def place(self, here, place, path, values, sorts):
        key = self.key(here, place, path, values)
        if key not in here["things"]:
            raise Fault("unknown", here["name"], path)
        if here["things"][key]["sort"] not in sorts:
            raise Fault("sort", here["name"], path)
        return key

    def width(self, here, e, path, values):
        """The width of an expression, all of it being looked at."""
        where = here["name"]
        word = e[0]
        if word in ("name", "at"):
            return here["things"][self.place(here, e, path, values, ("in", "out", "wire", "reg"))]["width"]
        if word == "of":
            inner = here["uses"][self.place(here, e[1], path + (1,), values, ("use",))]
            port = inner["things"].get((e[2], ()), {"sort": None})
            if port["sort"] != "out":
                raise Fault("port", where, path)
            return port["width"]
        if word == "read":
            key = self.place(here, e[1], path + (1,), values, ("mem",))
            self.width(here, e[2], path + (2,), values)
            return here["things"][key]["width"]
        if word == "word":
            n = self.number(e[1], values, where, path + (1,))
            self.number(e[2], values, where, path + (2,))
            if not 1 <= n <= 64:
                raise Fault("width", where, path + (1,))
            return n
        if word == "cut":
            w = self.width(here, e[1], path + (1,), values)
            low = self.number(e[2], values, where, path + (2,))
            n = self.number(e[3], values, where, path + (3,))
            if low < 0 or n < 1 or low + n > w:
                raise Fault("cut", where, path)
            return n
        w = [self.width(here, part, path + (k + 1,), values) for k, part in enumerate(e[1:])]
        if word == "mux":
            if w[0] != 1 or w[1] != w[2]:
                raise Fault("unlike", where, path)
            return w[1]
        if word in ("and", "or", "xor", "add", "sub", "mul", "eq", "lt") and w[0] != w[1]:
            raise Fault("unlike", where, path)
        if word == "join":
            if w[0] + w[1] > 64:
                raise Fault("width", where, path)
            return w[0] + w[1]
        return 1 if word in ("all", "any", "odd", "eq", "lt", "pick") else w[0]

    def second(self, here, item, path, values, rounds):
        where = here["name"]
        word = item[0]
        thing = here["things"].get((item[1], rounds)) if word not in ("drive",) else None
        if word == "reg":
            if self.width(here, item[4], path + (4,), values) != thing["width"]:
                raise Fault("unlike", where, path + (4,))
        elif word == "mem":
            w = [self.width(here, item[k], path + (k,), values) for k in (4, 5, 6)]
            if w[1] != thing["width"]:
                raise Fault("unlike", where, path + (5,))
            if w[2] != 1:
                raise Fault("unlike", where, path + (6,))
        elif word == "drive":
            key = self.place(here, item[1], path + (1,), values, ("wire", "out"))
            if self.width(here, item[2], path + (2,), values) != here["things"][key]["width"]:
                raise Fault("unlike", where, path + (2,))
            here["drives"].setdefault(key, []).append((item[2], values))
        elif word == "use":
            inner = here["uses"][(item[1], rounds)]
            ports = {}
            for k, (name, e) in enumerate(item[4]):
                port = inner["things"].get((name, ()), {"sort": None})
                if port["sort"] != "in" or name in ports:
                    raise Fault("port", where, path + (4, k))
                ports[name] = (here, e, values)
                if self.width(here, e, path + (4, k, 1), values) != port["width"]:
                    raise Fault("unlike", where, path + (4, k, 1))
            for (name, _), port in inner["things"].items():
                if port["sort"] == "in" and name not in ports:
                    raise Fault("ports", where, path + (4,))
            inner["ports"] = ports

    # What hangs on what.

    def hanging(self):
        """A dict from flat names to the sets of flat names that they hang on."""
        found = {}
        for here in self.instances:
            for key, ((e, values),) in here["drives"].items():
                found[self.flat(here, key)] = self.needs(here, e, values)
            for name, (outer, e, values) in here["ports"].items():
                found[self.flat(here, (name, ()))] = self.needs(outer, e, values)
        return found

    def needs(self, here, e, values):
        if e[0] in ("name", "at"):
            key = self.key(here, e, (), values)
            sort = here["things"][key]["sort"]
            return {self.flat(here, key)} if sort in ("wire", "out") or sort == "in" and here["name"] else set()
        if e[0] == "of":
            inner = here["uses"][self.key(here, e[1], (), values)]
            return {self.flat(inner, (e[2], ()))}
        found = set()
        for part in e[1:]:
            if isinstance(part, tuple) and part[0] in UNARY + BINARY + ("mux", "cut", "read", "of", "name", "at"):
                if not (e[0] == "read" and part is e[1]):
                    found |= self.needs(here, part, values)
        return found

    def has_ring(self):
        hanging = self.hanging()
        for name in hanging:
            reached = set(hanging[name])
            todo = list(reached)
            while todo:
                for other in hanging[todo.pop()]:
                    if other not in reached:
                        reached.add(other)
                        todo.append(other)
            if name in reached:
                return True
        return False

    # What it does (S2.5), by asking for each value when it is needed.

    def keepers(self):
        return [
            (here, key, thing, item, values)
            for here in self.instances
            for item, _, values, rounds in here["rows"]
            for key, thing in [((item[1], rounds), here["things"].get((item[1], rounds)) if item[0] != "drive" else None)]
            if item[0] in ("reg", "mem")
        ]

    def beginning(self):
        state = {}
        for here, key, thing, item, _ in self.keepers():
            if item[0] == "reg":
                state[self.flat(here, key)] = thing["other"] % 2 ** thing["width"]
            else:
                state[self.flat(here, key)] = [0] * thing["other"]
        return state

    def value(self, here, e, values, lot, state):
        def inner(k):
            return self.value(here, e[k], values, lot, state)

        def wide(k):
            return self.width(here, e[k], (), values)

        word = e[0]
        if word in ("name", "at"):
            return self.thing_value(here, self.key(here, e, (), values), lot, state)
        if word == "of":
            return self.thing_value(here["uses"][self.key(here, e[1], (), values)], (e[2], ()), lot, state)
        if word == "read":
            kept = state[self.flat(here, self.key(here, e[1], (), values))]
            at = inner(2)
            return kept[at] if at < len(kept) else 0
        if word == "word":
            return reckon(e[2], values) % 2 ** reckon(e[1], values)
        if word == "cut":
            return inner(1) // 2 ** reckon(e[2], values) % 2 ** reckon(e[3], values)
        if word == "mux":
            return inner(2) if inner(1) else inner(3)
        if word in UNARY:
            bits = [inner(1) // 2**k % 2 for k in range(wide(1))]
            if word == "not":
                return sum((1 - bit) * 2**k for k, bit in enumerate(bits))
            return {"all": min(bits), "any": max(bits), "odd": sum(bits) % 2}[word]
        one, other, w = inner(1), inner(2), wide(1)
        if word in ("shl", "shr", "pick") and other >= w:
            return 0
        return {
            "and": lambda: one & other,
            "or": lambda: one | other,
            "xor": lambda: one ^ other,
            "add": lambda: (one + other) % 2**w,
            "sub": lambda: (one - other) % 2**w,
            "mul": lambda: one * other % 2**w,
            "eq": lambda: int(one == other),
            "lt": lambda: int(one < other),
            "join": lambda: one * 2 ** wide(2) + other,
            "shl": lambda: one * 2**other % 2**w,
            "shr": lambda: one // 2**other,
            "pick": lambda: one // 2**other % 2,
        }[word]()

    def thing_value(self, here, key, lot, state):
        thing = here["things"][key]
        if thing["sort"] == "reg":
            return state[self.flat(here, key)]
        if thing["sort"] == "in" and not here["name"]:
            return lot[key[0]]
        if thing["sort"] == "in":
            outer, e, values = here["ports"][key[0]]
            return self.value(outer, e, values, lot, state)
        ((e, values),) = here["drives"][key]
        return self.value(here, e, values, lot, state)

    def names_of(self, sort):
        """The names of the ins or outs of the top."""
        return [key[0] for key, thing in self.instances[0]["things"].items() if thing["sort"] == sort]

    def run(self, lots):
        """What the outs tell, clock by clock."""
        state = self.beginning()
        top = self.instances[0]
        found = []
        for told in lots:
            lot = dict(zip(self.names_of("in"), told))
            found.append(tuple(self.thing_value(top, (name, ()), lot, state) for name in self.names_of("out")))
            late = {}
            for here, key, _, item, values in self.keepers():
                name = self.flat(here, key)
                if item[0] == "reg":
                    late[name] = self.value(here, item[4], values, lot, state)
                    continue
                late[name] = list(state[name])
                at, data, on = [self.value(here, item[k], values, lot, state) for k in (4, 5, 6)]
                if on and at < len(late[name]):
                    late[name][at] = data
            state = late
        return found

    # The flat design (S2.9), by calling itself for each part.

    def flat_design(self):
        self.rows = []
        self.row_widths = []
        self.numbers = {}
        ins = [(name, self.instances[0]["things"][(name, ())]["width"]) for name in self.names_of("in")]
        regs = []
        for here, key, thing, item, _ in self.keepers():
            name = self.flat(here, key)
            if item[0] == "reg":
                self.numbers[name] = len(ins) + len(regs)
                regs.append((name, thing["width"], thing["other"] % 2 ** thing["width"]))
            else:
                for j in range(thing["other"]):
                    self.numbers[f"{name}.{j}"] = len(ins) + len(regs)
                    regs.append((f"{name}.{j}", thing["width"], 0))
        for k, pair in enumerate(ins):
            self.put(("in", k), pair[1])
        for k, told in enumerate(regs):
            self.put(("reg", k), told[1])
        top = self.instances[0]
        outs = tuple((name, self.thing_row(top, (name, ()))) for name in self.names_of("out"))
        nexts = []
        for here, key, thing, item, values in self.keepers():
            if item[0] == "reg":
                nexts.append(self.row(here, item[4], values))
                continue
            for j in range(thing["other"]):
                own = self.numbers[f"{self.flat(here, key)}.{j}"]
                w = self.width(here, item[4], (), values)
                if j >= 2**w:
                    nexts.append(own)
                    continue
                at, data, on = [self.row(here, item[k], values) for k in (4, 5, 6)]
                same = self.put(("eq", at, self.put(("word", w, j), w)), 1)
                written = self.put(("and", on, same), 1)
                nexts.append(self.put(("mux", written, data, own), thing["width"]))
        return (
            tuple(ins), outs, tuple((*told, number) for told, number in zip(regs, nexts)), tuple(self.rows)
        )

    def put(self, row, width):
        if row not in self.rows:
            self.rows.append(row)
            self.row_widths.append(width)
        return self.rows.index(row)

    def thing_row(self, here, key):
        thing = here["things"][key]
        if thing["sort"] == "reg":
            return self.numbers[self.flat(here, key)]
        if thing["sort"] == "in" and not here["name"]:
            return self.rows.index(("in", self.names_of("in").index(key[0])))
        if thing["sort"] == "in":
            outer, e, values = here["ports"][key[0]]
            return self.row(outer, e, values)
        ((e, values),) = here["drives"][key]
        return self.row(here, e, values)

    def row(self, here, e, values):
        word = e[0]
        if word in ("name", "at"):
            return self.thing_row(here, self.key(here, e, (), values))
        if word == "of":
            return self.thing_row(here["uses"][self.key(here, e[1], (), values)], (e[2], ()))
        width = self.width(here, e, (), values)
        if word == "word":
            return self.put(("word", width, reckon(e[2], values) % 2**width), width)
        if word == "cut":
            return self.put(("cut", self.row(here, e[1], values), reckon(e[2], values), width), width)
        if word == "read":
            key = self.key(here, e[1], (), values)
            a = self.row(here, e[2], values)
            w = self.width(here, e[2], (), values)
            found = self.put(("word", width, 0), width)
            for j in range(here["things"][key]["other"]):
                if j < 2**w:
                    same = self.put(("eq", a, self.put(("word", w, j), w)), 1)
                    found = self.put(("mux", same, self.numbers[f"{self.flat(here, key)}.{j}"], found), width)
            return found
        return self.put((word, *[self.row(here, part, values) for part in e[1:]]), width)


def model_fault(design):
    """The first fault of a design, or None."""
    try:
        Model(design)
    except Fault as fault:
        return fault.args
    return None
