"""Parts of designs as they are written."""

LEVELS = {
    "number": 4, "size": 4, "times": 3, "over": 3, "plus": 2, "minus": 2, "less": 1, "same": 1,
    "name": 13, "at": 13, "of": 13, "read": 13, "word": 13, "cut": 12, "not": 11, "all": 11, "any": 11, "odd": 11,
    "pick": 10, "mul": 9, "add": 8, "sub": 8, "join": 7, "shl": 6, "shr": 6, "lt": 5, "eq": 4, "and": 3, "xor": 2,
    "or": 1, "mux": 0,
}

BETWEEN = {
    "times": " * ", "over": " / ", "plus": " + ", "minus": " - ", "less": " < ", "same": " == ",
    "pick": " ! ", "mul": " * ", "add": " + ", "sub": " - ", "join": " # ", "shl": " << ", "shr": " >> ", "lt": " < ",
    "eq": " == ", "and": " & ", "xor": " ^ ", "or": " | ",
}

# A string stands for itself, a number for the member with this number, whatever its level is; a pair has the
# number of a member and the level that it must have to stand there without parentheses.
PIECES = {
    "number": (1,),
    "size": (1,),
    "name": (1,),
    "at": (1, "[", 2, "]"),
    "of": (1, ".", 2),
    "read": (1, "@", (2, 13)),
    "word": ("bits(", 1, ", ", 2, ")"),
    "cut": ((1, 12), "{", 2, ":", 3, "}"),
    "not": ("~", (1, 11)),
    "all": ("&", (1, 11)),
    "any": ("|", (1, 11)),
    "odd": ("^", (1, 11)),
    "mux": ((1, 1), " ? ", 2, " : ", 3),
    "in": ("in ", 1, " bits ", 2, ";"),
    "out": ("out ", 1, " bits ", 2, ";"),
    "wire": ("wire ", 1, " bits ", 2, ";"),
    "reg": ("reg ", 1, " bits ", 2, " = ", 3, " <- ", 4, ";"),
    "mem": ("mem ", 1, "[", 3, "] bits ", 2, " [", 4, "] <- ", 5, " when ", 6, ";"),
    "drive": (1, " = ", 2, ";"),
    "each": ("for ", 1, " = ", 2, " to ", 3, " {"),
    "when": ("when ", 1, " {"),
}


def _pieces_of(word):
    """The pieces of which a part with a word is written."""
    if word not in BETWEEN:
        return PIECES[word]
    level = LEVELS[word]
    return ((1, level), BETWEEN[word], (2, level + 1))


def _with_commas(parts):
    """The strings and the pairs (part, level) with which parts are written one behind another."""
    found = []
    for part in parts:
        found.extend([", ", (part, 0)])
    return found[1:]


def _written_member(member, level):
    """The strings and the pairs (part, level) with which a member is written."""
    if isinstance(member, (str, int)):
        return [str(member)]
    if not isinstance(member[0], str):
        return _with_commas(member)
    return [(member, level)]


def _written_parts(part):
    """The strings and the pairs (part, level) with which a part is written."""
    found = []
    for piece in _pieces_of(part[0]):
        if isinstance(piece, str):
            found.append(piece)
        else:
            place, level = (piece, 0) if isinstance(piece, int) else piece
            found.extend(_written_member(part[place], level))
    return found


def _joined(pieces):
    """The text of a list of strings and of pairs (part, level)."""
    texts = []
    # Parts wait in a list of their own, so that they may stand in one another as deep as may be.
    todo = pieces[::-1]
    while todo:
        piece = todo.pop()
        if isinstance(piece, str):
            texts.append(piece)
            continue
        part, level = piece
        inner = _written_parts(part)
        if LEVELS.get(part[0], 0) < level:
            inner = ["(", *inner, ")"]
        todo.extend(inner[::-1])
    return "".join(texts)


def part_text(part):
    """The text of a number, an expression or a place, and the line of an item, without what stands within it."""
    return _joined([(part, 0)])


def _sizes_text(numbers):
    """What stands behind the name of a module whose sizes are told."""
    return " size " + _joined(_with_commas(numbers)) if numbers else ""


def _use_line(item):
    """The line of a use."""
    _, name, module, numbers, ports = item
    told = ", ".join(f"{port} = {part_text(expression)}" for port, expression in ports)
    return f"{name} : {module}{_sizes_text(numbers)} ({told});"


def _opened(deep, item):
    """The pairs (deep, line or item) with which an item is written."""
    if item[0] == "use":
        return [(deep, _use_line(item))]
    lines = [(deep, part_text(item))]
    if item[0] == "each":
        lines.extend([(deep + 1, inner) for inner in item[4]])
        lines.append((deep, "}"))
    elif item[0] == "when":
        lines.extend([(deep + 1, inner) for inner in item[2]])
        if item[3]:
            lines.append((deep, "} else {"))
            lines.extend([(deep + 1, inner) for inner in item[3]])
        lines.append((deep, "}"))
    return lines


def _item_lines(deep, items):
    """The lines of items that stand in deep others."""
    lines = []
    todo = [(deep, item) for item in items[::-1]]
    while todo:
        inside, line = todo.pop()
        if isinstance(line, str):
            lines.append("  " * inside + line)
        else:
            todo.extend(_opened(inside, line)[::-1])
    return lines


def _module_lines(module):
    """The lines of a module."""
    name, sizes, items = module
    told = " size " + ", ".join(sizes) if sizes else ""
    return [f"  module {name}{told} {{", *_item_lines(2, items), "  }"]


def design_lines(design):
    """The lines of a design."""
    modules, (name, numbers) = design
    lines = ["design {"]
    for module in modules:
        lines.extend(_module_lines(module))
    return [*lines, f"  top {name}{_sizes_text(numbers)};", "}"]
