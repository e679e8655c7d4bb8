"""The forms of designs: of which members each of their parts consists."""

SHAPES = {
    "design": ("modules", "top"),
    "module": ("name", "names", "items"),
    "top": ("name", "numbers"),
    "port": ("name", "expression"),
}

SEQUENCES = {
    "modules": "module",
    "names": "name",
    "items": "item",
    "numbers": "number",
    "rounds": "number",
    "ports": "port",
}

NOT_EMPTY = ("modules", "rounds")

WORDS = {
    "item": ("in", "out", "wire", "reg", "mem", "drive", "use", "each", "when"),
    "number": ("number", "size", "plus", "minus", "times", "over", "less", "same"),
    "place": ("name", "at"),
    "expression": (
        "name", "at", "of", "read", "word", "not", "all", "any", "odd", "and", "or", "xor", "add", "sub", "mul",
        "eq", "lt", "join", "shl", "shr", "pick", "cut", "mux",
    ),
}

MEMBERS = {
    "in": ("name", "number"),
    "out": ("name", "number"),
    "wire": ("name", "number"),
    "reg": ("name", "number", "number", "expression"),
    "mem": ("name", "number", "number", "expression", "expression", "expression"),
    "drive": ("place", "expression"),
    "use": ("name", "name", "numbers", "ports"),
    "each": ("name", "number", "number", "items"),
    "when": ("number", "items", "items"),
    "number": ("integer",),
    "size": ("name",),
    "plus": ("number", "number"),
    "minus": ("number", "number"),
    "times": ("number", "number"),
    "over": ("number", "number"),
    "less": ("number", "number"),
    "same": ("number", "number"),
    "name": ("name",),
    "at": ("name", "rounds"),
    "of": ("place", "name"),
    "read": ("place", "expression"),
    "word": ("number", "number"),
    "not": ("expression",),
    "all": ("expression",),
    "any": ("expression",),
    "odd": ("expression",),
    "and": ("expression", "expression"),
    "or": ("expression", "expression"),
    "xor": ("expression", "expression"),
    "add": ("expression", "expression"),
    "sub": ("expression", "expression"),
    "mul": ("expression", "expression"),
    "eq": ("expression", "expression"),
    "lt": ("expression", "expression"),
    "join": ("expression", "expression"),
    "shl": ("expression", "expression"),
    "shr": ("expression", "expression"),
    "pick": ("expression", "expression"),
    "cut": ("expression", "number", "number"),
    "mux": ("expression", "expression", "expression"),
}


def members_of(kind, part):
    """The pairs of the number and the kind of each member of a part of a kind, its word left out."""
    if kind in SEQUENCES:
        return [(k, SEQUENCES[kind]) for k in range(len(part))]
    if kind in WORDS:
        return list(enumerate(MEMBERS[part[0]], start=1))
    if kind in SHAPES:
        return list(enumerate(SHAPES[kind]))
    return []
