"""Designs for tests, made by chance from seeds, and changed by chance."""

import random

from bitloom.forms import MEMBERS, NOT_EMPTY, SEQUENCES, SHAPES, WORDS

TEXTS = [
    """design {
  module count size w { in on bits 1; out now bits w; reg r bits w = 0 <- on ? r + bits(w, 1) : r; now = r; }
  top count size 8;
}""",
    """design {
  module next size w { in a bits w; out s bits w; out c bits 1; s = a + bits(w, 1); c = &a; }
  module main size n, w {
    in x bits w; in go bits 1; out y bits w; out z bits 2 * w; out odd bits 1;
    for i = 0 to n {
      wire t bits w;
      u : next size w (a = t[i]);
      reg r bits w = i * 3 - 1 <- go ? u[i].s : r[i];
      when i == 0 { t[i] = x; } else { t[i] = u[i - 1].s ^ r[i - 1]; }
    }
    mem m[5] bits w [x{0:2}] <- r[0] when go | u[0].c;
    y = m@(x{0:3}) ^ r[n - 1];
    z = (x # r[1]) >> bits(3, 2) ;
    odd = (^z{1:w} < z ! x) & ~go;
  }
  top main size 3, 4;
}""",
    """design {
  module leaf size w, k {
    in d bits w; in en bits 1; out q bits w; out full bits 1;
    reg v bits w = k <- en ? d : v;
    when k < 2 { q = v; full = &v & |d; } else { wire h bits w; h = v * d; q = h - v; full = h == v; }
  }
  module pair size w {
    in d bits w; in en bits 1; out q bits w;
    a : leaf size w, 1 (d = d, en = en);
    b : leaf size w, 2 (en = a.full, d = a.q);
    q = b.q << a.q{0:1} | a.q;
  }
  module main {
    in d bits 6; in en bits 1; out q bits 6; out s bits 12; out f bits 1;
    for i = 1 to 3 { for j = 0 to i { p : pair size 6 (d = d ^ bits(6, i * 8 + j), en = en); } }
    q = p[1, 0].q ^ p[2, 0].q ^ p[2, 1].q;
    s = q # (d - q);
    mem k[3] bits 12 [en # en] <- s when ~en;
    f = ^k@(q{2:2}) ^ |(k@bits(7, 100));
  }
  top main;
}""",
    """design {
  module ring size n {
    in a bits n; out z bits n;
    for i = 0 to n { wire c bits 1; when i == 0 { c[i] = a{0:1}; } else { c[i] = c[i - 1] & a{i:1}; } }
    wire spare bits 3;
    spare = a{0:1} ? a{0:3} : bits(3, 0 - 1);
    z = c[n - 1] ? a : ~a;
  }
  top ring size 4;
}""",
]


def random_name(dice):
    """A name, mostly a short one of few."""
    return dice.choice(["a", "b", "c", "u", "w", "i", "x_1", "name", "number", "abcdefghijklmnop", "q0"])


def random_part(dice, kind, deep):
    """A part of a kind that is right as a tree, at most deep within."""
    if kind == "name":
        return random_name(dice)
    if kind == "integer":
        return dice.choice([0, 1, 2, 7, 10, 64, 12345678901234567890])
    if kind in SEQUENCES:
        least = 1 if kind in NOT_EMPTY else 0
        return tuple(random_part(dice, SEQUENCES[kind], deep - 1) for _ in range(dice.randint(least, 3)))
    if kind in SHAPES:
        return tuple(random_part(dice, inner, deep - 1) for inner in SHAPES[kind])
    words = WORDS[kind]
    if deep <= 0:
        words = {"item": ("in", "out", "wire"), "number": ("number", "size"), "place": ("name",)}.get(kind, ("name",))
    word = dice.choice(words)
    return (word, *[random_part(dice, inner, deep - 1) for inner in MEMBERS[word]])


def random_flat(dice, many):
    """A flat design with many rows behind those of its ins and registers."""
    ins = tuple((f"i{k}", dice.choice([1, 1, 2, 3, 5, 8, 64])) for k in range(dice.randint(0, 3)))
    kept = [(f"r{k}", dice.choice([1, 2, 3])) for k in range(dice.randint(0, 2))]
    rows = [("in", k) for k in range(len(ins))] + [("reg", k) for k in range(len(kept))]
    widths = [width for _, width in ins] + [width for _, width in kept]
    rows.append(("word", 1, 1))
    widths.append(1)
    while len(rows) < many:
        row, width = _random_row(dice, widths)
        if row is not None:
            rows.append(row)
            widths.append(width)
    regs = []
    for name, width in kept:
        fitting = [k for k, other in enumerate(widths) if other == width]
        regs.append((name, width, dice.randrange(2**width), dice.choice(fitting)))
    outs = tuple((f"o{k}", dice.randrange(len(rows))) for k in range(dice.randint(1, 3)))
    return ins, outs, tuple(regs), tuple(rows)


def _random_row(dice, widths):
    """A row and its width, or (None, None) if it does not fit."""
    word = dice.choice(
        "word not all any odd and or xor add sub mul eq lt join shl shr pick cut mux mux add and xor".split()
    )
    a, b, c = [dice.randrange(len(widths)) for _ in range(3)]
    if word == "word":
        width = dice.choice([1, 2, 3, 5, 8, 64])
        return (word, width, dice.randrange(2**width)), width
    if word in ("not", "all", "any", "odd"):
        return (word, a), widths[a] if word == "not" else 1
    if word in ("shl", "shr", "pick"):
        return (word, a, b), 1 if word == "pick" else widths[a]
    if word == "cut":
        low = dice.randrange(widths[a])
        width = dice.randint(1, widths[a] - low)
        return (word, a, low, width), width
    if word == "join":
        return ((word, a, b), widths[a] + widths[b]) if widths[a] + widths[b] <= 64 else (None, None)
    like = [k for k, width in enumerate(widths) if width == widths[a]]
    b = dice.choice(like)
    if word == "mux":
        ones = [k for k, width in enumerate(widths) if width == 1]
        return (word, dice.choice(ones), a, b), widths[a]
    return (word, a, b), 1 if word in ("eq", "lt") else widths[a]


def random_lots(dice, widths, many):
    """Lots of values of some widths."""
    return [tuple(dice.randrange(2**width) for width in widths) for _ in range(many)]


def random_graph(dice, many_ins, many_regs, many_ands, many_outs):
    """A graph."""
    ands = []
    first = 1 + many_ins + many_regs
    for k in range(many_ands):
        ands.append((dice.randrange(2 * (first + k)), dice.randrange(2 * (first + k))))
    every = 2 * (first + many_ands)
    regs = tuple((dice.randrange(2), dice.randrange(every)) for _ in range(many_regs))
    return many_ins, regs, tuple(ands), tuple(dice.randrange(every) for _ in range(many_outs))


def replaced(value, path, part):
    """A value with another part at a path."""
    if not path:
        return part
    k = path[0]
    return value[:k] + (replaced(value[k], path[1:], part),) + value[k + 1:]


def kinds_of_parts(kind, part, path=()):
    """The triples (path, kind, part) of all parts of a design's part."""
    found = [(path, kind, part)]
    if kind in SEQUENCES:
        inner = [(k, SEQUENCES[kind]) for k in range(len(part))]
    elif kind in WORDS:
        inner = [(k + 1, other) for k, other in enumerate(MEMBERS[part[0]])]
    else:
        inner = list(enumerate(SHAPES.get(kind, ())))
    for k, other in inner:
        found.extend(kinds_of_parts(other, part[k], path + (k,)))
    return found


def changed_design(dice, design):
    """A design with one part that is exchanged, left out, or told twice."""
    parts = kinds_of_parts("design", design)
    path, kind, part = dice.choice(parts[1:])
    if kind in ("items", "ports", "numbers", "modules") and part and dice.random() < 0.7:
        k = dice.randrange(len(part))
        rest = part[:k] + part[k + 1:]
        if dice.random() < 0.5 and (rest or kind != "modules"):
            return replaced(design, path, rest)
        at = dice.randint(0, len(part))
        return replaced(design, path, part[:at] + (part[k],) + part[at:])
    if kind == "integer":
        return replaced(design, path, dice.choice([0, 1, 2, 3, 5, 30, 64, 65, 257, 2 * 10**9]))
    like = [other for _, also, other in parts if also == kind]
    return replaced(design, path, dice.choice(like))


def random_named_graph(dice, many_ins, many_regs, many_ands, many_outs):
    """A graph that has one name a thing; it has fewer and nodes where there are not so many pairs."""
    first = 1 + many_ins + many_regs
    pairs = []
    for _ in range(4 * many_ands):
        every = range(1, first + len(pairs))
        if len(pairs) < many_ands and len(every) > 1:
            one, other = sorted(dice.sample(every, 2))
            pair = (2 * one + dice.randrange(2), 2 * other + dice.randrange(2))
            if pair not in pairs:
                pairs.append(pair)
    every = 2 * (first + len(pairs))
    regs = tuple((dice.randrange(2), dice.randrange(every)) for _ in range(many_regs))
    return many_ins, regs, tuple(pairs), tuple(dice.randrange(every) for _ in range(many_outs))


def random_net(dice, k, many_ins, many_regs, many_tables, many_outs):
    """A table net."""
    first = 1 + many_ins + many_regs
    tables = []
    for t in range(many_tables):
        nodes = tuple(dice.sample(range(first + t), dice.randint(0, min(k, first + t))))
        tables.append((nodes, dice.choice([0, dice.randrange(2 ** 2 ** len(nodes)), 2 ** 2 ** len(nodes) - 1])))
    every = first + many_tables
    regs = tuple((dice.randrange(2), dice.randrange(every)) for _ in range(many_regs))
    return k, many_ins, regs, tuple(tables), tuple(dice.randrange(every) for _ in range(many_outs))


def random_cells(dice, k, many, many_cells, many_outs):
    """A cell net; it has no outs if it has no cells."""
    used = [dice.randrange(2) for _ in range(many_cells)]
    cells = []
    for c in range(many_cells):
        may_be = [s for s in range(many + many_cells) if used[c] or s < many + c or used[s - many]]
        inputs = tuple(dice.sample(may_be, dice.randint(0, min(k, len(may_be)))))
        cells.append((inputs, dice.randrange(2 ** 2 ** len(inputs)), used[c], dice.randrange(2)))
    outs = [dice.randrange(many, many + many_cells) for _ in range(many_outs if many_cells else 0)]
    return k, many, tuple(cells), tuple(outs)


def design_of(flat):
    """A design of one module that has a wire for each row of a flat design."""
    ins, outs, regs, rows = flat
    widths = _row_widths(flat)

    def named(k):
        return ("name", f"w{k}")

    def told(row):
        word, *parts = row
        if word == "in":
            return ("name", ins[parts[0]][0])
        if word == "reg":
            return ("name", regs[parts[0]][0])
        if word == "word":
            return ("word", ("number", parts[0]), ("number", parts[1]))
        if word == "cut":
            return ("cut", named(parts[0]), ("number", parts[1]), ("number", parts[2]))
        return (word, *[named(k) for k in parts])

    items = [("in", name, ("number", width)) for name, width in ins]
    items += [("out", name, ("number", widths[k])) for name, k in outs]
    items += [("wire", f"w{k}", ("number", width)) for k, width in enumerate(widths)]
    items += [("reg", name, ("number", width), ("number", start), named(k)) for name, width, start, k in regs]
    items += [("drive", named(k), told(row)) for k, row in enumerate(rows)]
    items += [("drive", ("name", name), named(k)) for name, k in outs]
    return ((("main", (), tuple(items)),), ("main", ()))


def _row_widths(flat):
    """The widths of the rows of a flat design."""
    ins, _, regs, rows = flat
    widths = []
    for word, *parts in rows:
        if word in ("in", "reg"):
            widths.append((ins if word == "in" else regs)[parts[0]][1])
        elif word in ("word", "cut"):
            widths.append(parts[0] if word == "word" else parts[2])
        elif word == "join":
            widths.append(widths[parts[0]] + widths[parts[1]])
        elif word in ("all", "any", "odd", "eq", "lt", "pick"):
            widths.append(1)
        else:
            widths.append(widths[parts[1 if word == "mux" else 0]])
    return widths


def small_flats(seed, many, most):
    """Many flat designs by chance whose graphs have a few and nodes, and not many ins and outs."""
    from bitloom.blasting import size_bound

    dice = random.Random(seed)
    found = []
    while len(found) < many:
        flat = random_flat(dice, dice.randint(4, 14))
        widths = _row_widths(flat)
        pads = max(sum(width for _, width in flat[0]), sum(widths[k] for _, k in flat[1]))
        # Numbers in designs are not above 10 ** 9.
        is_told = all(row[2] <= 10**9 for row in flat[3] if row[0] == "word")
        if size_bound(flat) <= most and pads <= 24 and is_told and len(flat[0]) + len(flat[2]) > 0:
            found.append(flat)
    return found
