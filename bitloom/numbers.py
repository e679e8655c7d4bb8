"""Numbers of designs reckoned."""

GREATEST = 1000000000


def _reckoned_pair(word, one, other):
    """What a word makes of two numbers; None if it divides by 0."""
    if word == "plus":
        return one + other
    if word == "minus":
        return one - other
    if word == "times":
        return one * other
    if word == "less":
        return 1 if one < other else 0
    if word == "same":
        return 1 if one == other else 0
    return one // other if other else None


def reckoned(number, values):
    """What a number is where the names of a dict have values; None if it is bad."""
    found = []
    todo = [(number, False)]
    while todo:
        part, is_ready = todo.pop()
        if part[0] == "number":
            worth = part[1]
        elif part[0] == "size":
            worth = values.get(part[1])
        elif is_ready:
            other = found.pop()
            worth = _reckoned_pair(part[0], found.pop(), other)
        else:
            todo.extend([(part, True), (part[2], False), (part[1], False)])
            continue
        if worth is None or not -GREATEST <= worth <= GREATEST:
            return None
        found.append(worth)
    return found[0]
