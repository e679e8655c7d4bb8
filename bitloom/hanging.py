"""Which things of a design hang on which, and rings of them."""

from bitloom.errors import BadRing
from bitloom.looking import looked_through


def _may_hang(thing):
    """Whether a thing hangs on others; ins of the top have no plan."""
    return thing.kind in ("in", "out", "wire") and len(thing.plans) > 0


def needs_of(instances):
    """A dict from the flat name of each thing that hangs on others to the list of the names of these."""
    needs = {}
    for instance in instances:
        for thing in instance.things.values():
            if _may_hang(thing):
                steps = [step for step in thing.plans[0] if step[0] == "thing"]
                needs[thing.name] = [step[1].name for step in steps if _may_hang(step[1])]
    return needs


def _on_rings(needs):
    """A dict from names to True that has all names on rings; each name in it needs one in it."""
    users = {name: [] for name in needs}
    for name in needs:
        for other in needs[name]:
            users[other].append(name)
    waiting = {name: len(needs[name]) for name in needs}
    free = [name for name in needs if not needs[name]]
    while free:
        name = free.pop()
        for user in users[name]:
            waiting[user] -= 1
            if not waiting[user]:
                free.append(user)
    return {name: True for name in needs if waiting[name]}


def ring_in(needs):
    """The tuple of the names of any ring of things that need one another, or None."""
    stuck = _on_rings(needs)
    if not stuck:
        return None
    way = list(stuck)[:1]
    places = {}
    # Each of these needs another one of them, so the way comes back to itself.
    while way[-1] not in places:
        places[way[-1]] = len(places)
        way.append([name for name in needs[way[-1]] if name in stuck][0])
    return tuple(way[places[way[-1]]:-1])


def let_by(design):
    """The list of the instances of a design; raise BadDesign or BadRing if it is not let by."""
    instances = looked_through(design)
    ring = ring_in(needs_of(instances))
    if ring is not None:
        raise BadRing(ring)
    return instances
