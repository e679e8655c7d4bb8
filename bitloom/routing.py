"""Signals brought through a fabric, track by track; some are taken away again where others find no way."""

from heapq import heappop, heappush

from bitloom.errors import NoRoom
from bitloom.fabric import neighbour, tiles_of

PENALTY = 4


class Router:
    """A fabric on whose wires signals are brought to where they are wanted."""

    def __init__(self, fabric, routes):
        self.tracks = fabric[2]
        self.routes = routes
        self.owners = {}
        self.torn = {}
        self.steps_from = {}
        for x, y in tiles_of(fabric):
            sides = [(side, neighbour(fabric, x, y, side)) for side in range(4)]
            self.steps_from[(x, y)] = [(side, tile) for side, tile in sides if tile is not None]

    def _tree_tiles(self, signal, track):
        """The list of the tiles where a signal is on a track, or could be put on it."""
        return [self.routes.begins[signal], *self.routes.trees.get((signal, track), {})]

    def _reached(self, signal, track):
        """A dict from all tiles to which free wires of a track lead a signal to pairs of how far, and the last wire."""
        found = {tile: (0, None) for tile in self._tree_tiles(signal, track)}
        level = list(found)
        far = 0
        while level:
            far += 1
            late = []
            for x, y in level:
                for side, tile in self.steps_from[(x, y)]:
                    if tile not in found and (x, y, side, track) not in self.owners:
                        found[tile] = (far, (x, y, side, track))
                        late.append(tile)
            level = late
        return found

    def _bring(self, signal, track, tile, found):
        """Bring a signal to a tile by the last wires that were found for it and for all tiles ahead."""
        wire = found[tile][1]
        while wire is not None:
            self.routes.put(signal, track, tile, wire)
            self.owners[wire] = signal
            tile = wire[:2]
            wire = found[tile][1]

    def bring_on(self, signal, track):
        """Bring a signal to all tiles left to which free wires of a track lead."""
        while True:
            found = self._reached(signal, track)
            ends = [(found[tile][0], tile) for tile in self.routes.left(signal) if tile in found]
            if not ends:
                return
            self._bring(signal, track, min(ends)[1], found)

    def _best_track(self, signal):
        """The track on which free wires lead a signal to the most tiles left, by the shortest ways; None if none do."""
        left = self.routes.left(signal)
        x, y = self.routes.begins[signal]
        shortest = sum([abs(tile[0] - x) + abs(tile[1] - y) for tile in left])
        best = (0, 0, None)
        for track in range(self.tracks):
            found = self._reached(signal, track)
            far = [found[tile][0] for tile in left if tile in found]
            if far and (-len(far), sum(far)) < best[:2]:
                best = (-len(far), sum(far), track)
            if len(far) == len(left) and sum(far) <= shortest:
                break
        return best[2]

    def bring(self, signal):
        """Bring a signal to all tiles left to which free wires lead; return whether this is all of them."""
        while self.routes.left(signal):
            track = self._best_track(signal)
            if track is None:
                return False
            self.bring_on(signal, track)
        return True

    def _cost(self, signal, wire):
        """What it costs to lead a signal along a wire."""
        return 1 if wire not in self.owners else 1 + PENALTY * (1 + self.torn.get(wire, 0))

    def _cheapest(self, signal, track, goal, limit):
        """A dict like that of _reached, with costs, along any wires of a track, up to a goal or a limit."""
        found = {}
        queue = [(0, tile, ()) for tile in self._tree_tiles(signal, track)]
        while queue:
            cost, tile, wire = heappop(queue)
            if cost >= limit:
                break
            if tile in found:
                continue
            found[tile] = (cost, wire if wire else None)
            if tile == goal:
                break
            x, y = tile
            for side, other in self.steps_from[tile]:
                if other not in found:
                    late = (x, y, side, track)
                    heappush(queue, (cost + self._cost(signal, late), other, late))
        return found

    def _tear(self, signal):
        """Take away a signal, and keep in mind the wires that it had."""
        for wire in self.routes.clear_signal(signal, self.tracks):
            del self.owners[wire]
            self.torn[wire] = self.torn.get(wire, 0) + 1

    def force(self, signal):
        """Bring a signal to a tile left along the cheapest wires; return the list of those that had them."""
        goal = self.routes.left(signal)[0]
        limit = 1 << 60
        best = (0, {})
        for track in range(self.tracks):
            found = self._cheapest(signal, track, goal, limit)
            if goal in found:
                limit = found[goal][0]
                best = (track, found)
        track, found = best
        torn = {}
        wire = found[goal][1]
        while wire is not None:
            if wire in self.owners and self.owners[wire] not in torn:
                torn[self.owners[wire]] = True
            wire = found[wire[:2]][1]
        for other in torn:
            self._tear(other)
        self._bring(signal, track, goal, found)
        return list(torn)


def route(fabric, routes):
    """Bring all signals to where they are wanted; raise NoRoom if no way is found for all."""
    router = Router(fabric, routes)
    if fabric[2] >= len(routes.wants):
        for track, signal in enumerate(routes.wants):
            router.bring_on(signal, track)
        return
    # Those that are wanted at many tiles go ahead.
    wanted_by = sorted([(-len(tiles), other) for other, tiles in routes.wants.items()])
    queue = [other for _, other in wanted_by]
    patience = 100 + 4 * len(queue)
    while queue:
        signal = queue.pop(0)
        while not router.bring(signal):
            torn = router.force(signal)
            patience -= len(torn)
            if patience < 0:
                raise NoRoom("tracks")
            queue.extend(torn)
