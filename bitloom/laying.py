"""Cell nets laid on fabrics."""

from bitloom.errors import NoRoom
from bitloom.lanes import lay_along
from bitloom.placing import crowded, place
from bitloom.routes import Routes
from bitloom.routing import route


def lay_placed(fabric, cells, placing):
    """A right laid value with a placing; raise NoRoom if none is found."""
    routes = Routes(cells, placing)
    if fabric[0] == 1 or fabric[1] == 1:
        lay_along(fabric, routes)
        return routes.laid()
    if fabric[2] < len(routes.wants) and crowded(fabric, cells, placing) is not None:
        raise NoRoom("tracks")
    route(fabric, routes)
    return routes.laid()


def lay(fabric, cells):
    """A right laid value; raise NoRoom with a word if a cell net has no room, or none is found."""
    return lay_placed(fabric, cells, place(fabric, cells))
