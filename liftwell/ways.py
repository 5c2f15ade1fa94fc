"""The two ways of the lift, and which of them it goes."""

UP = "up"
DOWN = "down"


def other_way(way):
    if way == UP:
        return DOWN
    return UP


def lies_ahead(floor, here, way):
    if way == UP:
        return floor > here
    return floor < here


def any_ahead(here, way, wanted):
    for floor in wanted:
        if lies_ahead(floor, here, way):
            return True
    return False


def next_way(here, way, wanted):
    """The way that the lift goes from here, None where no other floor is wanted."""
    if any_ahead(here, way, wanted):
        return way
    # What lies behind is what lies ahead once the way has turned.
    turned = other_way(way)
    if any_ahead(here, turned, wanted):
        return turned
    return None


def floor_beside(here, way):
    """The floor that is one step from here on that way."""
    if way == UP:
        return here + 1
    return here - 1
