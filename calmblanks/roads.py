"""Roads from things to things, and lots of things that are parted."""

from calmblanks.basics import is_between, is_lot
from calmblanks.errors import NoLots
from calmblanks.webs import behind, children, parents


def judge_lots(web, one, other, given):
    if not all([is_lot(2 * web.columns, lot) for lot in (one, other, given)]):
        raise NoLots()
    things = one + other + given
    if len(set(things)) < len(things):
        raise NoLots()


def told_of(web, given):
    """The things that are in a lot, or have something of it behind them."""
    return [thing for thing in range(2 * web.columns) if any([item in given for item in (thing,) + behind(web, thing)])]


def lets_on(web, given, told, road):
    """Whether a road, open up to its last thing but one, is open there, too."""
    if len(road) < 3:
        return True
    ahead, thing, following = road[-3:]
    if (ahead, thing) in web.arrows and (following, thing) in web.arrows:
        return thing in told
    return thing not in given


def found_road(web, one, other, given):
    """An open road of the fewest things, between lots that are right, or None."""
    told = told_of(web, given)
    beside = [parents(web, thing) + children(web, thing) for thing in range(2 * web.columns)]
    roads = [(thing,) for thing in one]
    while len(roads) > 0:
        for road in roads:
            if road[-1] in other:
                return road
        longer = [road + (thing,) for road in roads for thing in beside[road[-1]] if thing not in road]
        roads = [road for road in longer if lets_on(web, given, told, road)]
    return None


def open_road(web, one, other, given):
    judge_lots(web, one, other, given)
    return found_road(web, one, other, given)


def are_parted(web, one, other, given):
    judge_lots(web, one, other, given)
    return found_road(web, one, other, given) is None


def is_road(web, thing):
    """Whether a thing is a tuple of unlike things of the web, not empty, each two neighbours joined by an arrow."""
    if not isinstance(thing, tuple) or not 1 <= len(thing) <= 2 * web.columns:
        return False
    if not all([is_between(0, 2 * web.columns - 1, item) for item in thing]) or len(set(thing)) < len(thing):
        return False
    return all([(one, other) in web.arrows or (other, one) in web.arrows for one, other in zip(thing, thing[1:])])


def is_open_road(web, one, other, given, thing):
    judge_lots(web, one, other, given)
    if not is_road(web, thing) or thing[0] not in one or thing[-1] not in other:
        return False
    told = told_of(web, given)
    return all([lets_on(web, given, told, thing[:many]) for many in range(1, len(thing) + 1)])
