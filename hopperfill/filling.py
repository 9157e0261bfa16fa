"""Ships, what is in their hoppers, and the minutes of filling."""

# A cubic metre is counted in hundredths, and so is a ton.
HUNDREDTHS = 100

# Hundredths of tons that a cubic metre weighs.
SAND_WEIGHS = 265
WATER_WEIGHS = 102

MOST_MINUTES = 200


class Load:
    """What is in a hopper, and how it came there since it was empty; sand and water in hundredths.

    A load is never changed: another takes its place.
    """

    def __init__(self, minutes, sand, water, overflow, gone):
        self.minutes = minutes
        self.sand = sand
        self.water = water
        self.overflow = overflow
        self.gone = gone


class Ship:
    """A ship as it was told, with what is in it and what it has carried (in hundredths) so far."""

    def __init__(self, room, empty, most, flow, solid, loss):
        self.room = room
        self.empty = empty
        self.most = most
        self.flow = flow
        self.solid = solid
        self.loss = loss
        self.load = empty_load()
        self.trips = 0
        self.carried = 0


def empty_load():
    """Give the load of a hopper that was not filled."""
    return Load(0, 0, 0, 0, 0)


def hundredths_of_tons(load):
    """Tell what a load weighs, rounded down."""
    return (load.sand * SAND_WEIGHS + load.water * WATER_WEIGHS) // HUNDREDTHS


def whole_tons(load):
    """Tell what a load weighs in tons, rounded down."""
    return hundredths_of_tons(load) // HUNDREDTHS


def may_carry(ship, load):
    """Tell whether the ship may be loaded so."""
    return hundredths_of_tons(load) <= ship.most * HUNDREDTHS


def kept_hundredths(ship, k):
    """Tell how many hundredths of the sand stay in the k-th minute of overflow."""
    return max(0, 100 - k * ship.loss)


def behind_minute(ship, load):
    """Give the load behind one more minute of filling."""
    # Solid is in hundredths of whole cubic metres, so both parts are whole hundredths.
    sand = ship.flow * ship.solid
    water = ship.flow * (100 - ship.solid)
    if load.sand + load.water + sand + water > ship.room * HUNDREDTHS:
        return behind_overflow(ship, load, sand)
    return Load(load.minutes + 1, load.sand + sand, load.water + water, load.overflow, load.gone)


def behind_overflow(ship, load, came):
    """Give the load behind one more minute, which is one of overflow, with so much sand coming."""
    space = ship.room * HUNDREDTHS
    k = load.overflow + 1
    stays = min(came * kept_hundredths(ship, k) // 100, space - load.sand)
    sand = load.sand + stays
    return Load(load.minutes + 1, sand, space - sand, k, load.gone + came - stays)


def poured(load, water):
    """Give the load behind so many hundredths of water have gone out."""
    return Load(load.minutes, load.sand, load.water - water, load.overflow, load.gone)


def loads_on(ship, load, n):
    """Give the load itself, and then the one behind each of n more minutes."""
    loads = [load]
    for minute in range(n):
        loads.append(behind_minute(ship, loads[minute]))
    return loads


def loads_from_empty(ship, n):
    """Give the loads behind 0 to n minutes from empty, whether they may be so or not."""
    return loads_on(ship, empty_load(), n)


def load_from_empty(ship, n):
    """Give the load behind n minutes from empty, whether it may be so or not."""
    return loads_from_empty(ship, n)[n]


def allowed_loads(ship):
    """Give the loads from empty on, up to the last up to which it may always be so."""
    allowed = []
    for load in loads_from_empty(ship, MOST_MINUTES):
        if not may_carry(ship, load):
            break
        allowed.append(load)
    return allowed


def best_load(ship, rest):
    """Give the load at the best minute to stop, where a trip takes rest minutes besides."""
    best = empty_load()
    for load in allowed_loads(ship):
        # Multiplied crosswise the parts compare exactly; only a greater one wins, so the least minute stays.
        if load.sand * (best.minutes + rest) > best.sand * (load.minutes + rest):
            best = load
    return best
