"""The calls on one object: how they are read from a list, and what each of them answers."""

from hopperfill.drafts import depth_at, in_table, is_table
from hopperfill.filling import HUNDREDTHS, MOST_MINUTES, Ship, allowed_loads, best_load, empty_load, kept_hundredths
from hopperfill.filling import load_from_empty, loads_from_empty, loads_on, may_carry, poured, whole_tons

NO_SUCH_SHIP = -2
NONE_THERE = -6
NOT_BEGUN = -11
TOO_LITTLE = -12
NOT_NOW = -16
OUT_OF_RANGE = -22
TOO_MANY = -28
NEVER = -33
TOO_HEAVY = -41

MOST_SHIPS = 4
MOST_POURED = 10000
MOST_REST = 2000
MOST_DAY = 100000
MOST_REACHED = 10000

MINUTES_OF_HOUR = 60

# The least and the most of room, empty, most, flow, solid and loss.
SHIP_RANGES = ((1, 10000), (1, 20000), (1, 20000), (1, 200), (1, 60), (0, 10))

BEGIN = 0
DRAFT = 17

# How many whole numbers stand behind the number of each call, from begin, 0, to state, 22.
WHOLE_NUMBERS = (0, 6, 2, 1, 2, 3, 1, 1, 2, 1, 1, 2, 3, 3, 2, 2, 1, 1, 0, 2, 1, 0, 0)


class Fleet:
    """The object that the calls of one list are made on."""

    def __init__(self):
        self.begun = False
        self.ships = []


class Reader:
    """A list of calls, and the place up to which it was read."""

    def __init__(self, calls):
        self.calls = calls
        self.place = 0

    def ended(self):
        """Tell whether all was read."""
        return self.place >= len(self.calls)

    def take_one(self):
        """Give the number at the place, and go behind it."""
        number = self.calls[self.place]
        self.place = self.place + 1
        return number

    def take(self, count):
        """Give so many numbers from the place on, and go behind them."""
        start = self.place
        self.place = start + count
        return self.calls[start:self.place]


def outside(number, least, most):
    """Tell whether a number is out of its range."""
    return number < least or number > most


def any_outside(numbers, ranges):
    """Tell whether one of the numbers is out of the range that stands at its place."""
    return any([outside(number, limits[0], limits[1]) for number, limits in zip(numbers, ranges)])


def answer_begin(fleet, numbers):
    """begin: there is nothing."""
    fleet.begun = True
    fleet.ships = []
    return [0]


def answer_ship(fleet, numbers):
    """ship: one more, empty."""
    if any_outside(numbers, SHIP_RANGES):
        return [OUT_OF_RANGE]
    if len(fleet.ships) >= MOST_SHIPS:
        return [TOO_MANY]
    fleet.ships.append(Ship(numbers[0], numbers[1], numbers[2], numbers[3], numbers[4], numbers[5]))
    return [len(fleet.ships) - 1]


def answer_fill(ship, numbers):
    """fill: so many minutes on, unless it would be too heavy behind one of them."""
    n = numbers[0]
    if outside(n, 1, MOST_MINUTES) or ship.load.minutes + n > MOST_MINUTES:
        return [OUT_OF_RANGE]
    loads = loads_on(ship, ship.load, n)
    if not all([may_carry(ship, load) for load in loads]):
        return [TOO_HEAVY]
    ship.load = loads[n]
    # The overflow counts since it was empty, so that two goes answer in the end as one does.
    return [ship.load.sand // HUNDREDTHS, ship.load.water // HUNDREDTHS, ship.load.overflow]


def answer_dump(ship, numbers):
    """dump: it is empty, and one trip more."""
    if ship.load.minutes == 0:
        return [NONE_THERE]
    sand = ship.load.sand
    ship.load = empty_load()
    ship.trips = ship.trips + 1
    ship.carried = ship.carried + sand
    return [sand // HUNDREDTHS, sand % HUNDREDTHS]


def answer_pour(ship, numbers):
    """pour: so many cubic metres of water out."""
    n = numbers[0]
    if outside(n, 1, MOST_POURED):
        return [OUT_OF_RANGE]
    if ship.load.water < n * HUNDREDTHS:
        return [TOO_LITTLE]
    ship.load = poured(ship.load, n * HUNDREDTHS)
    return [ship.load.water // HUNDREDTHS]


def answer_change(ship, numbers):
    """change: another flow and solid, while it is empty."""
    # Of a ship's ranges those of flow and solid.
    if any_outside(numbers, SHIP_RANGES[3:5]):
        return [OUT_OF_RANGE]
    if ship.load.minutes > 0:
        return [NOT_NOW]
    before = ship.flow
    ship.flow = numbers[0]
    ship.solid = numbers[1]
    return [before]


def answer_load(ship, numbers):
    """load: minutes since it was empty, and what came of them."""
    load = ship.load
    return [load.minutes, load.sand, load.water, load.overflow, load.gone]


def answer_weight(ship, numbers):
    """weight: in whole tons, alone and with the empty ship, and what it may carry."""
    tons = whole_tons(ship.load)
    return [tons, tons + ship.empty, ship.most]


def answer_after(ship, numbers):
    """after: what there is n minutes from empty, and whether it may be so."""
    n = numbers[0]
    if n > MOST_MINUTES:
        return [OUT_OF_RANGE]
    load = load_from_empty(ship, n)
    allowed = 1 if may_carry(ship, load) else 0
    return [load.sand, load.water, load.overflow, load.gone, allowed]


def answer_full(ship, numbers):
    """full: the first minute from empty behind which there was overflow."""
    for load in loads_from_empty(ship, MOST_MINUTES):
        if load.overflow > 0:
            return [load.minutes]
    return [NEVER]


def answer_longest(ship, numbers):
    """longest: how many minutes from empty it may be filled."""
    # The first of the allowed loads is the empty one, behind no minute.
    return [len(allowed_loads(ship)) - 1]


def answer_best(ship, numbers):
    """best: the best minute to stop, the sand then, and how much that is an hour."""
    rest = numbers[0]
    if outside(rest, 1, MOST_REST):
        return [OUT_OF_RANGE]
    load = best_load(ship, rest)
    return [load.minutes, load.sand, load.sand * MINUTES_OF_HOUR // (load.minutes + rest)]


def answer_rate(ship, numbers):
    """rate: how much sand an hour it is to stop n minutes from empty, and what the division leaves."""
    n = numbers[0]
    rest = numbers[1]
    if n > MOST_MINUTES or outside(rest, 1, MOST_REST):
        return [OUT_OF_RANGE]
    sand = load_from_empty(ship, n).sand * MINUTES_OF_HOUR
    return [sand // (n + rest), sand % (n + rest)]


def answer_trips(ship, numbers):
    """trips: how many whole ones there are in so many minutes, their sand, and the best minute."""
    rest = numbers[0]
    day = numbers[1]
    if outside(rest, 1, MOST_REST) or day > MOST_DAY:
        return [OUT_OF_RANGE]
    load = best_load(ship, rest)
    trips = day // (load.minutes + rest)
    return [trips, trips * load.sand, load.minutes]


def answer_keeps(ship, numbers):
    """keeps: how many hundredths of the sand stay in the k-th minute of overflow."""
    k = numbers[0]
    if k > MOST_MINUTES:
        return [OUT_OF_RANGE]
    return [kept_hundredths(ship, k)]


def answer_lost(ship, numbers):
    """lost: how many thousandths of the sand of n minutes from empty go over, and how much that is."""
    n = numbers[0]
    if outside(n, 1, MOST_MINUTES):
        return [OUT_OF_RANGE]
    load = load_from_empty(ship, n)
    came = load.sand + load.gone
    return [load.gone * 1000 // came, load.gone]


def answer_wet(ship, numbers):
    """wet: how many thousandths of what is in it are water."""
    load = ship.load
    if load.minutes == 0:
        return [NONE_THERE]
    # Of the first minute some sand stays always, and it is not poured out: there is something to divide by.
    return [load.water * 1000 // (load.sand + load.water)]


def answer_draft(ship, table):
    """draft: how deep the ship lies by the table, with what is in it."""
    if not is_table(table):
        return [OUT_OF_RANGE]
    tons = whole_tons(ship.load) + ship.empty
    if not in_table(table, tons):
        return [NEVER]
    return [depth_at(table, tons)]


def answer_fullest(fleet, numbers):
    """fullest: the ship with the greatest part of its room full of sand, its sand, its room."""
    if len(fleet.ships) == 0:
        return [NONE_THERE]
    place = 0
    for other, ship in enumerate(fleet.ships):
        fullest = fleet.ships[place]
        # Multiplied crosswise the parts compare exactly; only a greater one wins, so the first stays.
        if ship.load.sand * fullest.room > fullest.load.sand * ship.room:
            place = other
    return [place, fleet.ships[place].load.sand, fleet.ships[place].room]


def answer_reaches(ship, numbers):
    """reaches: the first of the allowed minutes behind which there are so many cubic metres of sand."""
    n = numbers[0]
    if n > MOST_REACHED:
        return [OUT_OF_RANGE]
    for load in allowed_loads(ship):
        if load.sand >= n * HUNDREDTHS:
            return [load.minutes]
    return [NEVER]


def answer_look(ship, numbers):
    """look: the ship as it was told, or as it was changed since."""
    return [ship.room, ship.empty, ship.most, ship.flow, ship.solid, ship.loss]


def answer_sums(fleet, numbers):
    """sums: of all ships the trips, the sand that they carried, and the sand in the hoppers."""
    trips = sum([ship.trips for ship in fleet.ships])
    carried = sum([ship.carried for ship in fleet.ships])
    aboard = sum([ship.load.sand for ship in fleet.ships])
    return [0, trips, carried, aboard]


def answer_state(fleet, numbers):
    """state: how many ships, and of each the trips and the sand that they carried."""
    told = [len(fleet.ships)]
    for ship in fleet.ships:
        told.append(ship.trips)
        told.append(ship.carried)
    return told


# The calls that name no ship.
FLEET_CALLS = {
    0: answer_begin,
    1: answer_ship,
    18: answer_fullest,
    21: answer_sums,
    22: answer_state,
}

SHIP_CALLS = {
    2: answer_fill,
    3: answer_dump,
    4: answer_pour,
    5: answer_change,
    6: answer_load,
    7: answer_weight,
    8: answer_after,
    9: answer_full,
    10: answer_longest,
    11: answer_best,
    12: answer_rate,
    13: answer_trips,
    14: answer_keeps,
    15: answer_lost,
    16: answer_wet,
    17: answer_draft,
    19: answer_reaches,
    20: answer_look,
}


def answer_with_ship(fleet, number, numbers):
    """Answer a call whose first number is a ship's; the others are handed on."""
    if numbers[0] >= len(fleet.ships):
        return [NO_SUCH_SHIP]
    return SHIP_CALLS[number](fleet.ships[numbers[0]], numbers[1:])


def answer_call(fleet, number, numbers):
    """Answer one call: a list of its numbers, a refusal alone in it."""
    if number != BEGIN and not fleet.begun:
        return [NOT_BEGUN]
    if number in FLEET_CALLS:
        return FLEET_CALLS[number](fleet, numbers)
    return answer_with_ship(fleet, number, numbers)


def read_numbers(reader, number):
    """Give the numbers of the call with this number; a row's own stand behind the whole numbers."""
    numbers = reader.take(WHOLE_NUMBERS[number])
    if number == DRAFT:
        count = reader.take_one()
        numbers = numbers + reader.take(count)
    return numbers


def answers(calls):
    """Answer the calls of a list on a new object: for each how many numbers, and these."""
    fleet = Fleet()
    reader = Reader(calls)
    given = []
    while not reader.ended():
        number = reader.take_one()
        numbers = read_numbers(reader, number)
        answer = answer_call(fleet, number, numbers)
        given.append(len(answer))
        given.extend(answer)
    return given
