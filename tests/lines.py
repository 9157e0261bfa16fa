"""Lines of calls written by name, and their answers call by call, for the tests."""

from hopperfill.hopper import answers

NAMES = (
    "begin", "ship", "fill", "dump", "pour", "change", "load", "weight", "after", "full", "longest", "best",
    "rate", "trips", "keeps", "lost", "wet", "draft", "fullest", "reaches", "look", "sums", "state",
)

TOP = 4294967295

# Each minute brings 0.60 of sand and 2.40 of water into 10 cubic metres; the fourth is the first of overflow.
SMALL = ("ship", 10, 100, 20000, 3, 20, 10)


def written(calls):
    """The list of numbers for calls like ("fill", 0, 5); a list among the numbers is a row."""
    numbers = []
    for call in calls:
        numbers.append(NAMES.index(call[0]))
        for value in call[1:]:
            if isinstance(value, list):
                numbers.append(len(value))
                numbers.extend(value)
            else:
                numbers.append(value)
    return numbers


def split(given):
    """What each call was answered, as a list for each."""
    each = []
    at = 0
    while at < len(given):
        each.append(given[at + 1:at + 1 + given[at]])
        at += 1 + given[at]
    return each


def answered(*calls):
    """The answers to calls, one list for each."""
    return split(answers(written(calls)))


def begun(*calls):
    """The answers to calls behind a begin, which is not among them."""
    return answered(("begin",), *calls)[1:]


def on(ship, *calls):
    """The answers to calls behind a begin and one ship, which are not among them."""
    return begun(ship, *calls)[1:]


def last(ship, *calls):
    """The answer to the last of the calls behind a begin and one ship."""
    return on(ship, *calls)[-1]
