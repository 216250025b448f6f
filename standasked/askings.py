"""Which askings could be left out, and which ones keep a limit most cheaply."""

from standasked.errors import NoNumber, NoPrices, TooMany
from standasked.programs import askings, check_starts, without
from standasked.stops import judge
from standasked.values import is_number

MOST_PRICED = 6


def is_limit_kept(told, limit):
    """Whether a limit is kept where judge returns what is told."""
    return told[0] == "none" or told[0] == "late" and told[1] <= limit


def check_limit(limit):
    if not is_number(limit):
        raise NoNumber("the limit is no number")


def check_prices(prices, known):
    if not isinstance(prices, dict) or len(prices) != len(known):
        raise NoPrices("prices are a dict with a number for just these places")
    for one in known:
        if one not in prices or not is_number(prices[one]):
            raise NoPrices("each of these places has a number as its price")


def may_go(program, starts, limit):
    known = askings(program)
    check_starts(program, starts)
    check_limit(limit)
    found = []
    for one in known:
        others = [other for other in known if other != one]
        if is_limit_kept(judge(without(program, others), starts), limit):
            found.append(one)
    return found


def price_of(chosen, prices):
    return sum([prices[one] for one in chosen])


def priced_lists(known, prices):
    """All ascending lists of known places as (price, length, list), in order."""
    lists = [[]]
    for one in known:
        lists = lists + [before + [one] for before in lists]
    return sorted([(price_of(chosen, prices), len(chosen), chosen) for chosen in lists])


def cheapest_choice(known, changed, program, starts, prices, limit):
    """The first list of known places with which the program, changed by it, keeps
    the limit, as (price, list, bars)."""
    check_starts(program, starts)
    check_prices(prices, known)
    check_limit(limit)
    if len(known) > MOST_PRICED:
        raise TooMany("there are more than 6 places with a price")
    bars = []
    for price, _, chosen in priced_lists(known, prices):
        told = judge(changed(program, chosen), starts)
        if is_limit_kept(told, limit):
            return price, chosen, bars
        bars.append((chosen, told))
    return None, None, bars


def cheapest(program, starts, prices, limit):
    return cheapest_choice(askings(program), without, program, starts, prices, limit)
