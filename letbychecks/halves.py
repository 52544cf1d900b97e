"""The corners of the code of a web of ties: halves on rounds, and ones on ties between them."""

from letbychecks.errors import TooMany
from letbychecks.lots import all_lots
from letbychecks.ratios import lowest
from letbychecks.rounds import have_common, list_rounds, met_posts, odd_met

MOST_CORNER_TIES = 8


def round_sets(web):
    """Return a list of all choices of rounds without common posts, each a tuple of couples (round, posts)."""
    chosen = [()]
    for lot in list_rounds(web):
        posts = met_posts(web, lot)
        chosen = chosen + [(*rounds, (lot, posts)) for rounds in chosen
                           if not any([have_common(posts, others) for _, others in rounds])]
    return chosen


def is_fit(web, rounds, lot):
    """Tell whether the ones may be on this lot, beside halves on the rounds."""
    odd = odd_met(web, lot)
    met = [len([post for post in posts if post in odd]) for _, posts in rounds]
    # As the rounds have no common posts, the odd posts are all on rounds if none is left over.
    return sum(met) == len(odd) and all([many % 2 == 1 for many in met])


def double_rows(web, rounds):
    """Return a list of the rows, twice each share, that have their halves on these rounds."""
    halves = [tie for lot, _ in rounds for tie in lot]
    free = [tie for tie in range(len(web.ties)) if tie not in halves]
    return [tuple([1 if tie in halves else 2 if tie in lot else 0 for tie in range(len(web.ties))])
            for lot in all_lots(free) if is_fit(web, rounds, lot)]


def web_corners(web):
    """Yield all corners of the let rows of the web's code, ascending; raise TooMany(8)."""
    if len(web.ties) > MOST_CORNER_TIES:
        raise TooMany(MOST_CORNER_TIES)
    for row in sorted([row for rounds in round_sets(web) for row in double_rows(web, rounds)]):
        yield tuple([lowest(double, 2) for double in row])
