"""Rounds of webs of ties, ways between posts, two rounds apart, and the rays that come of them."""

from letbychecks.codes import is_lot
from letbychecks.errors import BadPost, NotApart, NotRound
from letbychecks.ratios import HALF, ONE, ZERO, is_sequence, is_whole
from letbychecks.ties import check_ties, web_code
from letbychecks.webrings import joined_groups
from letbychecks.words import lot_order, word_lot, words_of


class TwoRounds:
    """Two rounds without a common post, and a way from the one to the other."""

    def __init__(self, one, other, way):
        self.one = one
        self.other = other
        self.way = way


def tie_counts(web, lot):
    """Return a dict of how many ties of the lot each post meets that meets any."""
    counts = {}
    for tie in lot:
        for post in web.ties[tie]:
            counts[post] = counts.get(post, 0) + 1
    return counts


def met_posts(web, lot):
    """Return the posts that meet ties of the lot, ascending."""
    return tuple(sorted(list(tie_counts(web, lot))))


def odd_met(web, lot):
    """Return the posts that meet an odd number of ties of the lot, ascending."""
    counts = tie_counts(web, lot)
    return tuple(sorted([post for post in counts if counts[post] % 2 == 1]))


def fault_of_lot(web, lot):
    """Return None if the lot of ties is a round, else "empty", "post" or "parts"."""
    if len(lot) == 0:
        return "empty"
    counts = tie_counts(web, lot)
    if any([counts[post] != 2 for post in counts]):
        return "post"
    groups = joined_groups(web.posts, [web.ties[tie] for tie in lot])
    # A post that meets no tie of the lot is a group of its own.
    return None if len([1 for group in groups if len(group) > 1]) == 1 else "parts"


def round_fault(web, lot):
    """Return None for a round, else "empty", "post" or "parts"; raise BadLot()."""
    return fault_of_lot(web, check_ties(web, lot))


def round_posts(web, lot):
    """Return the posts of the round, ascending; raise BadLot(), then NotRound(what)."""
    ties = check_ties(web, lot)
    what = fault_of_lot(web, ties)
    if what is not None:
        raise NotRound(what)
    return met_posts(web, ties)


def list_rounds(web):
    """Return a list of all rounds in the order of lots."""
    # At a round each post meets an even number of ties, so it is a word.
    code = web_code(web)
    lots = sorted([word_lot(word) for word in words_of(code)], key=lot_order)
    return [lot for lot in lots if fault_of_lot(web, lot) is None]


def all_rounds(web):
    """Yield all rounds in the order of lots."""
    yield from list_rounds(web)


def other_end(web, tie, post):
    """Return the post at the other end of the tie."""
    low, high = web.ties[tie]
    return high if post == low else low


def longer_ways(web, begun):
    """Return the couples (way, posts) that are one tie longer than these ones, in the same order."""
    longer = []
    for way, posts in begun:
        for tie in web.ties_at(posts[-1]):
            post = other_end(web, tie, posts[-1])
            if post not in posts:
                longer.append(((*way, tie), (*posts, post)))
    return longer


def list_ways(web, start, goal):
    """Return a list of all ways from start to goal, by length, then ascending."""
    found = []
    begun = [((), (start,))]
    while len(begun) > 0:
        found = found + [way for way, posts in begun if posts[-1] == goal]
        begun = longer_ways(web, [(way, posts) for way, posts in begun if posts[-1] != goal])
    return found


def all_ways(web, one, other):
    """Yield all ways from one post to the other, by length, then ascending; raise BadPost(post)."""
    for post in (one, other):
        if not is_whole(post, 0, web.posts - 1):
            raise BadPost(post)
    yield from list_ways(web, one, other)


def posts_along(web, way, start):
    """Return a list of the posts that the way from start meets in turn, or None if it is no way; its items are any."""
    posts = [start]
    for tie in way:
        if not is_whole(tie, 0, len(web.ties) - 1) or posts[-1] not in web.ties[tie]:
            return None
        post = other_end(web, tie, posts[-1])
        if post in posts:
            return None
        posts.append(post)
    return posts


def is_round(web, thing):
    """Tell whether the thing, whatever it is, is a sequence of unlike ties that are a round."""
    return is_lot(thing, len(web.ties)) and fault_of_lot(web, thing) is None


def is_link(web, thing, ones, others):
    """Tell whether the thing is a way from one of the ones to one of the others that meets no more of them."""
    if not is_sequence(thing) or len(thing) == 0 or not is_whole(thing[0], 0, len(web.ties) - 1):
        return False
    starts = [post for post in web.ties[thing[0]] if post in ones]
    posts = posts_along(web, thing, starts[0]) if len(starts) > 0 else None
    if posts is None or posts[-1] not in others:
        return False
    return len([post for post in posts if post in ones or post in others]) == 2


def have_common(ones, others):
    """Tell whether some post is one of both."""
    return any([post in others for post in ones])


def apart_fault(web, two):
    """Return None for two rounds apart, else "one", "other", "meet" or "way"."""
    if not is_round(web, two.one):
        return "one"
    if not is_round(web, two.other):
        return "other"
    ones = met_posts(web, two.one)
    others = met_posts(web, two.other)
    if have_common(ones, others):
        return "meet"
    return None if is_link(web, two.way, ones, others) else "way"


def apart_couples(web):
    """Return a list of the couples of rounds without a common post, the first of each ahead in the order of lots."""
    posted = [(lot, met_posts(web, lot)) for lot in list_rounds(web)]
    couples = []
    for place, (one, ones) in enumerate(posted):
        couples = couples + [(one, other) for other, others in posted[place + 1:] if not have_common(ones, others)]
    return couples


def list_links(web, one, other):
    """Return a list of the ways that make two rounds without a common post two rounds apart."""
    ones = met_posts(web, one)
    others = met_posts(web, other)
    ways = [way for start in ones for goal in others for way in list_ways(web, start, goal)]
    return [way for way in ways if is_link(web, way, ones, others)]


def find_apart(web):
    """Return a TwoRounds, or None if there is none."""
    for one, other in apart_couples(web):
        links = list_links(web, one, other)
        if len(links) > 0:
            return TwoRounds(one, other, links[0])
    return None


def check_apart(web, two):
    """Return the couple of the ties of both rounds and those of the way; raise NotApart(what)."""
    what = apart_fault(web, two)
    if what is not None:
        raise NotApart(what)
    return (*two.one, *two.other), tuple(two.way)


def parted_things(web, parts, on_rounds, on_way, elsewhere):
    """Return for each tie the thing of its part; parts are the ties of both rounds and those of the way."""
    return tuple([on_rounds if tie in parts[0] else on_way if tie in parts[1] else elsewhere
                  for tie in range(len(web.ties))])


def apart_row(web, two):
    """Return the row with 1/2 on both rounds, 1 on the way and 0 elsewhere; raise NotApart(what)."""
    return parted_things(web, check_apart(web, two), HALF, ONE, ZERO)


def apart_ray(web, two):
    """Return the ray with 1 on both rounds, 2 on the way and 0 elsewhere; raise NotApart(what)."""
    return parted_things(web, check_apart(web, two), 1, 2, 0)


def apart_prices(web, two):
    """Return the prices 0 on both rounds, -1 on the way and 99 elsewhere; raise NotApart(what)."""
    return parted_things(web, check_apart(web, two), 0, -1, 99)


def web_rays(web):
    """Yield all rays of the cone of the web's code, ascending."""
    rays = [parted_things(web, (lot, ()), 1, 2, 0) for lot in list_rounds(web)]
    for one, other in apart_couples(web):
        for way in list_links(web, one, other):
            rays.append(parted_things(web, ((*one, *other), way), 1, 2, 0))
    yield from sorted(rays)
