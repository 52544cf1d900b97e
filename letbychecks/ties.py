"""Webs of ties: posts and ties between them, which stand for codes whose bits are each in just two checks."""

from letbychecks.codes import Code, is_long, is_lot
from letbychecks.errors import BadLot, BadPost, BadWeb, NotTies
from letbychecks.ratios import is_sequence, is_whole

MOST_POSTS = 20


def is_tie(thing, posts):
    """Tell whether the thing is a sequence (low, high) of two of so many posts, low below high."""
    return is_long(thing, 2) and is_whole(thing[1], 0, posts - 1) and is_whole(thing[0], 0, thing[1] - 1)


class Web:
    """A count of posts and a tuple of ties, each a couple (low, high) of posts."""

    MOST_TIES = 10

    def __init__(self, posts, ties):
        if not is_whole(posts, 1, MOST_POSTS):
            raise BadWeb("posts", -1)
        if not is_sequence(ties) or not 1 <= len(ties) <= self.MOST_TIES:
            raise BadWeb("many", -1)
        for number, tie in enumerate(ties):
            if not is_tie(tie, posts):
                raise BadWeb("tie", number)
        self.posts = posts
        self.ties = tuple([tuple(tie) for tie in ties])

    def __eq__(self, other):
        return isinstance(other, Web) and self.posts == other.posts and self.ties == other.ties

    def __iter__(self):
        return iter(self.ties)

    def ties_at(self, post):
        """Return the ties at the post, ascending; raise BadPost(post)."""
        if not is_whole(post, 0, self.posts - 1):
            raise BadPost(post)
        return tuple([number for number, tie in enumerate(self.ties) if post in tie])

    @property
    def piece_posts(self):
        """The pieces, each an ascending tuple of posts, by their least posts."""
        # Each post has the least post of its piece as its mark, as far as the ties so far join it.
        marks = list(range(self.posts))
        for low, high in self.ties:
            least = min(marks[low], marks[high])
            most = max(marks[low], marks[high])
            marks = [least if mark == most else mark for mark in marks]
        firsts = [post for post, mark in enumerate(marks) if mark == post]
        return tuple([tuple([post for post, mark in enumerate(marks) if mark == first]) for first in firsts])


def check_ties(web, lot):
    """Return the lot of ties as an ascending tuple; raise BadLot()."""
    if not is_lot(lot, len(web.ties)):
        raise BadLot()
    return tuple(sorted(lot))


def check_posts(web):
    """Return the posts that have ties, ascending."""
    return tuple([post for post in range(web.posts) if len(web.ties_at(post)) > 0])


def web_code(web):
    """Return the code with a bit for each tie and a check for each post that has ties."""
    return Code(len(web.ties), [web.ties_at(post) for post in check_posts(web)])


def web_from_code(code):
    """Return the web whose posts are the numbers of the checks; raise NotTies(bit)."""
    ties = []
    for bit in range(code.bits):
        numbers = [number for number, check in enumerate(code.checks) if bit in check]
        if len(numbers) != 2:
            raise NotTies(bit)
        ties.append(numbers)
    return Web(len(code), ties)
