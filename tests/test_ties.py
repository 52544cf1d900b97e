"""Tests of letbychecks.ties: [8.1], [8.2], [8.3]."""

import unittest
from random import Random

from letbychecks.codes import Code
from letbychecks.errors import BadLot, BadPost, BadWeb, NotTies
from letbychecks.pairings import odd_posts
from letbychecks.rounds import round_fault, round_posts
from letbychecks.ties import Web, check_posts, web_code, web_from_code
from tests.helpers import FIVE, ODD_THINGS, Raises, lots_of, met_by_ties, some_code, some_webs, words_by_hand

PLAIN = Web(4, ((0, 1), (0, 1), (1, 2), (2, 3), (2, 3)))
LOOSE = Web(20, [(3, 7), (7, 9), (0, 19), (3, 7), (9, 12)])
WRONG_TIES = (None, "01", 5, (), (0,), (0, 1, 2), (2, 1), (1, 1), (0, 4), (-1, 1), (True, 2), (0, True), (0, 1.0),
              (0, None), ("0", "1"), {0: 1, 1: 2}, {0, 1}, [[0], 1], object())


def pieces_by_hand(web):
    """The pieces by going on from post to post."""
    pieces = []
    for start in range(web.posts):
        if not any(start in piece for piece in pieces):
            piece = {start}
            for _ in web.ties:
                piece |= {post for tie in web.ties if set(tie) & piece for post in tie}
            pieces.append(tuple(sorted(piece)))
    return tuple(pieces)


class Webs(Raises, unittest.TestCase):
    def test_posts(self):
        for posts in ODD_THINGS + (0, 21, -1, 100, 20.0, "4"):
            self.fails(BadWeb, ["posts", -1], Web, posts, [(0, 1)])
            self.fails(BadWeb, ["posts", -1], Web, posts, None)
        for posts in (2, 20):
            self.assertEqual(Web(posts, [(0, 1)]).posts, posts)

    def test_one_post(self):
        """A web of one post is not wrong for its posts, but it has no tie."""
        self.fails(BadWeb, ["many", -1], Web, 1, [])
        self.fails(BadWeb, ["tie", 0], Web, 1, [(0, 0)])
        self.fails(BadWeb, ["tie", 0], Web, 1, [(0, 1)])

    def test_many(self):
        for ties in (None, (), [], "ab", 3, True, {(0, 1)}, {(0, 1): 1}, [(0, 1)] * 11, [None] * 11, iter([(0, 1)])):
            self.fails(BadWeb, ["many", -1], Web, 4, ties)
        for many in (1, 10):
            self.assertEqual(Web(4, [(0, 1)] * many).ties, ((0, 1),) * many)

    def test_the_first_wrong_tie(self):
        for tie in WRONG_TIES:
            self.fails(BadWeb, ["tie", 0], Web, 4, [tie])
            self.fails(BadWeb, ["tie", 2], Web, 4, ((0, 3), [1, 2], tie, None))
            self.fails(BadWeb, ["tie", 9], Web, 4, [(0, 1)] * 9 + [tie])
        self.fails(BadWeb, ["tie", 1], Web, 20, [(0, 19), (0, 20)])

    def test_attributes(self):
        web = Web(4, [[0, 1], (0, 1), [2, 3]])
        self.assertEqual((web.posts, web.ties), (4, ((0, 1), (0, 1), (2, 3))))
        self.assertEqual({type(web.ties)} | {type(tie) for tie in web.ties}, {tuple})
        self.assertEqual((Web.MOST_TIES, web.MOST_TIES), (10, 10))
        self.assertEqual(Web(2, ((0, 1),)).ties, ((0, 1),))

    def test_nothing_is_kept_of_what_is_passed(self):
        ties = [[0, 1], [1, 2]]
        web = Web(4, ties)
        ties[0][1] = 3
        ties.append([2, 3])
        self.assertEqual(web.ties, ((0, 1), (1, 2)))

    def test_equal(self):
        self.assertTrue(PLAIN == Web(4, [list(tie) for tie in PLAIN.ties]))
        self.assertFalse(PLAIN != Web(4, PLAIN.ties))
        for other in (Web(5, PLAIN.ties), Web(4, PLAIN.ties[:4]), Web(4, PLAIN.ties[::-1]), web_code(PLAIN), None, 4,
                      PLAIN.ties, (4, PLAIN.ties), "web", object()):
            self.assertFalse(PLAIN == other)
            self.assertFalse(other == PLAIN)
            self.assertTrue(PLAIN != other)

    def test_iterating(self):
        for web in (PLAIN, LOOSE):
            self.assertEqual(list(web), list(web.ties))
            self.assertEqual([tie for tie in web], list(web.ties))
            self.assertEqual([(one, other) for one in web for other in web],
                             [(one, other) for one in web.ties for other in web.ties])

    def test_ties_at(self):
        for web in some_webs(811, 40) + [PLAIN, LOOSE]:
            for post in range(web.posts):
                told = tuple(tie for tie in range(len(web.ties)) if post in web.ties[tie])
                self.assertEqual(web.ties_at(post), told)
        self.assertEqual(PLAIN.ties_at(1), (0, 1, 2))
        self.assertEqual(LOOSE.ties_at(1), ())

    def test_bad_posts(self):
        for post in (4, -1, True, False, None, "0", 1.0, (0,), [], {}):
            self.fails(BadPost, [post], PLAIN.ties_at, post)
        thing = object()
        with self.assertRaises(BadPost) as caught:
            PLAIN.ties_at(thing)
        self.assertIs(caught.exception.post, thing)

    def test_piece_posts(self):
        for web in some_webs(812, 80) + [PLAIN, LOOSE]:
            self.assertEqual(web.piece_posts, pieces_by_hand(web))
            self.assertEqual({type(web.piece_posts)} | {type(piece) for piece in web.piece_posts}, {tuple})
        self.assertEqual(PLAIN.piece_posts, ((0, 1, 2, 3),))
        self.assertEqual(LOOSE.piece_posts[:4], ((0, 19), (1,), (2,), (3, 7, 9, 12)))
        self.assertEqual(len(LOOSE.piece_posts), 16)
        self.assertEqual(Web(5, [(3, 4), (0, 1), (1, 3)]).piece_posts, ((0, 1, 3, 4), (2,)))

    def test_lots_of_ties(self):
        for call in (round_fault, round_posts, odd_posts):
            for lot in (None, "01", 0, (5,), (-1,), (True,), (0, 0), [[0]], {0}, (None,), (0, 1.0), {0: 1}):
                self.fails(BadLot, [], call, PLAIN, lot)


class CodesOfWebs(Raises, unittest.TestCase):
    def test_checks_are_the_ties_at_posts(self):
        for web in some_webs(813, 60) + [PLAIN, LOOSE]:
            code = web_code(web)
            posts = [post for post in range(web.posts) if met_by_ties(web, range(len(web.ties)), post)]
            self.assertEqual(check_posts(web), tuple(posts))
            self.assertEqual(code.bits, len(web.ties))
            self.assertEqual(list(code.checks), [web.ties_at(post) for post in posts])
            for bit in range(code.bits):
                self.assertEqual(sum(bit in check for check in code.checks), 2)

    def test_words_are_even_at_each_post(self):
        for web in some_webs(814, 20, 7):
            lots = {tuple(int(tie in lot) for tie in range(len(web.ties))) for lot in lots_of(range(len(web.ties)))
                    if all(met_by_ties(web, lot, post) % 2 == 0 for post in range(web.posts))}
            self.assertEqual(lots, set(words_by_hand(web_code(web))))

    def test_plain_ones(self):
        self.assertEqual(web_code(PLAIN), FIVE)
        self.assertEqual(check_posts(PLAIN), (0, 1, 2, 3))
        self.assertEqual(check_posts(LOOSE), (0, 3, 7, 9, 12, 19))
        self.assertEqual(web_code(LOOSE), Code(5, [(2,), (0, 3), (0, 1, 3), (1, 4), (4,), (2,)]))
        self.assertEqual(web_code(Web(2, [(0, 1)] * 3)), Code(3, [(0, 1, 2), (0, 1, 2)]))

    def test_the_most_posts(self):
        web = Web(20, [(2 * tie, 2 * tie + 1) for tie in range(10)])
        self.assertEqual(web_code(web), Code(10, [(post // 2,) for post in range(20)]))
        self.assertEqual(web_from_code(web_code(web)), web)


class FromCodes(Raises, unittest.TestCase):
    def test_there_and_back(self):
        for web in some_webs(815, 60) + [PLAIN, LOOSE]:
            code = web_code(web)
            made = web_from_code(code)
            self.assertIs(type(made), Web)
            self.assertEqual(made.posts, len(code))
            self.assertTrue(web_code(made) == code)
            if len(check_posts(web)) == web.posts:
                self.assertTrue(made == web)

    def test_first_bit_that_is_not_in_two_checks(self):
        random = Random(816)
        told = {True: 0, False: 0}
        for _ in range(300):
            code = some_code(random, 4, 5)
            wrong = [bit for bit in range(code.bits) if sum(bit in check for check in code.checks) != 2]
            told[bool(wrong)] += 1
            if wrong:
                self.fails(NotTies, [wrong[0]], web_from_code, code)
            else:
                self.assertEqual(web_code(web_from_code(code)), code)
        self.assertGreater(min(told.values()), 5)

    def test_plain_ones(self):
        self.assertEqual(web_from_code(FIVE), PLAIN)
        self.assertEqual(web_from_code(Code(2, [(0, 1), (0, 1)])), Web(2, [(0, 1), (0, 1)]))
        self.assertEqual(web_from_code(Code(2, [(1,), (0,), (0, 1)])), Web(3, [(1, 2), (0, 2)]))
        self.fails(NotTies, [0], web_from_code, Code(3, []))
        self.fails(NotTies, [1], web_from_code, Code(3, [(0, 1), (0, 2), (2,)]))
        self.fails(NotTies, [2], web_from_code, Code(3, [(0, 1, 2), (0, 1, 2), (2,)]))
        self.fails(NotTies, [0], web_from_code, Code(2, [(0, 1)] * 63))


if __name__ == "__main__":
    unittest.main()
