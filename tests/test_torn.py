"""Stories: what is told of them together, and what was never so."""

import random
import unittest
from itertools import product

from rootward.cacheruns import staleness, told
from rootward.errors import InvalidMoment, InvalidName, InvalidNumber, InvalidPolicy, InvalidTimeline
from rootward.labels import ordered
from rootward.stale import longest_stale, stale_bound
from rootward.torn import first_torn, least_wait, may_tell_whole, torn
from tests.manners import check_refused
from tests.plaincaches import force, lasting, random_policy
from tests.samples import NOTHING_AT_ALL
from tests.test_caches import NO_MOMENTS, NO_POLICIES

A, B, C = ("a",), ("b",), ("a", "z")
STORY = {A: [(0, 5, ("to", B)), (10, 5, ("rows", "x"))], B: [(0, 5, ("rows", "p")), (10, 5, ("rows", "q"))]}


def random_story(chance, names):
    """A story that chance decides."""
    values = [("to", name) for name in names] + [("rows", "x"), ("rows", "y")]
    story = {}
    for name in names:
        moments = [0] + sorted(chance.sample(range(1, 7), chance.randrange(3)))
        story[name] = [(moment, chance.randrange(4), chance.choice(values)) for moment in moments]
    return story


def plain_values(timeline, policy, moment):
    """The values that a part may tell: those that some schedule of two moments makes it tell."""
    found = {}
    for when in range(moment + 1):
        _, age, value = force(timeline, when)
        if when == moment or moment < when + lasting(policy, age):
            found[value] = True
    return list(found)


def followed(choice, name):
    """The list of pairs from a name on."""
    pairs = [(name, choice[name])]
    while pairs[-1][1][0] == "to" and len(pairs) < len(choice):
        pairs.append((pairs[-1][1][1], choice[pairs[-1][1][1]]))
    return pairs


def list_place(pairs):
    return [(name[::-1], word, value if word == "rows" else value[::-1]) for name, (word, value) in pairs]


def plain_whole(story, policy, name, moment):
    """All lists, by all products of values."""
    parts = [[(part, value) for value in plain_values(line, policy, moment)] for part, line in story.items()]
    lists = []
    for row in product(*parts):
        pairs = followed(dict(row), name)
        if pairs not in lists:
            lists.append(pairs)
    return sorted(lists, key=list_place)


def plain_torn(story, policy, name, moment):
    """Those of which no moment up to this one has all values."""
    return [pairs for pairs in plain_whole(story, policy, name, moment)
            if not any([all([force(story[part], when)[2] == value for part, value in pairs]) for when in range(moment + 1)])]


class StoriesTest(unittest.TestCase):
    def test_by_hand(self):
        self.assertEqual([[(A, ("rows", "x"))], [(A, ("to", B)), (B, ("rows", "p"))], [(A, ("to", B)), (B, ("rows", "q"))]], may_tell_whole(STORY, (0, 9), A, 12))
        self.assertEqual([[(A, ("to", B)), (B, ("rows", "q"))]], torn(STORY, (0, 9), A, 12))
        self.assertEqual([10, None, None], [first_torn(STORY, (0, 9), A), first_torn(STORY, (0, 9), B), first_torn(STORY, (0, 1), A)])
        self.assertEqual([[], [[(A, ("to", B)), (B, ("rows", "q"))]], []], [torn(STORY, (0, 9), A, moment) for moment in [9, 13, 14]])
        self.assertEqual([[(A, ("rows", "x"))]], may_tell_whole(STORY, (0, 9), A, 14))

    def test_rings(self):
        ring = {A: [(0, 9, ("to", B)), (5, 9, ("to", A))], B: [(0, 9, ("to", A))]}
        self.assertEqual([[(A, ("to", B)), (B, ("to", A))]], may_tell_whole(ring, (0, 9), A, 0))
        self.assertEqual([[(A, ("to", A)), (A, ("to", A))], [(A, ("to", B)), (B, ("to", A))]], may_tell_whole(ring, (0, 9), A, 6))
        # One cache tells one value of a name at a moment, so b leads to an a that leads back or to itself.
        self.assertEqual([[(B, ("to", A)), (A, ("to", A))], [(B, ("to", A)), (A, ("to", B))]], may_tell_whole(ring, (0, 9), B, 6))
        three = {A: [(0, 1, ("to", B))], B: [(0, 9, ("to", A)), (1, 9, ("rows", "x"))], C: [(0, 9, ("to", A))]}
        self.assertEqual([[(C, ("to", A)), (A, ("to", B)), (B, ("rows", "x"))], [(C, ("to", A)), (A, ("to", B)), (B, ("to", A))]], may_tell_whole(three, (0, 9), C, 3))
        self.assertEqual([[(A, ("to", B)), (B, ("rows", "x"))], [(A, ("to", B)), (B, ("to", A)), (A, ("to", B))]], may_tell_whole(three, (0, 9), A, 3))
        self.assertEqual([[("x",)]], [[pairs[0][0]] for pairs in may_tell_whole({("x",): [(0, 0, ("to", ("x",)))]}, (0, 9), ("x",), 3)])

    def test_order(self):
        low, high = ("z", "a"), ("a", "b")
        story = {A: [(0, 9, ("to", high)), (1, 9, ("to", low)), (2, 9, ("rows", "y")), (3, 9, ("rows", "x")), (4, 9, ("to", A))], low: [(0, 9, ("rows", "p"))], high: [(0, 9, ("rows", "p"))]}
        self.assertEqual([("rows", "x"), ("rows", "y"), ("to", A), ("to", low), ("to", high)], [pairs[0][1] for pairs in may_tell_whole(story, (0, 9), A, 4)])
        self.assertEqual([A, low, high], ordered([low, A, high]))

    def test_all_products(self):
        for seed in range(150):
            chance = random.Random(seed)
            names = [A, B, C, ()][:chance.randrange(1, 5)]
            story, policy = random_story(chance, names), random_policy(chance, 4)
            for name in names:
                firsts = []
                for moment in range(12):
                    self.assertEqual(plain_whole(story, policy, name, moment), may_tell_whole(story, policy, name, moment))
                    self.assertEqual(plain_torn(story, policy, name, moment), torn(story, policy, name, moment))
                    if torn(story, policy, name, moment):
                        firsts.append(moment)
                self.assertEqual(min(firsts, default=None), first_torn(story, policy, name))

    def test_limits(self):
        names = [(one,) for one in "abcdef"]
        story = {name: [(at, 10 ** 9, ("to", names[at]) if at < 6 else ("rows", "ab"[at - 6])) for at in range(8)] for name in names}
        whole = may_tell_whole(story, (0, 10 ** 9), names[0], 8)
        self.assertEqual(whole, sorted(whole))
        self.assertEqual(len(whole), len(torn(story, (0, 10 ** 9), names[0], 8)) + 3 + 5)
        self.assertEqual(1, first_torn(story, (0, 10 ** 9), names[0]))


class WrongArgumentsTest(unittest.TestCase):
    def test_stories(self):
        wrong = [one for one in NOTHING_AT_ALL] + [{("*",): STORY[B]}, {"a": STORY[B]}, {A: STORY[A]}, {A: []}, {A: [(1, 5, ("rows", "x"))]}, {A: [(0, 5, "x")]}, {A: [(0, 5, ("rows", "X"))]},
                                                   {A: [(0, 5, ("rows", A))]}, {A: [(0, 5, ("to", "a"))]}, {A: [(0, 5, ("cut", A))]}, {A: [(0, 5, ("rows", "x", 1))]}, {A: [(0, 5, ["rows", "x"])]},
                                                   {A: [(0, -1, ("rows", "x"))]}, {A: [(0, 5, ("rows", "x")), (0, 5, ("rows", "y"))]}, {A: ((0, 5, ("rows", "x")),)}, [A], {**STORY, None: STORY[B]}]
        for value in NOTHING_AT_ALL:
            wrong.extend([{**STORY, A: value}, {**STORY, A: STORY[A] + [value]}, {**STORY, A: [(0, 5, value)]}, {**STORY, A: [(0, 5, ("to", value))]}, {**STORY, A: [(0, 5, ("rows", value))]},
                          {**STORY, A: [(0, 5, (value, "x"))]}, {**STORY, A: [(value, 5, ("rows", "x"))]}])
            if value != 2 ** 32:
                wrong.append({**STORY, A: [(0, value, ("rows", "x"))]})
        for value in wrong:
            for call in [lambda: may_tell_whole(value, None, None, None), lambda: torn(value, None, None, None), lambda: first_torn(value, None, None)]:
                check_refused(self, InvalidTimeline, value, call)

    def test_others(self):
        for value in NO_POLICIES:
            for call in [lambda: may_tell_whole(STORY, value, None, None), lambda: torn(STORY, value, None, None), lambda: first_torn(STORY, value, None), lambda: least_wait(1, 1, value)]:
                check_refused(self, InvalidPolicy, value, call)
        for value in NOTHING_AT_ALL + [C, (), ("*",), "a", ["a"]]:
            for call in [lambda: may_tell_whole(STORY, (0, 9), value, None), lambda: torn(STORY, (0, 9), value, None), lambda: first_torn(STORY, (0, 9), value)]:
                check_refused(self, InvalidName, value, call)
        for value in NO_MOMENTS:
            for call in [lambda: may_tell_whole(STORY, (0, 9), A, value), lambda: torn(STORY, (0, 9), A, value)]:
                check_refused(self, InvalidMoment, value, call)
            check_refused(self, InvalidNumber, value, lambda: least_wait(value, None, None))
            check_refused(self, InvalidNumber, value, lambda: least_wait(1, value, None))


class WaitTest(unittest.TestCase):
    def test_by_hand(self):
        rows = [(10, 5, (0, 60), 5), (10, 10, (0, 60), 1), (5, 10, (0, 60), 1), (10, 0, (0, 60), 9), (10, 1, (0, 60), 9), (100, 1, (0, 60), 59), (100, 1, (60, 60), 1), (0, 0, (0, 60), 1),
                (10 ** 9, 1, (0, 10 ** 9), 10 ** 9 - 1), (100, 1, (30, 60), 30), (100, 0, (30, 60), 59), (0, 5, (3, 9), 1), (3, 1, (0, 9), 2), (2, 1, (0, 9), 1)]
        for age, new_age, policy, wanted in rows:
            self.assertEqual(wanted, least_wait(age, new_age, policy))

    def test_tried(self):
        for age, new_age in product(range(6), repeat=2):
            for policy in [(0, 1), (0, 4), (0, 9), (2, 5), (3, 3)]:
                fits = []
                for wait in range(1, 12):
                    line = [(0, age, "old"), (1, new_age, "old"), (1 + wait, new_age, "new")]
                    if longest_stale(line, policy, 0, 40) <= stale_bound(new_age, policy, 0):
                        fits.append(wait)
                self.assertEqual(fits[0], least_wait(age, new_age, policy))
                self.assertEqual(fits, list(range(fits[0], 12)))

    def test_by_schedules(self):
        line = [(0, 10, "old"), (1, 5, "old"), (5, 5, "new")]
        self.assertEqual(("old", 1), told(line, (0, 60), [0, 9])[-1])
        self.assertEqual([5, 4], [staleness(line, 9, "old"), stale_bound(5, (0, 60), 0)])
