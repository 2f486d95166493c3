"""Manners of caches, their nets and stories, seconds and their nets."""

import unittest

from rootward import cacheruns, caches, chains, secondnets, seconds, stale, torn
from rootward.caches import Cache
from tests.manners import Manners, seen, spoil
from tests.test_chains import NET as CACHES
from tests.test_chains import RUN
from tests.test_cacheruns import LINE
from tests.test_secondnets import CIRCLE, NET, ROUND
from tests.test_seconds import STORY as HISTORY
from tests.test_seconds import TIMERS
from tests.test_torn import A, B, STORY

ENTRY = ("found", ("a",), "addr", 9, (1, 2))


class CachesTest(Manners, unittest.TestCase):
    MODULES = [caches, cacheruns, stale, chains, torn, seconds, secondnets]
    HELPERS = ["Keepers", "bound_of"]

    def calls(self):
        line, policy, grace, until = {"timeline": LINE}, {"policy": (0, 60)}, {"grace": 5}, {"until": 200}
        node, story, lost = {"caches": CACHES, "node": "c", "age": 100}, {"story": STORY, "policy": (0, 9), "name": A}, {"history": HISTORY, "losses": 2, "until": 100}
        stand = {"seconds": CIRCLE, "serial": 0, "stand": dict(zip("abcd", ROUND[2:] + ROUND[2:0:-1] + ROUND[:1]))}
        rows = [
            (caches, "Cache", policy), (caches, "life", {**policy, "age": 5}), (caches, "clash", {"entry": ENTRY, "other": ("absent", (), 5)}),
            (cacheruns, "in_force", {**line, "moment": 5}), (cacheruns, "staleness", {**line, "moment": 105, "value": "old"}), (cacheruns, "told", {**line, **policy, "schedule": [5, 99, 100, 200]}),
            (cacheruns, "may_tell", {**line, **policy, "moment": 101}), (cacheruns, "schedule_for", {**line, **policy, "moment": 101, "value": "old"}), (cacheruns, "settled", {**line, **policy}),
            (stale, "told_silent", {**line, **policy, **grace, "schedule": [99, 110], "silence": [110]}), (stale, "longest_stale", {**line, **policy, **grace, **until}),
            (stale, "stale_run", {**line, **policy, **grace, **until}), (stale, "judge_stale_run", {**line, **policy, **grace, **until, "value": ([99, 113], [113], 113)}),
            (stale, "stale_bound", {"age": 5, **policy, **grace}), (stale, "worst_timeline", {"age": 5, **policy, **grace}),
            (chains, "told_run", {"caches": CACHES, "timeline": [(0, 100, "old"), (1, 100, "new")], "run": RUN}), (chains, "greatest_stale", node), (chains, "stale_way", node),
            (chains, "worst_run", node), (chains, "stale_ranks", {"caches": CACHES, "age": 100}), (chains, "judge_ranks", {"caches": CACHES, "age": 100, "value": {"a": 99, "b": 128, "c": 138}}),
            (chains, "settled_net", {**node, "change": 7}), (torn, "may_tell_whole", {**story, "moment": 12}), (torn, "torn", {**story, "moment": 12}), (torn, "first_torn", story),
            (torn, "least_wait", {"age": 9, "new_age": 2, **policy}), (seconds, "told_second", {"history": HISTORY, "lost": [20], "moment": 30}),
            (seconds, "askings", {"history": HISTORY, "lost": [20], "until": 90}), (seconds, "longest_lag_in", lost), (seconds, "lag_plan", lost), (seconds, "success_moments", lost),
            (secondnets, "tells_until", {"seconds": NET, "run": [(5, "b", "a")]}), (secondnets, "judge_lives", {"seconds": NET, "value": {"a": 59, "b": 98, "c": None, "d": None}}),
            (secondnets, "judge_endless", {**stand, "value": secondnets.endless(**stand)})]
        rows.extend([(seconds, word, {"timers": TIMERS, "losses": 2}) for word in ["longest_lag", "longest_silence", "longest_lag_noticed"]])
        rows.extend([(secondnets, word, {"seconds": NET, "node": node}) for word in ["longest_life", "life_run", "life_ring"] for node in ["b", "d"]])
        rows.extend([(secondnets, word, stand) for word in ["moves_of", "settled_stands", "endless", "comes_to_newest"]])
        cache = Cache((0, 60))
        cache.put(5, ENTRY, 3)
        asked = [("living", {"moment": 5}), ("look", {"moment": 5, "name": ("a",), "kind": "addr"}), ("put", {"moment": 5, "entry": ("absent", ("b",), 0), "rank": 9}), ("drop", {"name": B}), ("twin", {})]
        rows.extend([(cache, word, arguments) for word, arguments in asked])
        return [(getattr(place, word), arguments, []) for place, word, arguments in rows]

    def test_calls_by_which_much_comes_back(self):
        for call, arguments, _ in self.calls():
            if call.__name__.startswith("judge_"):
                self.assertTrue(call(**arguments), call.__name__)
            if call.__name__ in ["schedule_for", "stale_run", "worst_timeline", "stale_way", "worst_run", "torn", "lag_plan", "endless"]:
                self.assertTrue(call(**arguments), call.__name__)

    def test_a_cache_stays_as_it_was(self):
        cache = Cache((0, 60))
        cache.put(5, ENTRY, 3)
        ahead = seen(cache.living(5))
        spoil(cache.living(5))
        self.assertEqual(ahead, seen(cache.living(5)))
        twin = cache.twin()
        twin.drop(())
        twin.put(70, ("absent", (), 5), 9)
        self.assertEqual(ahead, seen(cache.living(5)))
        cache.undo()
        self.assertEqual([], cache.living(5))
        twin.undo()
        twin.undo()
        self.assertEqual([], twin.living(70))
