import itertools
import random
import unittest

from oracles import lively_spec
from promiseplay.errors import InvalidSpec, TooLarge
from promiseplay.formulas import temporal_count
from promiseplay.parsing import parse_property
from promiseplay.reasons import cores, helps, is_honest, keepable_parts, share
from promiseplay.specs import Spec, dual
from promiseplay.synthesis import synthesize

LEADS = [-3, -2, -1, 0, 1, 2]


def prop(text):
    return parse_property(text, ["r", "s", "g", "h"])


def spec_of(guarantees, assumptions=(), lead=0, negated=False):
    return Spec(["r", "s"], ["g", "h"], lead, [prop(text) for text in assumptions], [prop(text) for text in guarantees], negated=negated)


def subsets(count):
    return [chosen for size in range(count + 1) for chosen in itertools.combinations(range(count), size)]


def least(sets):
    return tuple(sorted(one for one in sets if not any(set(other) < set(one) for other in sets)))


def greatest(sets):
    return tuple(sorted(one for one in sets if not any(set(other) > set(one) for other in sets)))


def part(spec, indexes, more=()):
    guarantees = [spec.guarantees[k] for k in indexes]
    return Spec(spec.inputs, spec.outputs, spec.lead, list(spec.assumptions) + list(more), guarantees)


class Shares(unittest.TestCase):
    def test_what_it_is(self):
        spec = spec_of(["g", "h", "G r"], ["s"], lead=-1)
        found = share(spec, (0, 2))
        self.assertEqual(vars(found), vars(spec_of(["g", "G r"], ["s"], lead=-1)))
        self.assertEqual(vars(share(spec, ())), vars(spec_of([], ["s"], lead=-1)))
        self.assertEqual(vars(share(spec, (0, 1, 2))), vars(spec))

    def test_indexes(self):
        spec = spec_of(["g", "h", "G r"])
        for indexes in [(3,), (-1,), (1, 0), (0, 0), (0, 1, 3)]:
            with self.assertRaises(InvalidSpec):
                share(spec, indexes)


class Cores(unittest.TestCase):
    def check(self, spec):
        before = dict(vars(spec))
        found = cores(spec), keepable_parts(spec)
        self.assertEqual(vars(spec), before)
        told = {chosen: synthesize(part(spec, chosen)).realizable for chosen in subsets(len(spec.guarantees))}
        self.assertEqual(found[0], least([chosen for chosen, kept in told.items() if not kept]))
        self.assertEqual(found[1], greatest([chosen for chosen, kept in told.items() if kept]))
        for chosen, kept in told.items():
            self.assertIs(synthesize(share(spec, chosen)).realizable, kept)
        return found

    def test_known_answers(self):
        for guarantees, assumptions, lead, wanted in [
                (["G(g <-> r)", "G !g", "G(h <-> s)"], [], 0, (((0, 1),), ((0, 2), (1, 2)))),
                (["false", "g", "!g"], [], 0, (((0,), (1, 2)), ((1,), (2,)))),
                (["g", "h"], [], 0, ((), ((0, 1),))), ([], [], 0, ((), ((),))), (["g <-> X r"], [], 0, (((0,),), ((),))),
                (["g <-> X r"], [], 1, ((), ((0,),))), (["g <-> r", "!g"], ["G !r"], 0, ((), ((0, 1),))), (["g <-> r", "!g"], ["G !r"], -1, ((), ((0, 1),))),
                (["F g", "G !g", "G(g <-> r)", "G h", "F !h"], [], 0, (((0, 1), (0, 2), (1, 2), (3, 4)), ((0, 3), (0, 4), (1, 3), (1, 4), (2, 3), (2, 4)))),
                (["g | h", "!g", "!h", "g -> h", "h -> g"], [], 0, (((0, 1, 2), (0, 1, 4), (0, 2, 3)),
                                                                   ((0, 1, 3), (0, 2, 4), (0, 3, 4), (1, 2, 3, 4))))]:
            self.assertEqual(self.check(spec_of(guarantees, assumptions, lead)), wanted)

    def test_drawn_specifications(self):
        chance = random.Random(1)
        sizes = set()
        for k in range(40):
            spec = lively_spec(chance, 2, 2, lead=LEADS[k % 6], negated=False, most=4, hidden=0.05)
            found = self.check(spec)
            sizes.update(len(core) for core in found[0])
        self.assertTrue({1, 2} <= sizes)


class Helps(unittest.TestCase):
    def check(self, spec, candidates):
        given = list(candidates)
        found = helps(spec, candidates)
        self.assertEqual(candidates, given)
        told = {}
        for chosen in subsets(len(candidates)):
            told[chosen] = synthesize(part(spec, range(len(spec.guarantees)), [candidates[k] for k in chosen])).realizable
        self.assertEqual(found, least([chosen for chosen, kept in told.items() if kept]))
        return found

    def test_known_answers(self):
        spec = spec_of(["G(g <-> X r)"])
        for candidates, wanted in [(["G r"], ((0,),)), (["G(r <-> X r)"], ((0,),)), (["r", "G(r -> X r)"], ((0, 1),)), (["F r", "s"], ()), ([], ()),
                                   (["G r", "G !r"], ((0,), (1,))), (["s", "G(s <-> X r)", "G(g -> X r)", "G(!g -> X !r)"], ((1,), (2,), (3,))), (["false", "true"], ((0,),))]:
            self.assertEqual(self.check(spec, [prop(text) for text in candidates]), wanted)
        self.assertEqual(self.check(spec_of(["G(g <-> r)"]), [prop("G r"), prop("false")]), ((),))
        self.assertEqual(self.check(spec_of(["G(g <-> r)"]), []), ((),))
        self.assertEqual(self.check(spec_of(["G(g <-> X r)"], ["F G r"]), [prop("G(r -> X r)"), prop("r")]), ((0, 1),))

    def test_drawn_specifications(self):
        chance = random.Random(2)
        texts = ["G F r", "F G r", "G(r -> X r)", "r", "s", "G(r <-> s)", "G(g -> X r)", "G(!g -> X !r)", "G !s", "false"]
        guarantees = ["G(g <-> X r)", "G(s -> h)", "G F (g & r)", "G(r -> F g) & G(s -> !g)", "F G (g <-> Y r)", "h U r"]
        told = {}
        for k in range(40):
            spec = spec_of(chance.sample(guarantees, chance.randint(1, 2)), chance.choice([[], ["G F s"]]), LEADS[k % 6])
            candidates = [prop(text) for text in chance.sample(texts, chance.randint(0, 3))]
            temporal = sum(temporal_count(each) for each in list(spec.assumptions) + list(spec.guarantees) + candidates)
            if temporal > 8:
                continue
            found = self.check(spec, candidates)
            told[len(found)] = told.get(len(found), 0) + 1
        self.assertGreater(min(told[0], told[1]), 5)


class Honest(unittest.TestCase):
    def test_known_answers(self):
        candidates = [prop(text) for text in ("G r", "F !r", "G(g <-> X s)", "false", "G(s <-> g)")]
        for lead, assumptions, indexes, wanted in [(0, [], (), True), (0, [], (0,), True), (0, [], (0, 1), False), (0, [], (2,), True), (1, [], (2,), False),
                                                   (-2, [], (2,), True), (0, [], (3,), False), (0, [], (4,), False), (-1, [], (4,), True),
                                                   (0, ["!r"], (0,), False), (0, ["!r"], (1,), True), (0, ["false"], (), False), (-1, [], (0, 2, 4), False)]:
            self.assertIs(is_honest(spec_of([], assumptions, lead), candidates, indexes), wanted, (lead, assumptions, indexes))

    def test_what_the_surroundings_can_promise(self):
        chance = random.Random(3)
        told = {True: 0, False: 0}
        texts = ["G F r", "G(g -> X r)", "G(g <-> X r)", "G(r <-> g)", "F(r & !s)", "G(s -> F g)", "!s U g"]
        for k in range(40):
            spec = spec_of(["g"], chance.sample(texts, chance.randint(0, 1)), LEADS[k % 6])
            candidates = [prop(text) for text in chance.sample(texts, 3)]
            assert sum(temporal_count(each) for each in list(spec.assumptions) + candidates) <= 8
            indexes = chance.choice(subsets(3))
            promised = list(spec.assumptions) + [candidates[k] for k in indexes]
            # A machine for the dual that breaks "some promise is false" makes all promises true.
            other = Spec(spec.inputs, spec.outputs, spec.lead, promised, [("false",)])
            wanted = not synthesize(other).realizable
            self.assertIs(is_honest(spec, candidates, indexes), wanted)
            self.assertEqual(dual(other).lead, -1 - spec.lead)
            told[wanted] += 1
        self.assertGreater(min(told.values()), 5)

    def test_indexes(self):
        spec = spec_of(["g"])
        for indexes in [(2,), (-1,), (1, 0), (1, 1)]:
            with self.assertRaises(InvalidSpec):
                is_honest(spec, [prop("r"), prop("s")], indexes)


class Sizes(unittest.TestCase):
    def test_negated(self):
        spec = spec_of(["g"] * 7, negated=True)
        for call in [lambda: share(spec, (9,)), lambda: cores(spec), lambda: keepable_parts(spec), lambda: helps(spec, []), lambda: is_honest(spec, [], (9,))]:
            with self.assertRaises(InvalidSpec):
                call()

    def test_too_large(self):
        for guarantees, assumptions in [(["g"] * 7, []), (["g"] * 3, ["r"] * 4), (["G F G F g"] * 2 + ["X g"], []), (["G F G F g", "G F G g"], ["X X r"])]:
            spec = spec_of(guarantees, assumptions)
            for call in [lambda: share(spec, (9,)), lambda: cores(spec), lambda: keepable_parts(spec), lambda: helps(spec, []), lambda: is_honest(spec, [], (9,))]:
                with self.assertRaises(TooLarge):
                    call()
        for guarantees, assumptions, candidates in [(["g"] * 4, ["r"], ["s"] * 2), (["G F G F g"], ["X r"], ["G F G F s"])]:
            spec = spec_of(guarantees, assumptions)
            share(spec, (0,))
            cores(spec)
            for call in [lambda: helps(spec, [prop(text) for text in candidates]), lambda: is_honest(spec, [prop(text) for text in candidates], (9,))]:
                with self.assertRaises(TooLarge):
                    call()

    def test_just_small_enough(self):
        spec = spec_of(["g"] * 4, ["r"])
        self.assertEqual((cores(spec), keepable_parts(spec), helps(spec, [prop("s")])), ((), ((0, 1, 2, 3),), ((),)))
        spec = spec_of(["G F G F g"], ["X r"])
        self.assertEqual(helps(spec, [prop("G F G s")]), ((),))
        self.assertIs(is_honest(spec, [prop("G F G s")], (0,)), True)
        spec = spec_of(["G F g", "G F !g", "X X g", "X !h", "g", "h"])
        self.assertEqual(cores(spec), ())


if __name__ == "__main__":
    unittest.main()
