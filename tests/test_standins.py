"""[191] rules, [192] for another one, [193] towers."""

import random
import unittest

from nearhelp.books import Book
from nearhelp.errors import InvalidFacts, InvalidRules, KeptUp, MayStand, NearError
from nearhelp.libraries import Library
from nearhelp.ports import Ports
from nearhelp.processes import Process
from nearhelp.ranks import ranks
from nearhelp.standins import is_tower, kept_up, may_stand, rule_ranks, rules_of, tower
from tests import judges, judges_waits, makers
from tests.helpers import any_values
from tests.judged import JudgedCase
from tests.test_joins import FULL
from tests.test_libraries import FIFTEEN, OTHERS, SMALL, WIDE, make
from tests.test_ranks import ROW
from tests.test_trees import SIXTY
from tests.test_typed import GREAT, processes_of

PQR = Ports([("p", 2), ("q", 2), ("r", 2)])
THREE = Ports([("p", 3), ("q", 2)])
ELEVEN = Ports([(name, 3) for name in "abcdefghijk"])
TWELVE = Ports([(name, 3) for name in "abcdefghijkl"])
SOON, LATE = [("p1", ("q1", "r1"))], [("p1", ("q1",))]
UP = [("p1", ("q1",)), ("q2", ("p2",))]


def make_rules(rng, ports, most):
    rules = []
    for _ in range(rng.randint(0, most)):
        side = rng.choice(ports.sides())
        rest = [other for other in ports.sides() if other != side]
        rules.append((side, tuple(sorted(rng.sample(rest, min(len(rest), rng.choice([0, 1, 1, 1, 2, 2, 3])))))))
    return rules


def make_falling(rng, ports, most):
    """Rules that keep nothing up by themselves."""
    rules = make_rules(rng, ports, most)
    while kept_up(ports, rules, []):
        rules = [rule for rule in rules if rule[0] != kept_up(ports, rules, [])[0]]
    return rules


class RulesTest(JudgedCase):
    def checks(self, process):
        rules = set()
        for lot, closed in Book(process).standings():
            for side in closed:
                rules.add((side, tuple(sorted({end for end in lot if end not in closed}))))
        self.same(rules_of(process=process), sorted(rules))
        self.assertTrue(judges_waits.is_rules(process.ports, sorted(rules), 999))
        return len(rules)

    def test_words(self):
        once = [("p1", ("above", ("due", "q1"), 0)), ("p1", ("above", ("due", "r1"), 1))]
        process = make(PQR, "x", [["r1", "p1", "r1", "q1"]], once)
        self.same(rules_of(process), [("p1", ("q1",)), ("p1", ("q1", "r1")), ("p1", ("r1",))])
        self.assertEqual(self.checks(process), 3)

    def test_no_opens_and_three(self):
        closed = make(SMALL, "x", [["p1", "p1", "q1"], ["p1", "p2", "q1", "q2"]], [("p1", ("is", 0, 0))])
        rules = rules_of(closed)
        self.assertEqual(self.checks(closed), len(rules))
        self.assertLessEqual({("p1", ()), ("p1", ("p2", "q1", "q2")), ("p1", ("q1",))}, set(rules))
        both = make(SMALL, "x", [["p1", "q1"]], [("p1", ("is", 0, 0)), ("q1", ("is", 0, 0))])
        self.same(rules_of(both), [("p1", ()), ("q1", ())])
        self.same(rules_of(make(SMALL, "x", [["p1", "q1"]])), [])

    def test_random_processes(self):
        rng, found = random.Random(191), []
        for _ in range(150):
            ports = makers.make_ports(rng, 4)
            try:
                found.append(self.checks(makers.make_process(rng, ports)))
            except NearError as error:
                self.assertGreater(error.count, 40)
            found.append(self.checks(makers.make_helper(rng, ports, "x")))
        self.assertGreater(max(found), 5)

    def test_forty_states_and_more(self):
        forty = make(WIDE, "x", [FIFTEEN, OTHERS, ["q2", "s1", "s1", "s2"]], [("q2", ("is", 0, 0))])
        try:
            self.checks(forty)
        except NearError as error:
            self.assertEqual(error.count, len(Book(forty).states()))
        self.counts(41, rules_of, GREAT)
        self.assertEqual(self.checks(make(WIDE, "x", [FIFTEEN, OTHERS, ["q2", "s1", "s1", "s2"]])), 0)

    def test_new_lists(self):
        process = make(SMALL, "x", [["p1", "q1"]], [("p1", ("above", ("due", "q1"), 0))])
        self.new_lists(lambda: rules_of(process))


class KeptUpTest(JudgedCase):
    def test_words(self):
        rules = [("p1", ("q1",)), ("r2", ("p2", "q1"))]
        self.same([kept_up(PQR, rules, []), kept_up(PQR, rules, ["q2"])], [(), ("p1", "q2", "r2")])
        self.same(kept_up(ports=PQR, rules=UP, facts=()), ("p1", "q2"))
        self.same(kept_up(PQR, [("r1", ())], []), ("r1",))
        self.same([kept_up(PQR, [], []), kept_up(PQR, [], ["r2", "p1"])], [(), ("p1", "r2")])
        # Of a port of three sides, either of the others will do.
        for facts in [["p2"], ["p3"], ["p3", "p2"]]:
            self.same(kept_up(THREE, [("q1", ("p1",))], facts), tuple(sorted(facts + ["q1"])))
        self.same(kept_up(THREE, [("p2", ("p1",)), ("p3", ("p1",))], []), ("p2", "p3"))

    def test_by_trying(self):
        rng, found = random.Random(1911), set()
        for ports in [PQR, THREE, SMALL, Ports([("p", 3)]), Ports([("p", 3), ("q", 3)])]:
            for _ in range(60):
                rules = make_rules(rng, ports, 8)
                facts = rng.sample(ports.sides(), rng.randint(0, min(3, len(ports.sides()))))
                wanted = judges_waits.kept_up(ports, rules, facts)
                before = repr([rules, facts])
                self.same(kept_up(ports, rules, facts), wanted)
                self.same(kept_up(ports, tuple(rules[::-1] + rules), tuple(facts[::-1])), wanted)
                self.assertEqual(repr([rules, facts]), before)
                found.add(len(wanted) - len(facts))
        self.assertLessEqual({0, 1, 2, 3, 4}, found)

    def test_wrong_facts(self):
        wrong = [value for value in any_values() if value not in ([], ())]
        wrong = [value for value in wrong if repr(value) not in ("['p1']", "('p1',)")]
        for value in wrong + [["p1", "p1"], ["p3"], [["p1"]], ("p1", None), {"p1": 1}, "p1"]:
            self.refuses(InvalidFacts, value, kept_up, PQR, UP, value)
            self.refuses(InvalidFacts, value, kept_up, ports=PQR, rules=[], facts=value)
        self.same(kept_up(PQR, UP, ["p1"]), ("p1", "q2"))


class RanksTest(JudgedCase):
    def test_words(self):
        self.same(rule_ranks(PQR, [("p1", ("q1",)), ("q2", ("r1",)), ("r2", ())]),
                  [("p1", None), ("p2", 0), ("q1", 0), ("q2", None), ("r1", 0), ("r2", None)])
        self.same(rule_ranks(ports=PQR, rules=(("p1", ("q1",)), ("q2", ("r1",)))),
                  [("p1", 2), ("p2", 0), ("q1", 0), ("q2", 1), ("r1", 0), ("r2", 0)])
        self.same(rule_ranks(PQR, []), [(side, 0) for side in PQR.sides()])

    def test_random_rules(self):
        rng, found = random.Random(1912), set()
        for ports in [PQR, THREE, ELEVEN, TWELVE, Ports([("p", 3), ("q", 3)])]:
            for _ in range(60):
                rules = make_rules(rng, ports, rng.choice([4, 12, 60]))
                wanted = judges_waits.rule_ranks(ports, rules)
                self.same(rule_ranks(ports, rules), wanted)
                self.assertEqual({side for side, rank in wanted if rank is None}, set(kept_up(ports, rules, [])))
                found |= {rank for _, rank in wanted}
        self.assertLessEqual({None, 0, 1, 2, 3}, found)

    def test_ranks_of_libraries_whose_sides_are_all_plain(self):
        rng, found = random.Random(1913), set()
        libraries = [ROW, SIXTY, FULL]
        for _ in range(150):
            libraries.append(makers.make_library(rng) if rng.random() < 0.3 else makers.make_ranked_library(rng, 3))
        for library in libraries:
            rules = sorted({rule for process in processes_of(library) for rule in rules_of(process)})
            if judges_waits.all_plain(library) and len(rules) <= 60:
                self.same(rule_ranks(library.ports, rules), ranks(library))
                found |= {rank for _, rank in ranks(library)}
        self.assertLessEqual({None, 0, 1, 2, 7}, found)

    def test_new_lists(self):
        self.new_lists(lambda: rule_ranks(PQR, UP))


class WrongRulesTest(JudgedCase):
    def calls(self):
        return [
            lambda rules: kept_up(PQR, rules, None), lambda rules: rule_ranks(PQR, rules), lambda rules: may_stand(PQR, rules, None),
            lambda rules: tower(PQR, rules, None), lambda rules: is_tower(PQR, rules, None, None),
            lambda rules: may_stand(ports=PQR, rules=[], instead=rules), lambda rules: tower(PQR, LATE, rules),
            lambda rules: is_tower(PQR, LATE, rules, None),
        ]

    def test_wrong(self):
        right = [("p1", ("q1", "r1")), ("r2", ())]
        wrong = any_values() + judges.one_place_changed(right) + [[("p1", ("p1",))], [("p1", ("q1", "q1"))], [("p1", ("r1", "q1"))]]
        wrong += [[("p1", ["q1"])], [["p1", ("q1",)]], [("p1", ("p2", "q1", "q2", "r1"))], [("s1", ())], [("p1", ("q1",), ())], [("p1", "q1")]]
        no = 0
        for value in wrong:
            if not judges_waits.is_rules(PQR, value):
                no += 1
                for call in self.calls():
                    self.refuses(InvalidRules, value, call, value)
        self.assertGreater(no, 80)

    def test_the_first_ones_come_first(self):
        first, second = [("p1", None)], [("p2", None)]
        for call in [may_stand, tower, lambda *args: is_tower(*args, None)]:
            self.refuses(InvalidRules, first, call, PQR, first, second)
            self.refuses(InvalidRules, second, call, PQR, LATE, second)
            self.refuses(InvalidRules, first, call, PQR, first, UP)

    def test_sixty_and_more(self):
        sixty = [("p1", ("q1",))] * 59 + [("q2", ("r1",))]
        self.same([kept_up(PQR, sixty, []), may_stand(PQR, sixty, sixty), is_tower(PQR, sixty, sixty, None)], [(), True, False])
        more = sixty + [("p1", ())]
        for call in self.calls():
            self.refuses(InvalidRules, more, call, more)


class MayStandTest(JudgedCase):
    def checks(self, ports, rules, instead, trying=True):
        """May stand, or a tower, as the points tell; return which, or "kept"."""
        before = repr([rules, instead])
        kept = kept_up(ports, instead, [])
        if kept:
            for call in [may_stand, tower, lambda *args: is_tower(*args, None)]:
                with self.assertRaises(KeptUp) as caught:
                    call(ports, rules, instead)
                self.same([type(caught.exception), caught.exception.kept], [KeptUp, kept])
            return "kept"
        found = may_stand(ports=ports, rules=rules, instead=instead)
        if trying:
            self.assertIs(found, judges_waits.may_stand(ports, rules, instead))
        if found:
            with self.assertRaises(MayStand) as caught:
                tower(ports, rules, instead)
            self.assertEqual([type(caught.exception), vars(caught.exception)], [MayStand, {}])
        else:
            told = tower(ports=ports, rules=rules, instead=instead)
            self.assertEqual([type(told), len(told), type(told[0]), type(told[1])], [tuple, 3, Ports, list])
            self.assertTrue(judges_waits.is_tower(ports, rules, instead, told))
            self.assertIs(is_tower(ports=ports, rules=rules, instead=instead, value=told), True)
        self.assertEqual(repr([rules, instead]), before)
        return found

    def test_words(self):
        for rules, instead, wanted in [(SOON, LATE, True), (LATE, SOON, False), ([], LATE, True), ([], [], True), (LATE, LATE, True), (LATE, [], False)]:
            self.assertIs(self.checks(PQR, rules, instead), wanted)
        self.assertEqual(self.checks(PQR, SOON, UP), "kept")
        self.assertEqual(self.checks(PQR, [], [("p1", ())]), "kept")
        # A rule without opens holds its side up for ever.
        self.assertIs(self.checks(PQR, [("p1", ())], LATE), False)

    def test_a_side_that_was_chosen_itself_needs_a_rule_all_the_same(self):
        # The other side of p2 is p1 itself.
        self.assertIs(self.checks(PQR, [("p1", ("p2",))], []), False)
        self.assertIs(self.checks(PQR, [("p1", ("p2",))], [("p1", ("q1",))]), False)
        self.assertEqual(self.checks(PQR, [], [("p1", ("p2",))]), "kept")
        self.assertIs(self.checks(PQR, [("p1", ("p2",))], [("p1", ("q1",)), ("q2", ("p2",))][:1]), False)
        # Of three sides, those of p3 are p1 itself and p2.
        self.assertIs(self.checks(THREE, [("p1", ("p3",))], [("p1", ("p2", "q1"))]), False)
        self.assertEqual(self.checks(THREE, [("p3", ("p2",))], [("p3", ("p2",))]), "kept")

    def test_others_that_hold_it_up_by_a_way_round(self):
        instead = [("q2", ("r1",)), ("p1", ("q1",))]
        self.assertIs(self.checks(PQR, [("p1", ("r1",))], instead), True)
        self.assertIs(self.checks(PQR, [("p1", ("r2",))], instead), False)
        self.assertIs(self.checks(PQR, [("q2", ("r1",)), ("p1", ("q1", "r1"))], instead), True)

    def test_each_choice_counts(self):
        # Of p1, either of p2 and p3 may be chosen.
        self.assertIs(self.checks(THREE, [("q1", ("p1",))], [("q1", ("p1",))]), True)
        self.assertIs(self.checks(THREE, [("q1", ("p1",))], [("q1", ("p2",))]), False)
        self.assertIs(self.checks(THREE, [("q1", ("p1", "p2"))], [("q1", ("p1",))]), True)
        self.assertIs(self.checks(THREE, [("q1", ("p1",))], [("q1", ("p1", "p2"))]), False)
        self.assertIs(self.checks(THREE, [("q1", ("p1", "p2"))], [("q1", ("p3",))]), False)

    def test_equal_rules_and_their_order(self):
        for rules, instead in [(SOON, LATE), (LATE, SOON)]:
            found = may_stand(PQR, rules, instead)
            self.assertIs(may_stand(PQR, rules * 3, instead * 2), found)
            self.assertIs(self.checks(PQR, tuple(rules * 3), tuple(instead * 2)), found)

    def test_random_rules(self):
        rng, found = random.Random(192), []
        for ports in [PQR, THREE, SMALL, Ports([("p", 3)]), Ports([("p", 3), ("q", 3)])]:
            for _ in range(80):
                instead = make_falling(rng, ports, 7) if rng.random() < 0.8 else make_rules(rng, ports, 4)
                rules = make_rules(rng, ports, 2)
                if rng.random() < 0.6 and instead:
                    rules = [self.weaker(rng, ports, rng.choice(instead)) for _ in range(2)]
                found.append(self.checks(ports, rules, instead))
        for kind in [True, False, "kept"]:
            self.assertGreater(found.count(kind), 25)

    def weaker(self, rng, ports, rule):
        """A rule with perhaps one more open."""
        side, opens = rule
        rest = [other for other in ports.sides() if other != side and other not in opens]
        return (side, tuple(sorted(opens + tuple(rng.sample(rest, min(len(rest), rng.randint(0, 1)))))[:3]))

    def test_many_ports_and_rules(self):
        rng, found = random.Random(1921), []
        for _ in range(60):
            ports = rng.choice([ELEVEN, Ports([(name, 2) for name in "abcdefghijk"])])
            instead = make_falling(rng, ports, rng.choice([10, 30, 60]))
            found.append(self.checks(ports, make_rules(rng, ports, 3) if rng.random() < 0.7 else instead[:5], instead, False))
        self.assertGreater(min(found.count(True), found.count(False)), 10)
        # Twelve kinds are enough ports for all but a tower.
        instead = [("a1", ("b1",)), ("b2", ("c1", "d1")), ("b3", ("l1",))]
        self.same([may_stand(TWELVE, instead[:1], instead), may_stand(TWELVE, [("a1", ("c1",))], instead)], [True, False])
        self.assertIs(is_tower(TWELVE, instead[:1], instead, (TWELVE, [], "a1")), False)

    def test_no_further_rules_lift_what_may_stand(self):
        rng, tried = random.Random(1922), 0
        while tried < 60:
            ports = rng.choice([PQR, THREE, Ports([("p", 3), ("q", 3)])])
            instead = make_falling(rng, ports, 7)
            rules = [self.weaker(rng, ports, rng.choice(instead)) for _ in range(2)] if instead else []
            if not rules or not may_stand(ports, rules, instead):
                continue
            tried += 1
            wide = Ports(list(ports.kinds) + [("z", 2), ("y", 3)])
            for _ in range(25):
                further = make_rules(rng, wide, 9) + (instead if rng.random() < 0.5 else [])
                low, high = judges_waits.rule_ranks(wide, instead + further), judges_waits.rule_ranks(wide, rules + further)
                for (side, first), (_, second) in zip(low, high):
                    self.assertTrue(first is None or second is not None and second <= first)
                    self.assertIs(is_tower(ports, rules, instead, (wide, further, side)), False)

    def test_processes_that_may_stand_for_others_in_libraries(self):
        rng, found = random.Random(1923), 0
        while found < 40:
            ports = makers.make_ports(rng, 2)
            plain = makers.plain_processes(ports)
            side, one, two = rng.sample(ports.sides() + ports.sides(), 3)
            if side in (one, two):
                continue
            dues = [("above", ("due", end), 0) for end in (one, two)]
            first = make(ports, "x", [[side, one, two]], [(side, ("both", *dues))])
            second = make(ports, "x", [[side, rng.choice([one, one, two])]], [(side, dues[0])])
            rules, instead = rules_of(first), rules_of(second)
            if kept_up(ports, instead, []) or not rules or not may_stand(ports, rules, instead):
                continue
            rest = [makers.make_helper(rng, ports, "y")]
            try:
                with_first, with_second = [Library(ports, plain + [one] + rest) for one in (first, second)]
            except NearError:
                continue
            found += 1
            for (_, rank), (_, other) in zip(ranks(with_first), ranks(with_second)):
                self.assertTrue(other is None or rank is not None and rank <= other)


class TowerTest(JudgedCase):
    def judged_tower(self, ports, rules, instead, value, least=20):
        call = lambda other: is_tower(ports, rules, instead, other)
        self.judged(call, lambda other: judges_waits.is_tower(ports, rules, instead, other), value, least)

    def test_judged(self):
        wide = Ports([("p", 2), ("q", 2), ("r", 2), ("s", 2)])
        self.judged_tower(PQR, LATE, SOON, (wide, [("q2", ("s1",))], "p1"))
        self.judged_tower(PQR, LATE, SOON, tower(PQR, LATE, SOON))
        instead = [("q2", ("r1",)), ("p1", ("q1",))]
        self.judged_tower(PQR, [("p1", ("r2",))], instead, tower(PQR, [("p1", ("r2",))], instead))
        self.judged_tower(THREE, [("q1", ("p1",))], [("q1", ("p2",))], tower(THREE, [("q1", ("p1",))], [("q1", ("p2",))]))

    def test_wrong_towers(self):
        wide = Ports([("p", 2), ("q", 2), ("r", 2), ("s", 2)])
        right = (wide, [("q2", ("s1",))], "p1")
        self.assertIs(is_tower(PQR, LATE, SOON, right), True)
        for ports in [PQR, Ports([("q", 2), ("p", 2), ("r", 2), ("s", 2)]), Ports([("s", 2), ("p", 2), ("q", 2), ("r", 2)]), Ports([("p", 2), ("q", 2), ("r", 3), ("s", 2)]), Ports([("p", 2), ("q", 2), ("s", 2)]), wide.kinds, None]:
            self.assertIs(is_tower(PQR, LATE, SOON, (ports,) + right[1:]), False)
        for ports in [Ports(list(wide.kinds) + [("t", 3)]), Ports(list(PQR.kinds) + [("s", 3)])]:
            self.assertIs(is_tower(PQR, LATE, SOON, (ports,) + right[1:]), True)
        # Without one more port, what would be right is no tower.
        for ports in [PQR, wide]:
            self.assertIs(is_tower(PQR, LATE, SOON, (ports, [("q2", ("p1",))], "p1")), ports == wide)
        for further in [[("q2", ())], [("q2", ("s2",)), ("s1", ())], [], [("q2", ("t1",))], [("q2", ("s1",)), ("r2", ("s1",))], [("q1", ("s1",))]]:
            self.assertIs(is_tower(PQR, LATE, SOON, (wide, further, "p1")), False)
        for side in ["q2", "s1", "p2", "P1", "p", None, 1, ("p1",), ["p1"]]:
            self.assertIs(is_tower(PQR, LATE, SOON, right[:2] + (side,)), False)
        self.assertIs(is_tower(PQR, LATE, SOON, list(right)), False)
        self.assertIs(is_tower(PQR, SOON, LATE, right), False)

    def test_two_hundred_further_rules_and_more(self):
        wide = Ports([("p", 2), ("q", 2), ("r", 2), ("s", 2)])
        for many, wanted in [(199, True), (200, True), (201, False), (2000, False)]:
            self.assertIs(is_tower(PQR, LATE, SOON, (wide, [("q2", ("s1",))] * many, "p1")), wanted)
        # The rules that may not be passed as rules, as they are too many, may be further ones.
        instead = SOON + [("r1", ("q2",))] * 59
        told = tower(PQR, LATE, instead)
        self.assertLessEqual(len(told[1]), 200)
        self.assertIs(judges_waits.is_tower(PQR, LATE, instead, told), True)

    def test_towers_that_need_to_stand_long(self):
        # Each side falls only when the one ahead has fallen: the chosen side must stay for all that time.
        names = "abcdefghij"
        ports = Ports([(name, 2) for name in names])
        chain = [(first + "1", (second + "2",)) for first, second in zip(names, names[1:])]
        rules = [("a2", ("j1",))]
        self.assertEqual(max(rank for _, rank in rule_ranks(ports, chain)), 9)
        instead = chain + [("a2", ("i1", "j1"))]
        self.assertIs(may_stand(ports, rules, instead), False)
        told = tower(ports, rules, instead)
        self.assertIs(judges_waits.is_tower(ports, rules, instead, told), True)
        for rule in [("a2", ("e2",)), ("e2", ("j1",)), ("j1", ("a2",)), ("c1", ("h1",)), ("c1", ("a1",))]:
            if not may_stand(ports, [rule], chain):
                self.assertIs(judges_waits.is_tower(ports, [rule], chain, tower(ports, [rule], chain)), True)

    def test_names_that_are_taken(self):
        for kinds in [[("a", 2), ("b", 2)], [(name, 2) for name in "abcdefghijk"], [("b", 2), ("a", 3), ("aa", 2)]]:
            ports = Ports(kinds)
            told = tower(ports, [("a1", ("b1",))], [])
            self.assertIs(judges_waits.is_tower(ports, [("a1", ("b1",))], [], told), True)

    def test_equal_answers_and_new_lists(self):
        for rules, instead in [(LATE, SOON), ([("p1", ())], LATE)]:
            wide, further, side = tower(PQR, rules, instead)
            other = tower(Ports(list(PQR.kinds)), tuple(rules), tuple(instead))
            self.assertTrue(wide == other[0])
            self.same(other[1:], (further, side))
            wanted = repr(further)
            further.append(None)
            other[1].clear()
            self.assertEqual(repr(tower(PQR, rules, instead)[1]), wanted)

    def test_any_value(self):
        for value in any_values():
            self.assertIs(is_tower(PQR, LATE, SOON, value), False)
            self.assertIs(is_tower(PQR, LATE, SOON, (value, value, value)), False)


if __name__ == "__main__":
    unittest.main()
