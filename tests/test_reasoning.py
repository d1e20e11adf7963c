import random
import unittest

import samples
from cellguard.counting import cells_of, counts_of, totals_of
from cellguard.errors import InvalidFlow, InvalidPublication, UnknownName
from cellguard.linking import network_of
from cellguard.network import Network
from cellguard.publication import Publication, publish
from cellguard.ranges import cell_range
from cellguard.reasoning import check_steps, first_limits, made_step, reason, useful_steps

SQUARE = [("hill", 0), ("hill", 1), ("dale", 0), ("dale", 1)]


def tried_value(network, limits, step):
    """The value of point 64, straight from the arcs."""
    node, number, way = step
    arcs = network.arcs()
    greatest = 1 if way == 1 else 0
    ends = arcs[number][1] == node
    value = 0
    for other, (tail, head, _, _) in enumerate(arcs):
        if other == number:
            continue
        if (tail if ends else head) == node:
            value += limits[other][greatest]
        if (head if ends else tail) == node:
            value -= limits[other][1 - greatest]
    return value


def tried_step(network, limits, step):
    """The limits after a step, and whether it is useful."""
    value = tried_value(network, limits, step)
    least, greatest = limits[step[1]]
    useful = value < greatest if step[2] == 1 else value > least
    made = list(limits)
    if useful:
        made[step[1]] = (least, value) if step[2] == 1 else (value, greatest)
    return made, useful


def all_steps(network):
    return [(node, number, way) for node in range(network.nodes) for number, arc in enumerate(network.arcs())
            if node in arc[:2] for way in (-1, 1)]


def random_publications(seed, many):
    generator = random.Random(seed)
    for _ in range(many):
        plan = generator.choice((samples.triple_plan(), samples.flat_plan(3, 2), samples.flat_plan(2, 3)))
        census = samples.random_census(plan, generator, (0, 1, 2, 5))
        pattern = [cell for cell in cells_of(plan, "t") if generator.random() < generator.choice((0.4, 0.7, 0.9))]
        yield census, publish(census, {"t": pattern}), generator


class StepsTest(unittest.TestCase):
    def test_first_limits(self):
        publication = publish(samples.land_census(), {"jobs": SQUARE})
        found = first_limits(publication, "jobs")
        self.assertIs(type(found), list)
        self.assertEqual(found, [(9, 9), (6, 6), (9, 9), (2, 2), (0, 0), (4, 4), (0, 6), (0, 6), (0, 5), (0, 5), (4, 4), (6, 6), (5, 5)])
        self.assertTrue(all(type(limit) is tuple for limit in found))

    def test_made_step_by_hand(self):
        publication = publish(samples.land_census(), {"jobs": SQUARE})
        network = network_of(publication, "jobs")
        limits = first_limits(publication, "jobs")
        # The nodes: 0 south, 1 hill, 2 dale, 3 and 4 land, 5 and 6 north, 7 the end. Arc 6 leads from 1 to 5.
        for step, number, limit in (((5, 6, -1), 6, (4, 6)), ((5, 6, 1), 6, (0, 6)), ((1, 6, 1), 6, (0, 6)), ((1, 6, -1), 6, (0, 6)),
                                    ((6, 7, 1), 7, (0, 2)), ((6, 9, 1), 9, (0, 2)), ((6, 9, -1), 9, (0, 5)),
                                    ((5, 8, -1), 8, (3, 5)), ((2, 12, 1), 12, (5, 5)), ((7, 12, -1), 12, (5, 5)), ((5, 2, 1), 2, (9, 9))):
            found = made_step(network, limits, step)
            self.assertEqual(found[number], limit, step)
            self.assertEqual(found[:number] + found[number + 1:], limits[:number] + limits[number + 1:])
        # Two steps: at north there are 2 in the class 1 at most, so that the hill has at least 4 in the class 0.
        limits = made_step(network, made_step(network, limits, (6, 7, 1)), (1, 6, -1))
        self.assertEqual((limits[6], limits[7]), ((4, 6), (0, 2)))
        self.assertEqual(made_step(network, limits, (1, 7, 1)), limits)

    def test_beginning_and_ending_arcs(self):
        network = Network(4, [(0, 1, 2, 9), (0, 1, 1, 5), (1, 2, 3, 7), (1, 3, 0, 4), (2, 0, 0, 20), (3, 0, 0, 20)])
        limits = [arc[2:] for arc in network.arcs()]
        expected = {(1, 0, 1): (2, 9), (1, 0, -1): (2, 9), (1, 2, 1): (3, 7), (1, 2, -1): (3, 7), (0, 0, -1): (2, 9), (2, 4, 1): (0, 7),
                    (2, 4, -1): (3, 20), (3, 5, 1): (0, 4), (3, 5, -1): (0, 20), (0, 4, 1): (0, 14), (0, 4, -1): (0, 20)}
        for step, limit in expected.items():
            self.assertEqual(made_step(network, limits, step)[step[1]], limit, step)
        tight = [(2, 9), (1, 5), (3, 4), (0, 1), (0, 20), (0, 20)]
        self.assertEqual(made_step(network, tight, (1, 0, 1))[0], (2, 4))
        self.assertEqual(made_step(network, tight, (1, 1, 1))[1], (1, 3))
        self.assertEqual(made_step(network, [(6, 9), (1, 5), (3, 7), (0, 4), (0, 20), (0, 20)], (1, 3, -1))[3], (0, 4))
        self.assertEqual(made_step(network, [(6, 9), (3, 5), (3, 7), (0, 4), (0, 20), (0, 20)], (1, 3, -1))[3], (2, 4))
        self.assertEqual(made_step(network, [(6, 9), (3, 5), (3, 7), (0, 4), (0, 20), (0, 20)], (1, 2, -1))[2], (5, 7))
        self.assertEqual(limits, [arc[2:] for arc in network.arcs()])

    def test_all_steps_one_by_one(self):
        useful = useless = 0
        for census, publication, generator in random_publications(291, 25):
            network = network_of(publication, "t")
            limits = first_limits(publication, "t")
            for _ in range(4):
                steps = [step for step in all_steps(network) if tried_step(network, limits, step)[1]]
                found = useful_steps(network, limits)
                self.assertEqual(found, steps)
                self.assertIs(type(found), list)
                for step in generator.sample(all_steps(network), 10) + steps[:5]:
                    made, is_useful = tried_step(network, limits, step)
                    before = list(limits)
                    self.assertEqual(made_step(network, limits, step), made)
                    self.assertEqual(limits, before)
                    self.assertIsNot(made_step(network, limits, step), limits)
                    useful += is_useful
                    useless += not is_useful
                for step in steps[:generator.randrange(12)]:
                    limits = made_step(network, limits, step)
        self.assertGreater(useful, 100)
        self.assertGreater(useless, 100)

    def test_arcs_that_are_not_at_the_node(self):
        publication = publish(samples.land_census(), {"jobs": SQUARE})
        network = network_of(publication, "jobs")
        limits = first_limits(publication, "jobs")
        for node, number, arc in ((0, 6, (1, 5)), (2, 6, (1, 5)), (6, 6, (1, 5)), (7, 6, (1, 5)), (8, 6, None), (-1, 6, None), (1, 13, None), (7, -1, None)):
            for way in (1, -1):
                with self.assertRaises(InvalidFlow):
                    made_step(network, limits, (node, number, way))
        for node in (1, 5):
            made_step(network, limits, (node, 6, 1))

    def test_unknown_names(self):
        publication = publish(samples.land_census(), {"jobs": SQUARE})
        for table in ("people", "zoo"):
            for call in (lambda: first_limits(publication, table), lambda: reason(publication, table),
                         lambda: check_steps(publication, table, [], []), lambda: check_steps(publication, table, [None], None)):
                with self.assertRaises(UnknownName) as caught:
                    call()
                self.assertEqual(caught.exception.name, table)


class ReasonTest(unittest.TestCase):
    def final_limits(self, network, limits, generator):
        """The final limits, reached by useful steps in any order."""
        while True:
            steps = [step for step in all_steps(network) if tried_step(network, limits, step)[1]]
            if not steps:
                return limits
            for step in generator.sample(steps, min(3, len(steps))):
                limits = tried_step(network, limits, step)[0]

    def test_by_hand(self):
        publication = publish(samples.land_census(), {"jobs": SQUARE})
        limits, steps = reason(publication, "jobs")
        self.assertEqual(limits[6:10], [(4, 6), (0, 2), (3, 5), (0, 2)])
        self.assertIs(check_steps(publication, "jobs", steps, limits), True)
        self.assertEqual(reason(publish(samples.land_census(), {"jobs": []}), "jobs")[1], [])

    def test_against_any_order(self):
        made = wider = 0
        for census, publication, generator in random_publications(292, 60):
            found = reason(publication, "t")
            self.assertIs(type(found), tuple)
            limits, steps = found
            self.assertEqual((type(limits), type(steps)), (list, list))
            network = network_of(publication, "t")
            at = first_limits(publication, "t")
            for step in steps:
                self.assertIs(type(step), tuple)
                at, is_useful = tried_step(network, at, step)
                self.assertTrue(is_useful)
            self.assertEqual(at, limits)
            self.assertEqual(useful_steps(network, limits), [])
            self.assertEqual(self.final_limits(network, first_limits(publication, "t"), generator), limits)
            self.assertIs(check_steps(publication, "t", steps, limits), True)
            for (least, greatest), cell in zip(limits, cells_of(census.plan, "t")):
                low, high = cell_range(publication, "t", cell)
                self.assertTrue(least <= low and high <= greatest)
                wider += (least, greatest) != (low, high)
            made += len(steps)
        self.assertGreater(made, 500)
        # One balance at a time does not tell everything.
        self.assertGreater(wider, 0)

    def test_errors_in_their_order(self):
        census = samples.land_census()
        totals = totals_of(census)
        jobs = counts_of(census, "jobs")
        for broken in (Publication(census.plan, {**totals, "land": 14}, {"jobs": dict.fromkeys(jobs)}),
                       Publication(census.plan, totals, {"jobs": {**jobs, ("hill", 0): 7, ("hill", 1): None}}),
                       Publication(census.plan, totals, {"jobs": jobs, "people": {**counts_of(census, "people"), ("dale", 0): 1}})):
            with self.assertRaises(InvalidPublication):
                reason(broken, "jobs")
            with self.assertRaises(UnknownName):
                reason(broken, "zoo")
            # The others promise nothing about whether it is possible.
            self.assertIs(check_steps(broken, "jobs", [], first_limits(broken, "jobs")), True)

    def test_results_are_new(self):
        publication = publish(samples.land_census(), {"jobs": SQUARE})
        limits, steps = reason(publication, "jobs")
        copies = (list(limits), list(steps))
        limits.clear()
        steps.clear()
        first_limits(publication, "jobs").clear()
        useful_steps(network_of(publication, "jobs"), first_limits(publication, "jobs")).clear()
        self.assertEqual(reason(publication, "jobs"), copies)


class CheckStepsTest(unittest.TestCase):
    def setUp(self):
        self.publication = publish(samples.land_census(), {"jobs": SQUARE})
        self.limits, self.steps = reason(self.publication, "jobs")

    def check(self, steps, limits=None):
        return check_steps(self.publication, "jobs", steps, self.limits if limits is None else limits)

    def test_the_steps_themselves(self):
        copy = list(self.steps)
        self.assertIs(self.check(self.steps), True)
        self.assertEqual(self.steps, copy)
        first = first_limits(self.publication, "jobs")
        self.assertIs(self.check([], first), True)
        self.assertIs(self.check([]), False)
        self.assertIs(self.check(self.steps, first), False)
        # They need not lead to the final limits.
        network = network_of(self.publication, "jobs")
        self.assertIs(self.check(self.steps[:1], made_step(network, first, self.steps[0])), True)

    def test_left_out_repeated_and_put_in(self):
        network = network_of(self.publication, "jobs")
        for at, step in enumerate(self.steps):
            rest = self.steps[:at] + self.steps[at + 1:]
            limits = first_limits(self.publication, "jobs")
            useful = True
            for other in rest:
                limits, is_useful = tried_step(network, limits, other)
                useful = useful and is_useful
            self.assertIs(self.check(rest), useful and limits == self.limits)
            self.assertIs(self.check(self.steps[:at + 1] + self.steps[at:]), False)
            self.assertIs(self.check(self.steps + [step]), False)
            # A step that is not useful where it is put in.
            self.assertIs(self.check(self.steps[:at] + [(7, 12, 1)] + self.steps[at:]), False)
        self.assertIs(self.check(self.steps[:-1]), False)

    def test_tuples_that_are_no_steps(self):
        for step in ((), (1, 6), (1, 6, 1, 1), (1, 6, 0), (1, 6, 2), (0, 6, 1), (8, 6, 1), (-1, 6, 1), (1, 13, 1), (1, -7, 1), (1, "6", 1),
                     ("1", 6, 1), (1, 6, "1"), (None, None, None), (1, 6, None), (1, 6, True), (True, 6, 1)):
            for at in (0, 1, len(self.steps)):
                self.assertIs(self.check(self.steps[:at] + [step] + self.steps[at:]), False)

    def test_steps_that_only_look_right(self):
        # True is equal to 1, and a list has the parts of a tuple; but they are no steps.
        replaced = 0
        for at, (node, number, way) in enumerate(self.steps):
            others = [[node, number, way]]
            if node == 1:
                others.append((True, number, way))
            if way == 1:
                others.append((node, number, True))
            for other in others:
                self.assertIs(self.check(self.steps[:at] + [other] + self.steps[at + 1:]), False)
                replaced += 1
        self.assertGreater(replaced, len(self.steps) + 1)
        # The last arc is 12, and not -1.
        publication = publish(samples.land_census(), {"jobs": [("dale", 0), ("dale", 1)]})
        limits = first_limits(publication, "jobs")
        self.assertIs(check_steps(publication, "jobs", [(2, -1, 1)], limits), False)

    def test_other_limits(self):
        for at, (least, greatest) in enumerate(self.limits):
            for limit in ((least - 1, greatest), (least, greatest + 1), (least + 1, greatest), (least, greatest - 1)):
                self.assertIs(self.check(self.steps, self.limits[:at] + [limit] + self.limits[at + 1:]), False)
        self.assertIs(self.check(self.steps, self.limits[:-1]), False)
        self.assertIs(self.check(self.steps, self.limits + [(0, 0)]), False)
        self.assertIs(self.check(self.steps, []), False)
