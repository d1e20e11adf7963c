import random
import unittest

import samples
from cellguard.counting import cells_of, counts_of, totals_of
from cellguard.dossiers import check_dossier, dossier, dossier_text, read_dossier
from cellguard.errors import InvalidPublication, InvalidText
from cellguard.linking import arc_of, network_of
from cellguard.publication import Publication, publish
from cellguard.ranges import cell_range, range_papers

SQUARE = [("hill", 0), ("hill", 1), ("dale", 0), ("dale", 1)]

ENTRIES = [
    ("people", ("hill", 3), (-1, 0, None)),
    ("people", ("hill", 3), (1, 6, [0, 5, 12])),
    ("jobs", ("land", 0), (1, 9999999, [])),
    ("jobs", ("dale", 1), (-1, 10, [7, 7, 3])),
]
TEXT = (
    "people hill 3 least 0 own\n"
    "people hill 3 most 6 nodes 0 5 12\n"
    "jobs land 0 most 9999999 nodes\n"
    "jobs dale 1 least 10 nodes 7 7 3\n"
)


def land_publication():
    census = samples.land_census()
    return publish(census, {"jobs": SQUARE, "people": cells_of(census.plan, "people")[::2]})


class DossierTest(unittest.TestCase):
    def test_order_and_papers(self):
        publication = land_publication()
        found = dossier(publication)
        self.assertIs(type(found), list)
        self.assertEqual(found, [(table, cell, paper) for table in ("people", "jobs") for cell in publication.hidden(table)
                                 for paper in range_papers(publication, table, cell)])
        self.assertEqual(len(found), 2 * (len(publication.hidden("people")) + 4))
        for table, cell, paper in found:
            arc = arc_of(publication.plan, table, cell)
            self.assertTrue(samples.is_right(network_of(publication, table), arc, paper))
            self.assertEqual(paper[1], cell_range(publication, table, cell)[0 if paper[0] == -1 else 1])
        self.assertIs(check_dossier(publication, found), True)

    def test_nothing_is_hidden(self):
        census = samples.land_census()
        for patterns in ({}, {"jobs": []}, {"people": [], "jobs": []}):
            publication = publish(census, patterns)
            self.assertEqual(dossier(publication), [])
            self.assertIs(check_dossier(publication, []), True)

    def test_not_possible(self):
        census = samples.land_census()
        totals = totals_of(census)
        jobs = counts_of(census, "jobs")
        for broken in (Publication(census.plan, {**totals, "land": 14}, {}),
                       Publication(census.plan, {**totals, "hill": 7}, {"jobs": dict.fromkeys(jobs)}),
                       Publication(census.plan, totals, {"jobs": {**jobs, ("hill", 0): 7}})):
            with self.assertRaises(InvalidPublication):
                dossier(broken)

    def test_random_publications(self):
        generator = random.Random(221)
        plan = samples.pair_plan()
        censuses = list(samples.all_censuses(plan, {"x": 2, "y": 2, "z": 1}))
        for _ in range(15):
            publication = publish(generator.choice(censuses),
                                  {table: [cell for cell in cells_of(plan, table) if generator.random() < 0.8]
                                   for table in generator.choice((["first"], ["first", "second"]))})
            entries = dossier(publication)
            self.assertIs(check_dossier(publication, entries), True)
            self.assertEqual(read_dossier(dossier_text(entries), plan), entries)

    def test_results_are_new(self):
        publication = land_publication()
        first = dossier(publication)
        for _, _, paper in first:
            if paper[2] is not None:
                paper[2].append(-1)
        first.clear()
        self.assertIs(check_dossier(publication, dossier(publication)), True)


class DossierTextTest(unittest.TestCase):
    def test_word_by_word(self):
        self.assertEqual(dossier_text(ENTRIES), TEXT)
        self.assertEqual(dossier_text([]), "")
        self.assertEqual(dossier_text(ENTRIES[:1]), "people hill 3 least 0 own\n")

    def test_reading(self):
        plan = samples.land_plan()
        found = read_dossier(TEXT, plan)
        self.assertEqual(found, ENTRIES)
        self.assertIs(type(found), list)
        for entry in found:
            self.assertEqual([type(part) for part in entry], [str, tuple, tuple])
        self.assertEqual([type(entry[2][2]) for entry in found], [type(None), list, list, list])
        self.assertEqual(read_dossier("", plan), [])

    def test_the_last_newline(self):
        plan = samples.land_plan()
        self.assertEqual(read_dossier(TEXT[:-1], plan), ENTRIES)
        self.assertEqual(read_dossier("jobs land 0 most 3 nodes", plan), [("jobs", ("land", 0), (1, 3, []))])

    def test_of_a_dossier(self):
        publication = land_publication()
        entries = dossier(publication)
        self.assertEqual(read_dossier(dossier_text(entries), publication.plan), entries)

    def test_faulty_lines(self):
        plan = samples.land_plan()
        good = "jobs dale 1 least 10 nodes 7 3"
        faulty = ["", " ", "#", "# remark", " " + good, good + " ", good.replace(" ", "  ", 1), good.replace(" nodes", "  nodes"),
                  "zoo dale 1 least 10 own", "age dale 1 least 10 own", "Jobs dale 1 least 10 own",
                  "jobs moon 1 least 10 own", "jobs 1 dale least 10 own", "jobs dale 2 least 10 own", "people dale 4 least 10 own",
                  "jobs dale x least 10 own", "jobs dale 01 least 10 own", "jobs dale +1 least 10 own", "jobs dale -1 least 10 own",
                  "jobs dale 00000001 least 10 own", "jobs dale 1 lowest 10 own", "jobs dale 1 -1 10 own", "jobs dale 1 Most 10 own",
                  "jobs dale 1 least 12345678 own", "jobs dale 1 least 010 own", "jobs dale 1 least +10 own", "jobs dale 1 least -1 own",
                  "jobs dale 1 least x own", "jobs dale 1 least 1_0 own", "jobs dale 1 least 10", "jobs dale 1 least", "jobs dale 1",
                  "jobs", "jobs dale 1 least 10 own 3", "jobs dale 1 least 10 own own", "jobs dale 1 least 10 node 3",
                  "jobs dale 1 least 10 7 3", "jobs dale 1 least 10 nodes 12345678", "jobs dale 1 least 10 nodes 03",
                  "jobs dale 1 least 10 nodes -3", "jobs dale 1 least 10 nodes +3", "jobs dale 1 least 10 nodes 3,4",
                  "jobs dale 1 least 10 nodes 3  4", "jobs dale 1 least 10 nodes x", "jobs dale 1 least 10 nodes own",
                  "jobs dale 1 least 10 nodes ", "jobs\tdale 1 least 10 own", "jobs dale 1 least 10 own\r"]
        for line in faulty:
            for before, number in (("", 1), (good + "\n", 2), (TEXT, 5)):
                for behind in ("\n", "\n" + good + "\n", "\nx\n"):
                    with self.assertRaises(InvalidText, msg=line) as caught:
                        read_dossier(before + line + behind, plan)
                    self.assertEqual(caught.exception.line, number)
        with self.assertRaises(InvalidText) as caught:
            read_dossier("\n", plan)
        self.assertEqual(caught.exception.line, 1)
        with self.assertRaises(InvalidText) as caught:
            read_dossier(TEXT + "\n", plan)
        self.assertEqual(caught.exception.line, 5)

    def test_numbers_of_seven_digits(self):
        plan = samples.land_plan()
        self.assertEqual(read_dossier("jobs dale 0 most 1234567 nodes 0 7654321\n", plan),
                         [("jobs", ("dale", 0), (1, 1234567, [0, 7654321]))])


class CheckDossierTest(unittest.TestCase):
    def test_bounds(self):
        publication = land_publication()
        entries = dossier(publication)
        for at, (table, cell, (way, bound, members)) in enumerate(entries):
            for looser, right in ((1, True), (-1, False)):
                changed = entries[:at] + [(table, cell, (way, bound + looser * way, members))] + entries[at + 1:]
                self.assertIs(check_dossier(publication, changed), right)

    def test_left_out_twice_and_in_another_order(self):
        publication = land_publication()
        entries = dossier(publication)
        for at in range(len(entries)):
            self.assertIs(check_dossier(publication, entries[:at] + entries[at + 1:]), False)
            self.assertIs(check_dossier(publication, entries + [entries[at]]), True)
            # One way twice does not stand for the other one.
            self.assertIs(check_dossier(publication, entries[:at] + entries[at + 1:] + [entries[at ^ 1]]), False)
        self.assertIs(check_dossier(publication, entries[::-1]), True)
        shuffled = list(entries)
        random.Random(222).shuffle(shuffled)
        self.assertIs(check_dossier(publication, shuffled), True)
        self.assertIs(check_dossier(publication, []), False)
        self.assertEqual(len(entries), len(dossier(publication)))

    def test_papers_for_shown_cells(self):
        publication = land_publication()
        entries = dossier(publication)
        self.assertIs(check_dossier(publication, entries + [("jobs", ("south", 1), (1, 4, None))]), True)
        self.assertIs(check_dossier(publication, entries + [("jobs", ("south", 1), (1, 3, None))]), False)
        self.assertIs(check_dossier(publish(samples.land_census(), {"jobs": []}), [("jobs", ("south", 1), (1, 4, None))]), True)

    def test_tables_and_cells_that_are_not_there(self):
        census = samples.land_census()
        publication = publish(census, {"jobs": SQUARE})
        entries = dossier(publication)
        self.assertIs(check_dossier(publication, entries), True)
        for table, cell in (("people", ("hill", 0)), ("zoo", ("hill", 0)), ("jobs", ("moon", 0)), ("jobs", ("hill", 2)),
                            ("jobs", ("hill", -1)), ("jobs", ("hill", True))):
            self.assertIs(check_dossier(publication, entries + [(table, cell, (1, 9999999, None))]), False)
        for nothing in (publish(census, {}), publish(census, {"people": []})):
            self.assertIs(check_dossier(nothing, entries), False)

    def test_papers_of_another_form(self):
        publication = publish(samples.land_census(), {"jobs": SQUARE})
        entries = dossier(publication)
        for entry in ((), ("jobs", ("hill", 0)), ("jobs", ("hill", 0), (1, 99, None), 1), None, ["jobs", ("hill", 0), (1, 99, None)]):
            self.assertIs(check_dossier(publication, entries + [entry]), False)
        for paper in (None, (1, 99), (1, 99, (1,)), (0, 99, None), (1, "99", None), (1, 99, [99]), (1, 99, [3, 3]), [1, 99, None]):
            self.assertIs(check_dossier(publication, entries + [("jobs", ("hill", 0), paper)]), False)

    def test_a_publication_that_is_not_possible(self):
        census = samples.land_census()
        jobs = counts_of(census, "jobs")
        broken = Publication(census.plan, {**totals_of(census), "land": 14}, {"jobs": {**jobs, ("land", 0): None}})
        self.assertIs(check_dossier(broken, [("jobs", ("land", 0), (1, 14, None)), ("jobs", ("land", 0), (-1, 0, None))]), True)
        self.assertIs(check_dossier(broken, [("jobs", ("land", 0), (1, 14, None))]), False)
