"""What the interface lists stands in the file under which it is listed, with the arguments listed."""

import ast
import importlib
import inspect
import unittest
from pathlib import Path

PACKAGE = Path(__file__).resolve().parent.parent / "countfold"

INTERFACE = {
    "errors": ["FoldError", "NoTalk", "NoText", "NoWorld", "NoPapers", "NoMark", "TooMany(many)", "NotBase(paper)",
               "NoSaying(saying)", "NoSum(total)", "NoExchange(exchange)", "NoLine(line)", "LackError", "NoName(name)",
               "NoRegion(region)", "NoNumber(number)"],
    "names": ["MOST", "MANY", "is_whole(thing, *, least=None, most=None)", "is_name(thing)"],
    "talks": ["Talk(sets=(), numbers=(), *, most=12)"],
    "terms": ["is_term(talk, thing)", "regions_of(talk, term)", "term_for(talk, regions)",
              "are_alike(talk, term, other)"],
    "rows": ["row_worth(row, values)", "added(rows, weights, *, width)", "divisor_of(row)"],
    "sums": ["is_sum(talk, thing)", "row_of(talk, addends)", "sum_for(talk, row)", "worth_of(talk, world, addends)"],
    "worlds": ["is_world(talk, thing)", "worlds_many(talk)", "world_at(talk, number)", "number_of(talk, world)",
               "members_of(talk, world)", "counted(talk, members, *, many, values=())"],
    "sayings": ["is_saying(talk, thing)", "names_in(saying)"],
    "truth": ["is_true(talk, world, saying)", "is_true_of(talk, members, saying, *, many, values=())"],
    "texts": ["term_text(term)", "sum_text(addends)", "saying_text(saying)", "world_text(world)",
              "book_text(talk, sayings)"],
    "reading": ["DEEP", "read_term(text, *, deep=40)", "read_sum(text, *, deep=40)", "read_saying(text, *, deep=40)",
                "read_talk(text)", "read_world(text)", "read_book(text, *, deep=40)"],
    "cases": ["cases_many(sayings, *, turned=False)", "cases_of(talk, sayings, *, most=32)",
              "holds_in(talk, world, piece)", "case_at(talk, sayings, world, *, most=32)"],
    "systems": ["least_worth(talk, row)", "greatest_worth(talk, row)", "width_of(talk, case)",
                "system_of(talk, case)", "values_of(talk, world, case)"],
    "wholes": ["settled(rows, *, width)", "shows_rest(rows, thing, *, width)", "spread(paper, times)",
               "times_of(paper, values)"],
    "fractions": ["fitted(system, *, width)", "is_point(system, thing, *, width)",
                  "is_clash(system, thing, *, width)"],
    "papers": ["shows_no(system, thing, *, width)", "paths_of(system, paper)"],
    "fits": ["fits(system, values)", "whole_fit(system, *, width)"],
    "trims": ["rows_used(system, paper)", "trimmed(system, paper, *, width)", "is_trim(system, paper)"],
    "prover": ["asked(talk, sayings)", "shows_none(talk, sayings, thing)", "follows(talk, sayings, *, saying)",
               "shows_follows(talk, sayings, thing, *, saying)"],
    "exchanges": ["column(rows, group)", "can_exchange(talk, rows, world, thing)",
                  "exchanged(talk, rows, world, exchanges)"],
    "few": ["is_few(talk, rows, world)", "few_of(talk, rows, world)", "rows_at(talk, sayings, world)",
            "few_world(talk, sayings, world)"],
    "parts": ["part_of(talk, sayings)", "shared(one, other)", "led(talk, world, part)",
              "joined(talk, one, world, other, other_world)"],
    "pairs": ["pair_system(one, case, other, other_case)", "is_parted(one, case, other, other_case, thing)"],
    "between": ["between(talk, ones, others)", "shows_apart(talk, ones, others, thing)",
                "saying_between(talk, ones, others, papers)"],
    "broad": ["is_broad(talk, thing)", "shares(talk, world, name)", "is_true_broad(talk, world, saying)"],
    "plays": ["play_of(talk, world, saying)", "shows_play(talk, world, saying, truth, thing)",
              "false_at(talk, saying, *, things=3)", "FEW"],
    "brinks": ["is_simple(talk, thing)", "brink(saying)", "are_alike_by(counts, others, brink)",
               "answer(counts, others, share, brink)", "cut_counts(counts, brink)", "true_of(talk, counts, saying)",
               "always(talk, saying)"],
    "store": ["Store(talk)"],
    "desk": ["Desk()"],
    "ranges": ["ranged(talk, sayings=(), *, total)", "shows_range(talk, sayings, thing, *, total)"],
}
METHODS = {
    ("talks", "Talk"): ["sets(self)", "numbers(self)", "most(self)", "regions(self)", "lies(self, region, name)",
                        "place(self, name)", "wider(self, name)", "halves(self, region, name)",
                        "__eq__(self, other)", "__len__(self)", "__str__(self)", "__repr__(self)"],
    ("store", "Store"): ["say(self, saying)", "say_all(self, sayings)", "drop(self, number)", "mark(self)", "back(self)",
                         "asked(self)", "follows(self, *, saying)", "ranged(self, *, total)", "clash(self)",
                         "standing(self)", "log(self)", "talk(self)", "twin(self)", "__eq__(self, other)",
                         "__len__(self)", "__repr__(self)"],
    ("desk", "Desk"): ["say(self, line)"],
}


def told(name, thing):
    return name + str(inspect.signature(thing))


class Interface(unittest.TestCase):
    def test_each_name_is_defined_in_its_file(self):
        for module, listed in INTERFACE.items():
            body = ast.parse((PACKAGE / (module + ".py")).read_text()).body
            defined = [row.name for row in body if isinstance(row, (ast.FunctionDef, ast.ClassDef))]
            defined += [row.targets[0].id for row in body if isinstance(row, ast.Assign)]
            for entry in listed:
                self.assertIn(entry.split("(")[0], defined)

    def test_arguments(self):
        for module, listed in INTERFACE.items():
            found = importlib.import_module("countfold." + module)
            for entry in listed:
                name = entry.split("(")[0]
                if "(" in entry:
                    self.assertEqual(told(name, getattr(found, name)), entry)

    def test_methods_are_the_class_s_own(self):
        for (module, name), listed in METHODS.items():
            own = vars(getattr(importlib.import_module("countfold." + module), name))
            for entry in listed:
                method = entry.split("(")[0]
                self.assertEqual(told(method, own[method]), entry)


if __name__ == "__main__":
    unittest.main()
