"""The interface as a whole: what each file defines itself, with the names of its parameters [2]."""

import ast
import importlib
import inspect

from onecrest import errors
from plain import Case
from test_language import TREES

FUNCTIONS = {
    "basics": "is_integer(value) is_count(value)",
    "ratios": "is_number(value) is_share(value)",
    "blends": "is_letters(value)",
    "taken": "is_way(blend,value) taken(blend,way) ways(blend,many) all_ways(blend)",
    "worths": "worth(blend,weights) slope(blend,weights,direction) bend(blend,weights,direction) "
              "lean(blend,weights,direction) bends_up(blend,weights,direction) along(blend,weights,direction) "
              "polar(blend,rows)",
    "pieces": "pieces(blend) is_whole(blend) halves(blend) whole_tree(blend) is_whole_tree(blend,value) apart_way(blend)",
    "exchange": "mate(blend,counts,other,letter) exchanges(blend) misfit(blend) is_misfit(blend,value) mates(blend) "
                "is_mates(blend,value)",
    "hulls": "reach(blend,lot) reaches(blend) lacking(blend) is_filled(blend) uneven(blend)",
    "tables": "is_table(value) value_at(table,first,second) minor(table,places) rank(table) changed(table,rows)",
    "squares": "squares(table) is_squares(table,value)",
    "signs": "signs(table) has_one(table) is_never_below(table) two_above(table) is_two_above(table,value) "
             "level(table,weights) is_level(table,weights,value)",
    "quadrics": "table_of(blend) quadrics(blend)",
    "judge": "is_crested(blend) fault(blend) crest_paper(blend) is_crest_paper(blend,value) dent(blend) "
             "is_dent(blend,value) judged(blend)",
    "moved": "with_amount(blend,counts,number) without(blend,counts) crested_at(blend,counts,numbers) "
             "narrowed(blend,counts,low,high,many)",
    "polars": "slack(blend,first,second,rows) polar_dent(blend) is_polar_dent(blend,value)",
    "changes": "led(blend,letters,rows) alike(blend,letter,other) exchanged(blend,letter,other) "
               "passed(blend,letter,other,share) along_numbers(blend,numbers) cut(blend,letter,many)",
    "parted": "parted(blend,letter,letters) joined(blend,lot,letter) normal(blend) abnormal(blend)",
    "symbols": "is_operator(letters,bounds,value) second_letters(letters) symbol(letters,bounds,operator) "
               "applied(letters,bounds,operator,blend) surely_keeps(letters,bounds,operator) "
               "along_operator(letters,bounds,numbers) cut_operator(letters,bounds,letter,many) "
               "passed_operator(letters,letter,other,share)",
    "vectors": "rank(vectors) is_free(vectors,things) span_of(vectors,things) free_lots(vectors)",
    "lots": "is_house(many,lots) bad_lot(many,lots) greatest(many,lots) without(many,lots,thing) having(many,lots,thing) "
            "cut(many,lots,size) mirror(many,lots) beside(many,lots,more,others) rank_in(many,lots,things) "
            "house_blend(many,lots) greatest_blend(many,lots)",
    "nets": "forests(net) trees(net) net_vectors(net)",
    "sizes": "sizes(many,lots) size_slacks(row,many) is_even_row(row,many)",
    "chances": "lots(blend) chance(blend,weights,lot) products_chances(blend,weights) with_letter(blend,letter) "
               "without_letter(blend,letter)",
    "pairs": "together(blend,weights,letter,other) pair_slack(blend,weights,letter,other) "
             "helps(blend,weights,letter,other) pair_table(blend,weights) pair_paper(blend,weights) "
             "is_pair_paper(blend,weights,value)",
    "walks": "steps(blend,weights) pace_table(blend,weights) pace_paper(blend,weights) is_pace_paper(blend,weights,value) "
             "behind(blend,weights,lot,many) farness(blend,weights,lot,many) far_bound(blend,weights,lot,many)",
    "rows": "row_blend(row) is_even(row) dent_at(row) line_row(blend,first,second) joined(row,other) lost(row,position)",
    "permanents": "forms_blend(rows) permanent(rows) twin_slack(rows,first,second) no_choice(rows) "
                  "is_no_choice(rows,value) is_even_rows(rows) even_slack(rows)",
    "least": "is_least(blend,weights) least_worth(blend,weights) once_slack(blend,weights)",
    "boxes": "volume_blend(boxes) mixed_volume(boxes)",
    "texts": "written(thing)",
    "forms": "read(text)",
    "claims": "words() is_claim(value) is_true(claim) contrary(claim) paper_of(claim) is_paper_of(claim,value)",
    "commands": "is_name(value) is_command(value) is_deed(value)",
    "desk": "tried(desk,action)",
}
# the parameters of each class and of its methods, behind the object itself; a property has none to tell
CLASSES = {
    "ratios": {"Ratio": "__init__(top,bottom) top bottom sign is_whole __add__ __sub__ __mul__ __radd__ __rsub__ __rmul__ "
                        "__neg__() over(other) size() is_below(other) is_at_most(other) total(numbers) __eq__ __str__() "
                        "__repr__()"},
    "blends": {"Blend": "__init__(letters,entries) letters degree is_nought __len__() entries() amount(counts) __add__ "
                        "__mul__ scaled(number) __eq__ __repr__() bears() called(names) widened(letters) narrowed()"},
    "nets": {"Net": "__init__(places,ties) places ties() __len__() __eq__"},
    "desk": {"Desk": "__init__() names labels __len__() __getitem__ __contains__ weight(letter) pace(letter) "
                     "claim_of(label) do(command) __call__(command) do_all(commands) attempt(commands) attach(label,paper) "
                     "fits(label) lines() copy() again(lines)",
             "Trial": "__init__(desk) __enter__() __exit__"},
}


def parameters(call):
    return ",".join(inspect.signature(call).parameters)


class InterfaceTest(Case):
    def test_functions(self):
        for file, told in FUNCTIONS.items():
            module = importlib.import_module(f"onecrest.{file}")
            defined = {node.name for node in TREES[file].body if isinstance(node, ast.FunctionDef)}
            for form in told.split(" "):
                name, wanted = form.rstrip(")").split("(")
                self.assertIn(name, defined, file)
                self.assertEqual(parameters(getattr(module, name)), wanted, (file, name))

    def test_classes(self):
        for file, classes in CLASSES.items():
            module = importlib.import_module(f"onecrest.{file}")
            for node in TREES[file].body:
                if not isinstance(node, ast.ClassDef):
                    continue
                held = {part.name: part for part in node.body if isinstance(part, ast.FunctionDef)}
                for form in classes.get(node.name, "").split():
                    name, _, wanted = form.rstrip(")").partition("(")
                    self.assertIn(name, held, node.name)
                    if "(" in form:
                        told = parameters(getattr(module.__dict__[node.name], name))
                        self.assertEqual(told.removeprefix("self").lstrip(","), wanted, (node.name, name))
                    elif not name.startswith("__"):
                        self.assertEqual([part.id for part in held[name].decorator_list], ["property"], name)
            for name in classes:
                self.assertTrue(inspect.isclass(getattr(module, name)))
                self.assertEqual(getattr(module, name).__module__, f"onecrest.{file}")

    def test_every_file(self):
        """No file of the interface lacks, and the errors stand in theirs."""
        self.assertLessEqual(set(FUNCTIONS) | set(CLASSES) | {"errors"}, set(TREES))
        self.assertEqual(errors.TooMany.__module__, "onecrest.errors")
        self.assertTrue(all(inspect.isclass(getattr(errors, node.name)) for node in TREES["errors"].body
                            if isinstance(node, ast.ClassDef)))
