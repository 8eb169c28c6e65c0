"""Each name of the interface exists, is defined in its own file, and takes the arguments that are listed."""

import importlib
import inspect
import unittest

INTERFACE = {
    "relations": "Relation(sources, targets, pairs); every_pair(sources, targets); no_pair(sources, targets); "
                 "same_pairs(names); other_pairs(names)",
    "residuals": "under(r, t); over(t, s); likeness(r, s); between(r, s, x, z); first_gap(r, s, t)",
    "sizes": "row_counts(r); column_counts(r); sources_with(r); targets_had(r); reached(r, names); best_pairing(r); "
             "least_touch(r); judge_pairing(r, value); judge_touch(r, value); worst_lack(r)",
    "closing": "closed(r); walked(r); walk(r, x, y); shut(r, x, y); judge_walk(r, x, y, value); "
               "judge_shut(r, x, y, value); knots(r)",
    "kinds": "first_fault(r, word); has_kind(r, word); kinds_of(r); is_function(r); is_parting(r); is_order(r); "
             "is_strict_order(r); least_with(r, words)",
    "partings": "classes(r); parting(names, lists); least_parting(r); joined_partings(r, s); cut_partings(r, s); "
                "all_partings(names); kernel(f); target_of(f, x)",
    "splits": "onto_then_apart(f); is_split(f, value); between_splits(f, one, other); pair_split(r); "
              "least_matching(r); blocks(r); zigzag(r, x, y); pen(r, x, y); judge_zigzag(r, x, y, value); "
              "judge_pen(r, x, y, value); cross(r); heights(r); judge_heights(r, value)",
    "laying": "laid(r); judge_laid(r, value); count_rows(r); thinned(r); layers(r); longest_chain(r); few_chains(r); "
              "most_apart(r)",
    "frames": "Frame(sorts, letters, totals)",
    "terms": "ends_of(frame, term); paths(term); part_at(term, path); with_part(term, path, part)",
    "forms": "is_flat(term); is_short(term); is_kept(term); is_plain(term); size(term); letters_in(term); "
             "sorts_in(term); pushed(term); led_term(term, letters, sorts)",
    "termtexts": "write_term(term); read_term(frame, text)",
    "worlds": "World(frame, things, pairs); with_pair(world, letter, x, y); without_pair(world, letter, x, y); "
              "with_thing(world, sort, x); without_thing(world, sort, x); renamed(world, sort, names)",
    "worths": "worth(world, term); holds_at(world, term, x, y); reason(world, term, x, y); "
              "judge_reason(world, term, x, y, value)",
    "books": "Book(frame, premises); with_premise(book, p, q); without_premise(book, number); "
             "first_broken(book, world); all_broken(book, world); obeys(book, world)",
    "worldworks": "part_of(world, things); is_whole(world, things); whole_part(world, things); "
                  "product(world, other); summed(world, other); folded(world, classes)",
    "ways": "is_way(frame, value); ways(frame, term); turned_way(way); made(book, way)",
    "leads": "is_lead(way, world, value); leads(way, world); first_lead(way, world, x, y); "
             "worth_by_ways(world, term); chosen(book, way, world, lead); lead_world(book, way, world, lead)",
    "leastways": "plain_ways(frame, term); way_world(frame, way); is_lead_into(way, other, value); "
                 "lead_into(way, other); least_way(way); alike_ways(way, other); plain_leads(frame, claim)",
    "known": "atoms_of(frame, way); Known(frame, way, branch); plain_world(frame, way, branch)",
    "cases": "check_law(frame, claim); ways_of_law(book, claim); bound(book, claim); "
             "is_let_by(book, claim, number, branch, leaf); first_wrong(book, claim, number, paper); leaves(paper); "
             "weeded(book, claim, number, paper)",
    "deciding": "decide(book, claim); holds(book, claim); decide_way(book, claim, number)",
    "lawpapers": "judge_papers(book, claim, papers); judge_world(book, claim, world, pair); "
                 "judge(book, claim, answer)",
    "follows": "short_premises(book); follows(book, number); needless_ones(book); thinned_book(book); "
               "is_thinned_book(book, value); first_unlike(book, other)",
    "turnings": "put_in(frame, term, name, flat); law_put_in(frame, claim, name, flat); book_put_in(book, name, flat); "
                "defined(book, name, flat); turned_laws(frame, claim); premises_of(frame, word, letter)",
    "counting": "all_worlds(book, sizes); count_worlds(book, sizes); alike_worlds(world, other); "
                "unlike_worlds(book, sizes)",
    "plans": "compiled(frame, term); first_wrong(frame, value); plan_term(frame, rows)",
    "running": "run_plan(world, rows); row_of(world, term, x); sign_of(term, name); support_of(world, term, x, y)",
    "differences": "world_behind(world, change); difference_of(world, term, change); "
                   "all_differences(world, rows, change); net_difference(world, term, changes)",
    "deeds": "in_order(book, world, views); edited(state, deed); deed_between(state, other); back(state, deed); "
             "differences(state, other)",
    "stores": "Store(book, world, views)",
    "merging": "clashes(elder, one, other); merged(elder, one, other)",
    "branches": "elders(store, number); come_of(store, number); last_common(store, one, other); line_to(store, number); "
                "attempt(store, action); tried(store, deeds); would(store, deeds)",
    "storetexts": "write_deed(deed); read_deed(frame, text); write_store(store); read_store(frame, text)",
    "maps": "WorldMap(source, target, images); same_map(world); all_maps(source, target); first_map(source, target); "
            "first_exact(source, target)",
    "images": "led_relation(m, a, b, r); fetched_relation(m, a, b, s); first_unkept(m, term); first_gained(m, term); "
              "is_apart_map(m); is_onto_map(m); is_fold(m); is_embedding(m); back_of_map(m); kernel_of_map(m, sort); "
              "three_steps(m); is_three_steps(m, value); steps_between(m, one, other)",
    "led": "renaming_map(world, names); led_deed(m, deed); led_state(m, state)",
}
METHODS = {
    ("relations", "Relation"): ["sources(self)", "targets(self)", "pairs(self)", "row(self, x)", "column(self, y)",
                                "turned(self)"],
    ("frames", "Frame"): ["sorts(self)", "letters(self)", "totals(self)", "ends(self, name)", "has_sort(self, value)",
                          "has_letter(self, value)", "totals_from(self, sort)"],
    ("worlds", "World"): ["frame(self)", "things(self, sort)", "relation(self, letter)", "has(self, letter, x, y)",
                          "total(self)", "told(self)"],
    ("books", "Book"): ["frame(self)", "premises(self)"],
    ("known", "Known"): ["classes(self)", "has_clash(self)", "surely(self, term, i, j)", "surely_so(self, term, i, j)"],
    ("stores", "Store"): ["do(self, deed)", "present(self)", "now(self)", "state(self, number)", "log(self)", "frame(self)",
                          "worth_of(self, word)", "worth_at(self, number, word)", "undo(self)", "again(self)",
                          "branch(self, name)", "go(self, name)", "here(self)", "branches(self)", "trail(self, name)",
                          "mark(self, name)", "merge(self, name)", "twin(self)"],
    ("maps", "WorldMap"): ["source(self)", "target(self)", "image(self, sort, thing)", "images(self)"],
}
OPERATORS = {
    ("relations", "Relation"): ["contains", "len", "eq", "or", "and", "sub", "invert", "rshift", "le", "lt", "ge", "gt"],
    ("frames", "Frame"): ["eq"],
    ("worlds", "World"): ["eq"],
    ("books", "Book"): ["len", "eq"],
    ("known", "Known"): [],
    ("stores", "Store"): ["eq", "len"],
    ("maps", "WorldMap"): ["rshift", "eq"],
}


class Interface(unittest.TestCase):
    def test_functions_and_classes(self):
        for file, told in INTERFACE.items():
            module = importlib.import_module(f"pairlaws.{file}")
            for entry in told.split("; "):
                found = vars(module)[entry.split("(")[0]]
                self.assertEqual(found.__module__, f"pairlaws.{file}")
                self.assertEqual(found.__name__ + str(inspect.signature(found)), entry)

    def test_methods(self):
        for (file, name), told in METHODS.items():
            made = vars(importlib.import_module(f"pairlaws.{file}"))[name]
            for entry in told:
                found = vars(made)[entry.split("(")[0]]
                self.assertEqual(found.__name__ + str(inspect.signature(found)), entry)
            for word in OPERATORS[file, name]:
                self.assertIn(f"__{word}__", vars(made))


if __name__ == "__main__":
    unittest.main()
