"""The interface: each name stands in its file, with its arguments; methods stand in the class itself; [230]."""

import importlib
import inspect
import unittest

FUNCTIONS = """
fields: u16_numbers(number)
fields: i32_numbers(number)
fields: u16_at(numbers, place)
fields: i32_at(numbers, place)
codes: packed_length(many, width)
codes: packed_codes(codes, width)
codes: unpacked_codes(numbers, many, width)
windows: digits_of(number)
windows: spread_of(values)
windows: frequencies(values)
windows: most_frequent(values, many)
windows: cover_of(values, width)
windows: base_of(values, width)
windows: best_starts(values, width)
windows: covered_places(values, width)
windows: covers_of(values)
residuals: groups_of(kind, many, reference)
residuals: residuals_of(kind, values, reference)
sections: entries_of(kind, width, values, reference)
sections: section_with(kind, width, entries, values, reference)
sections: section_of(kind, width, values, reference)
sections: section_size(width, section)
sections: stored_values(kind, section, reference, label_count)
recipes: made_size(kind, width, values, reference)
recipes: full_width(kind, values, reference)
recipes: all_sizes(values, reference)
recipes: best_recipe(values, reference)
recipes: best_recipes(values, reference)
tables: flaw_of(table)
tables: heads_of(table)
tables: place_of(table, name)
tables: cell_of(column, value)
tables: value_of(column, cell)
tables: rows_of(table)
tables: table_of(heads, rows)
references: circle_of(choice)
references: chain_of(choice, column)
references: ranks_of(choice)
references: computing_order(choice)
references: entering_columns(choice, members)
plans: check_plan(table, plan)
plans: choice_of(table, plan)
plans: plan_sections(table, plan)
plans: plan_sizes(table, plan)
plans: file_size(table, plan)
plans: plan_order(table, first, second)
plans: needed_columns(table, plan, names)
least: total_cost(costs, choice)
least: least_total(costs, *, fixed=())
least: first_least(costs, *, fixed=())
least: each_least(costs, *, fixed=())
least: count_least(costs, *, fixed=())
least: switch_of(costs, column, reference, *, fixed=())
components: source_components(costs, *, fixed=())
components: entering_cost(costs, members, *, fixed=())
components: lowered(costs, members, amount, *, fixed=())
duals: dual_of(costs, *, fixed=())
duals: load_of(pairs, column, reference)
duals: excess_of(costs, pairs, column, *, fixed=())
duals: dual_bound(costs, pairs, *, fixed=())
judging: gaps_of(costs, pairs, choice, *, fixed=())
judging: allows(costs, pairs, choice, *, fixed=())
continuing: reduced_costs(costs, pairs, *, fixed=())
continuing: continued(costs, pairs, *, fixed=())
needs: needed_members(choice, members)
needs: need_of(costs, choice, members)
needs: least_need(costs, members, *, fixed=())
needs: serving_choice(costs, members, *, fixed=())
needs: meeting(pairs, members)
needs: distances_of(costs, *, fixed=())
needs: distance_pairs(costs, column, *, fixed=())
parsing: parsed(numbers)
writing: header_of(table)
writing: written(contents)
writing: encode(table, plan)
reading: computed(contents)
reading: read_file(numbers)
reading: listed(numbers)
pricing: costs_of(table)
packing: least_size(table, *, fixed=())
packing: first_least_plan(table, *, fixed=())
packing: is_least_plan(table, plan)
packing: pack(table)
alternatives: alternatives(table)
certificates: certify(table, *, fixed=())
certificates: numbered(table, certificate)
certificates: named(table, pairs)
certificates: lower_bound(table, certificate, *, fixed=())
certificates: proves(table, certificate, size, *, fixed=())
certificates: decide(table, size, *, fixed=())
certificates: account_of(numbers, certificate)
numbering: count_least_plans(table)
numbering: least_plan_at(table, number)
numbering: least_plan_number(table, plan)
serving: least_bytes(table, names, *, fixed=())
serving: serving_plan(table, names, *, fixed=())
serving: query_bound(table, certificate, names, *, fixed=())
partial: column_in(numbers, name)
partial: answer_in(numbers, query)
conditions: satisfies(table, condition, row)
conditions: selected_rows(table, where)
conditions: without_not(condition)
queries: check_query(table, query)
queries: aggregate_of(table, aggregate, rows)
queries: query_columns(table, query)
queries: answer(table, query)
changes: changed(table, changes)
changes: inverse(table, changes)
changes: difference(first, second)
changes: limits_of(word, columns)
revising: touched(table, plan, change)
revising: revised(numbers, changes)
"""
CLASSES = {
    "files": ("File", "(self, numbers)", (
        "column(self, name)", "query(self, query)", "needs(self, query)", "exchange(self, name, number)", "walk(self)",
        "__len__(self)", "__iter__(self)"), ("table", "plan", "counters")),
    "readers": ("Reader", "(self)", ("feed(self, numbers)", "finish(self)", "__len__(self)"), ()),
    "stores": ("Store", "(self, table, *, limit=None, keep=30)", (
        "opened(cls, numbers, *, limit=None, keep=30)", "apply(self, changes)", "tried(self, changes)",
        "set_cell(self, row, column, cell)", "append_row(self, cells)", "insert_row(self, row, cells)",
        "remove_row(self, row)", "repack(self)", "renew(self)", "undo(self)", "__len__(self)", "__iter__(self)"),
        ("table", "plan", "certificate", "slack", "file", "account")),
}


def module(name):
    return importlib.import_module(f"refpack.{name}")


class InterfaceTests(unittest.TestCase):

    def test_functions(self):
        for row in FUNCTIONS.split("\n")[1:-1]:
            name, call = row.split(": ")
            word = call.split("(")[0]
            function = getattr(module(name), word)
            self.assertTrue(inspect.isfunction(function), call)
            self.assertEqual((function.__module__, function.__name__), (f"refpack.{name}", word))
            self.assertEqual(word + str(inspect.signature(function)), call)

    def test_classes(self):
        for name, (word, arguments, methods, properties) in CLASSES.items():
            some = getattr(module(name), word)
            self.assertEqual((some.__module__, some.__name__), (f"refpack.{name}", word))
            self.assertEqual(str(inspect.signature(vars(some)["__init__"])), arguments)
            for method in methods:
                function = vars(some)[method.split("(")[0]]
                function = getattr(function, "__func__", function)
                self.assertEqual(function.__name__ + str(inspect.signature(function)), method)
            for told in properties:
                self.assertIsInstance(vars(some)[told], property)

    def test_generators(self):
        self.assertTrue(inspect.isgeneratorfunction(module("least").each_least))
        self.assertTrue(inspect.isgeneratorfunction(module("files").File.walk))
        self.assertIsInstance(vars(module("stores").Store)["opened"], classmethod)


if __name__ == "__main__":
    unittest.main()
