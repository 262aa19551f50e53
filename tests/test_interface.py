"""Everything that the interface lists is defined where it is listed."""

import ast
import importlib
import inspect
import pathlib
import unittest

from pastamended.database import Database
from pastamended.disk import Disk
from pastamended.journal import Journal
from pastamended.store import Store
from pastamended.transactions import Transaction

PACKAGE = pathlib.Path(__file__).resolve().parent.parent / "pastamended"
FUNCTIONS = {
    "values": ["wrap(n)", "quotient(x, y)", "remainder(x, y)", "kind_of(value)", "write_value(value)"],
    "spans": ["spans_of(pairs)", "spans_unite(first, second)", "spans_meet(first, second)",
              "spans_minus(first, second)", "spans_hold(spans, n)", "spans_count(spans)"],
    "regions": ["region_of(rectangles)", "unite(first, second)", "meet(first, second)", "minus(first, second)",
                "holds(region, m, k)", "at_known(region, k)", "at_moment(region, m)", "size(region)",
                "rectangles_of(region)", "check_region(value)"],
    "pieces": ["pieces(regions, window)"],
    "words": ["words(text)"],
    "reading": ["read_statement(text)"],
    "trees": ["bare(tree)"],
    "writing": ["write_statement(tree)"],
    "checking": ["check_statement(tree, schemas)"],
    "plain_answers": ["value_of(e, levels, tables)", "plain_answer(question, tables, levels=())"],
    "plain_changes": ["plain_change(statement, tables)"],
    "plain_rules": ["rule_holds(rule, rows, tables, keys)"],
    "relations": ["relation_of(pairs)", "cut(relation, m, k)", "within(relation, region)",
                  "unite_relations(first, second)", "meet_relations(first, second)",
                  "minus_relations(first, second)"],
    "answers": ["truth(condition, levels, region, tables)", "answer(question, tables, region, levels=())"],
    "changing": ["change(statement, tables, known)"],
    "rules": ["first_broken(rules, tables, keys, known)"],
    "parts": ["parts(condition)", "sources_of(e)"],
    "rewriting": ["rewrite(question)", "size_of(question)"],
    "corrections": ["corrections(relation, j, k)", "dump(name, relation, known)"],
    "orders": ["order_number(n, count)", "make_plan(select, order)", "choose_order(select, sizes)"],
    "plans": ["planned_answer(question, tables, region, orders)"],
    "records": ["record_blocks(generation, number, text)", "read_block(text)"],
    "images": ["image_text(store)", "store_of(text, known)"],
    "reports": ["history(database, table, values)", "difference(database, text, j, k)"],
}
CLASSES = {
    "errors": ["DatabaseError", "StatementError", "SyntaxFault", "UnknownName", "DuplicateName", "AmbiguousName",
               "WrongKind", "WrongCount", "Misplaced", "WrongRule", "WrongSpan", "WrongRegion", "NotYetKnown",
               "RuleBroken", "Conflict", "BadBlock", "DiskFull", "PowerLost", "Stopped"],
}
# Each method stands in the body of the class itself; the call of the class is that of its __init__.
METHODS = {
    ("indexes", "Index"): ["Index(relation, columns)", "rows_for(values)", "put(row, region)"],
    ("transactions", "Transaction"): ["Transaction(store)", "apply(statement, text='')", "schemas()", "relations()",
                                      "undo()"],
    ("store", "Store"): ["Store()", "begin()", "relations()", "schemas()", "table_names()", "text_of(name)",
                         "rules_of(name)", "commit(transaction)", "prepare(transaction)"],
    ("disk", "Disk"): ["Disk(size)", "block(index)", "write(index, text)", "sync()", "waiting()", "fall_after(n)",
                       "restart(choice)"],
    ("journal", "Journal"): ["Journal(disk)", "records()", "write_record(text)", "checkpoint(text)", "has_room(text)"],
    ("database", "Database"): ["Database(disk)", "begin()", "execute(text, transaction=None)",
                               "commit(transaction=None)", "undo(transaction=None)", "checkpoint()"],
}
CONSTANTS = {"values": ["MOST", "END", "OPEN"]}


def body_of(module):
    return ast.parse((PACKAGE / f"{module}.py").read_text()).body


class InterfaceTest(unittest.TestCase):
    def test_functions(self):
        for module, calls in FUNCTIONS.items():
            defined = [node.name for node in body_of(module) if isinstance(node, ast.FunctionDef)]
            for call in calls:
                name = call.split("(")[0]
                self.assertIn(name, defined, module)
                function = getattr(importlib.import_module(f"pastamended.{module}"), name)
                self.assertEqual(name + str(inspect.signature(function)), call)

    def test_classes(self):
        for module, names in CLASSES.items():
            defined = [node.name for node in body_of(module) if isinstance(node, ast.ClassDef)]
            self.assertLessEqual(set(names), set(defined))

    def test_methods(self):
        for (module, name), calls in METHODS.items():
            bodies = [node.body for node in body_of(module) if isinstance(node, ast.ClassDef) and node.name == name]
            defined = [node.name for body in bodies for node in body if isinstance(node, ast.FunctionDef)]
            owner = getattr(importlib.import_module(f"pastamended.{module}"), name)
            self.assertEqual(name + str(inspect.signature(owner)), calls[0])
            for call in calls[1:]:
                method = call.split("(")[0]
                self.assertIn(method, defined)
                signature = str(inspect.signature(getattr(owner, method)))
                self.assertEqual(method + signature.replace("self, ", "").replace("self", ""), call)

    def test_fields(self):
        disk = Disk(9)
        database = Database(disk)
        fields = [(disk, "size", int), (Store(), "known", int), (Transaction(Store()), "known", int),
                  (database, "store", Store), (database, "transaction", Transaction)]
        fields += [(Journal(disk), name, int) for name in ("generation", "number", "image_number")]
        fields += [(Journal(disk), "image", str)]
        for one, name, kind in fields:
            self.assertIs(type(vars(one)[name]), kind, name)

    def test_constants(self):
        for module, names in CONSTANTS.items():
            defined = [node.targets[0].id for node in body_of(module) if isinstance(node, ast.Assign)]
            self.assertLessEqual(set(names), set(defined))


if __name__ == "__main__":
    unittest.main()
