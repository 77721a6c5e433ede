"""The names, parameters and places of the interface."""

import ast
import importlib
import inspect
import pathlib
import unittest

PACKAGE = pathlib.Path(__file__).resolve().parent.parent / "mergereach"
FUNCTIONS = {
    "schemas": ["is_name(thing)", "is_version(schema, thing)", "known_versions(schema, versions)",
                "version_of(schema, values)", "labels_of(schema, version)", "vector_of(schema, version)"],
    "versiontexts": ["version_text(schema, version)", "read_version(schema, text)"],
    "picks": ["pick(schema, ours, base, theirs)", "pick_many(schema, ours, base, *theirs)",
              "conflicts_of(schema, ours, base, theirs)", "double_pick(schema, one, two, three)"],
    "scripts": ["run_script(schema, versions, steps)", "result_of(schema, versions, steps)"],
    "links": ["seen_values(schema, versions, field)", "are_linked(schema, versions, one, other)",
              "blocks_of(schema, versions)", "field_tuples(schema, versions, fields)",
              "meeting_script(schema, versions, one, value, other, second)"],
    "cosets": ["separates(coset, vector, thing)"],
    "reach": ["reduced_versions(schema, versions)"],
    "refusals": ["refusal_of(reach, version)", "is_refusal(reach, version, thing)"],
    "rules": ["is_rule(schema, thing)", "satisfies(schema, version, rule)", "is_kept(reach, rule)",
              "breaking_script(reach, rule)", "first_broken(reach, rules)"],
    "search": ["round_versions(schema, versions, count, *, limit=40)", "each_round(schema, versions, *, limit=40)",
               "round_of(schema, versions, version, *, limit=40)", "first_break(schema, versions, rule, *, limit=40)",
               "all_in_reach(schema, versions, *, limit=400)"],
    "grouptexts": ["rule_text(schema, rule)", "read_rule(schema, text)", "group_text(group)", "read_group(text)"],
}
METHODS = {
    ("schemas", "Schema"): ["__init__(self, fields)", "__eq__(self, other)", "__len__(self)", "__repr__(self)",
                            "fields(self)", "names(self)", "label_names(self)", "counter_names(self)",
                            "read(cls, text)", "text(self)", "kind(self, field)"],
    ("cosets", "Coset"): ["__init__(self, vectors)", "__eq__(self, other)", "__len__(self)",
                          "stepped(cls, start, *steps)", "vectors(self)", "width(self)", "basis(self)", "rank(self)",
                          "contains(self, vector)", "is_within(self, other)", "combination(self, vector)",
                          "separating(self, vector)"],
    ("reach", "Reach"): ["__init__(self, schema, versions)", "__eq__(self, other)", "schema(self)", "versions(self)",
                         "blocks(self)", "coset(self)", "contains(self, version)", "label_count(self)",
                         "each_labels(self)", "is_within(self, other)", "script_to(self, version)"],
    ("groups", "Group"): ["__init__(self, schema, versions, replicas, *, rules=())", "__eq__(self, other)",
                          "__len__(self)", "schema(self)", "replicas(self)", "rules(self)", "admitted(self)",
                          "quota(self)", "message_count(self)", "set_quota(self, limit)", "first_versions(self)",
                          "first_rules(self)", "held(self, name)", "licence(self, name)", "create(self, name, version)",
                          "pick(self, name, ours, base, theirs)", "propose(self, name, version)",
                          "add_rule(self, rule)", "announce(self)", "send(self, name)", "deliver(self, number, *, to)",
                          "operations(self)", "copied(self)"],
    ("console", "Console"): ["__init__(self, text)", "execute(self, command)", "run(self, commands)", "group(self)",
                             "log(self)"],
    ("console", "Recorder"): ["__init__(self, text)", "execute(self, command)", "run(self, commands)",
                              "transcript(self)"],
}
DECORATORS = {("Schema", "read"): ["classmethod"], ("Coset", "stepped"): ["classmethod"],
              ("Coset", "rank"): ["property"], ("Group", "quota"): ["property"],
              ("Group", "message_count"): ["property"]}


def tree_of(name):
    return ast.parse((PACKAGE / f"{name}.py").read_text(encoding="utf-8"))


def heads(body):
    """The functions of a body by name, as they are written."""
    return {node.name: f"{node.name}({ast.unparse(node.args)})" for node in body if isinstance(node, ast.FunctionDef)}


class Interface(unittest.TestCase):
    def test_functions_stand_in_their_files(self):
        for name, wanted in FUNCTIONS.items():
            found = heads(tree_of(name).body)
            for head in wanted:
                self.assertEqual(found[head.partition("(")[0]], head)

    def test_functions_can_be_imported(self):
        for name, wanted in FUNCTIONS.items():
            module = importlib.import_module("mergereach." + name)
            for head in wanted:
                function = getattr(module, head.partition("(")[0])
                self.assertEqual(function.__module__, "mergereach." + name)
                self.assertEqual(head, function.__name__ + str(inspect.signature(function)))

    def test_methods_stand_in_their_classes(self):
        for (name, title), wanted in METHODS.items():
            body = [node for node in tree_of(name).body if isinstance(node, ast.ClassDef) and node.name == title][0].body
            found = heads(body)
            self.assertEqual(sorted(found.values()), sorted(wanted))
            for node in body:
                if isinstance(node, ast.FunctionDef):
                    decorators = [decorator.id for decorator in node.decorator_list]
                    self.assertEqual(decorators, DECORATORS.get((title, node.name), []))


if __name__ == "__main__":
    unittest.main()
