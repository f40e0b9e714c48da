"""The names and arguments of the interface, in the files under which they are listed."""

import importlib
import inspect
import unittest

FUNCTIONS = {
    "names": ("is_name(text)", "is_uid(text)", "kind_of(uid)", "id_of(uid)", "check_name(text, what='name')",
              "check_uid(text, what='uid')"),
    "values": ("scalar_before(one, two)", "is_value(value)", "check_value(value, what='value')", "make_set(scalars)",
               "write_value(value)"),
    "expressions": ("operands(node)", "check_expression(expression, what='condition')", "starts(expression)",
                    "write_expression(expression)"),
    "tokens": ("split_text(text)",),
    "reading": ("read_value(text)", "read_expression(text)", "read_book(text)", "read_changes(text)"),
    "writing": ("write_policy(policy)", "write_change(change)", "write_book(policies)", "write_changes(changes)"),
    "requests": ("check_request(request)", "request_kind(request)", "context_value(request, name)",
                 "with_part(request, part, uid)"),
    "databases": ("check_entity(entity)", "check_change(change)", "check_changes(changes)"),
    "evaluating": ("join_reads(one, two)", "evaluate(expression, request, source)"),
    "policies": ("check_policy(policy, *, slots=False)", "is_template(policy)", "slots_of(policy)",
                 "in_scope(scope, uid, source)", "policy_state(policy, request, source)", "can_apply(policy, kind)"),
    "deciding": ("decide(policies, request, source)",),
    "templates": ("link_template(template, name, principal, resource)",),
    "paths": ("node_paths(expression)", "expression_manifest(expression)", "split_path(path)"),
    "manifests": ("join_manifests(manifests)", "policy_manifest(policy)", "manifest(policies, kind)", "longest(manifest)"),
    "following": ("follow(root, names, request, source)", "named_reads(manifest, request, database)",
                  "next_reads(manifest, request, source)"),
    "slices": ("slice_of(database, request, manifest)",),
    "questions": ("permitted(policies, part, request, kind, database)",),
    "facts": ("check_fact(fact)",),
    "papers": ("paper_of(policies, request, source)", "judge(policies, request, decision, paper)", "agrees(paper, source)"),
    "blocks": ("encode_record(mark, number, text)", "decode_piece(block)", "encode_head(generation, base, many)",
               "decode_head(block)"),
    "keeper": ("area_size(disk)", "area_start(disk, area)", "format_disk(disk, database)", "newest_head(disk)",
               "open_disk(disk)"),
}

CLASSES = {
    "errors": {"TextFault": ("__init__(self, line, column, words)",), "OutOfRange": ("__init__(self, name)",),
               "ChangeRefused": ("__init__(self, number, words)",)},
    "databases": {"Database": (
        "__init__(self, entities)", "entities(self)", "many(self)", "has(self, uid)", "attribute(self, uid, name)",
        "parents(self, uid)", "ancestors(self, uid)", "within(self, uid, other)", "tell(self, read)", "same(self, other)",
        "changed(self, changes)")},
    "stores": {"Store": (
        "__init__(self)", "apply(self, edit)", "load(self, text)", "undo(self)", "policies(self)", "templates(self)",
        "edit_count(self)", "book(self)")},
    "index": {"Index": ("__init__(self, policies)", "select(self, kind)", "size(self)")},
    "facts": {
        "Told": ("__init__(self, rows)", "tell(self, read)"),
        "Known": ("__init__(self)", "learn(self, fact)", "at(self, read, version)", "span(self, read, version)",
                  "spans(self, read)", "reads(self)", "facts(self)", "newest(self)", "view(self, version)",
                  "duplicate(self)"),
        "View": ("__init__(self, known, version)", "tell(self, read)")},
    "sessions": {"Session": (
        "__init__(self, policies, request, mode)", "policies(self)", "manifest(self)", "asks(self, source)",
        "decision(self, source)", "reads(self, source)")},
    "history": {"History": (
        "__init__(self, database, base)", "base(self)", "newest(self)", "commit(self, changes)", "database(self, version)",
        "told(self, read, version)", "fact(self, read, version, upto)")},
    "disks": {"Disk": (
        "__init__(self, blocks)", "size(self)", "read(self, at)", "write(self, at, block)", "flush(self)",
        "pending_count(self)", "cut_count(self)", "cut_power(self, torn)", "schedule_cut(self, many, torn)")},
    "keeper": {"Keeper": (
        "append(self, changes)", "sync(self)", "compact(self)", "base(self)", "newest(self)", "database(self, version)",
        "fact(self, read, version, upto)", "history(self)", "free_blocks(self)")},
    "house": {"House": (
        "__init__(self, disk)", "commit(self, changes)", "sync(self)", "compact(self)", "synced(self)", "newest(self)",
        "base(self)", "answer(self, reads)", "database(self, version)", "free_blocks(self)")},
    "desks": {"Desk": (
        "__init__(self, policies)", "begin(self, request, mode)", "version(self)", "learn(self, facts)", "known(self)",
        "asks(self, number)", "renew(self, number)", "told(self, number)", "told_at(self, number, version)",
        "paper(self, number)")},
    "link": {"Link": (
        "__init__(self, database, policies, desks, blocks)", "begin(self, desk, request, mode)", "send(self, desk, number)",
        "renew(self, desk, number)", "told(self, desk, number)", "told_at(self, desk, number, version)",
        "paper(self, desk, number)", "letters(self)", "drop(self, letter)", "duplicate(self, letter)",
        "deliver(self, letter)", "commit(self, changes)", "sync(self)", "compact(self)", "house_version(self)",
        "database(self, version)", "is_open(self)", "cut_power(self, torn)", "schedule_cut(self, many, torn)",
        "reopen(self)")},
}


def bare(signature):
    """The signature without annotations, which are free."""
    parameters = [one.replace(annotation=inspect.Parameter.empty) for one in signature.parameters.values()]
    return inspect.Signature(parameters)


class InterfaceTest(unittest.TestCase):
    def check(self, module, name, what, wanted):
        self.assertEqual(what.__module__, module)
        self.assertEqual(name + str(bare(inspect.signature(what))), wanted)

    def test_functions(self):
        for short, wanted in FUNCTIONS.items():
            module = importlib.import_module("farfacts." + short)
            for line in wanted:
                name = line.partition("(")[0]
                self.assertTrue(inspect.isfunction(getattr(module, name)), line)
                self.check(module.__name__, name, getattr(module, name), line)

    def test_classes(self):
        for short, table in CLASSES.items():
            module = importlib.import_module("farfacts." + short)
            for name, wanted in table.items():
                self.assertEqual(getattr(module, name).__module__, module.__name__)
                for line in wanted:
                    method = line.partition("(")[0]
                    # Each method stands in the class itself, not in a base class alone.
                    self.assertIn(method, vars(getattr(module, name)), line)
                    self.check(module.__name__, method, vars(getattr(module, name))[method], line)


if __name__ == "__main__":
    unittest.main()
