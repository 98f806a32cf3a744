"""The interface: each name with its arguments, in the file that lists it."""

import importlib
import inspect
import pathlib
import unittest

from formflow.interviews import Interview
from formflow.response import Response

FOLDER = pathlib.Path(__file__).resolve().parent.parent / "formflow"

INTERFACE = {
    "errors": {
        "FlowError": None, "BadText": ["token", "reason"], "BadLine": ["line"], "BadForm": None,
        "BadEdit": ["reason"], "BadMerge": ["reason"], "BadSaved": ["line"],
        "BadTemplate": ["place", "reason"], "BadArgument": ["reason"], "BadJournal": ["place"],
    },
    "values": {"is_name": ["text"], "code_of": ["value"], "value_of": ["code"], "is_value": ["thing"]},
    "reading": {"parse_expression": ["text"]},
    "writing": {"expression_text": ["expression"]},
    "meaning": {"meaning": ["expression", "names", "rows", "number"]},
    "forms": {
        "fields_of": ["form"], "section_of": ["form", "name"], "field_of": ["form", "name"],
        "names_in": ["expression"], "expressions_of": ["field"],
    },
    "formtext": {"form_text": ["form"], "parse_form": ["text"]},
    "issues": {"issues": ["form"], "kind_in": ["form", "section", "field", "expression"]},
    "entries": {
        "newer": ["one", "other"], "heap": ["entries"], "merge_versions": ["one", "other"],
        "covers": ["version", "entry"], "entry_at": ["entries", "name", "row"],
    },
    "state": {
        "work_out": ["form", "entries"], "accepts": ["form", "state", "path", "value"], "state_at": ["state", "path"],
    },
    "reach": {
        "dependents": ["form", "names"], "renew": ["form", "old", "entries", "names"],
        "report": ["old_form", "old", "form", "new"],
    },
    "completeness": {
        "missing": ["form", "state"], "broken": ["form", "state"], "faulty": ["form", "state"],
        "progress": ["form", "state"],
    },
    "response": {"Response": ["document", "replica", "form"]},
    "copies": {
        "delta": ["document", "since", "version", "entries"], "merged": ["document", "entries", "version", "given"],
    },
    "saved": {"save": ["response"], "load": ["text", "replica", "form"], "check_sum": ["text"]},
    "editions": {"changed": ["form", "other"]},
    "interviews": {"Interview": ["response"]},
    "templates": {"check_template": ["form", "template"], "write": ["response", "template"]},
    "journal": {"replay": ["document", "replica", "form", "text"]},
}

METHODS = {
    "Response": {
        "put": ["path", "value"], "clear": ["path"], "remove": ["section", "row"], "order": ["section", "rows"],
        "add": ["section"], "undo": [], "redo": [], "entries": [], "version": [], "state": [], "form": [], "document": [],
        "replica": [], "since": ["version"], "merge": ["delta"], "change_form": ["form"], "journal": [],
    },
    "Interview": {"asked": [], "answer": ["value"], "pass_over": [], "outcome": []},
}


class InterfaceTest(unittest.TestCase):
    def test_names_stand_in_their_files(self):
        for file, names in INTERFACE.items():
            module = importlib.import_module(f"formflow.{file}")
            for name in names:
                self.assertEqual(getattr(module, name).__module__, f"formflow.{file}", name)

    def test_arguments(self):
        for file, names in INTERFACE.items():
            module = importlib.import_module(f"formflow.{file}")
            for name, arguments in names.items():
                if arguments is not None:
                    found = inspect.signature(getattr(module, name)).parameters
                    self.assertEqual(list(found), arguments, name)

    def test_methods_stand_in_their_classes(self):
        for made in (Response, Interview):
            for name, arguments in METHODS[made.__name__].items():
                self.assertIn(name, vars(made))
                found = inspect.signature(vars(made)[name]).parameters
                self.assertEqual(list(found)[1:], arguments, name)

    def test_top_of_the_package(self):
        self.assertTrue((FOLDER / "__init__.py").is_file())


if __name__ == "__main__":
    unittest.main()
