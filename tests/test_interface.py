"""Tests that the interface of the document stands where it says, with its names and arguments."""

import ast
import importlib
import inspect
import pathlib
import unittest

PACKAGE = pathlib.Path(__file__).resolve().parent.parent / "vouchdoor"

# Functions with their arguments; classes with those of each method, the first being `__init__`.
INTERFACE = {
    "numbers": {"is_prime": "number", "power": "base exponent modulus", "inverse": "number prime"},
    "group": {
        "Group": {"__init__": "p q bases", "is_element": "number", "raised": "element exponent", "product": "pairs",
                  "log": "element", "__eq__": "other"},
        "commit": "group exponents", "relation": "group one other", "is_relation": "group exponents"},
    "statement": {
        "Statement": {"__init__": "unknowns equations", "__eq__": "other"},
        "holds": "group statement values", "reply": "group values tape challenge",
        "simulated": "group statement challenge replies", "extracted": "group one other"},
    "claim": {
        "Claim": {"__init__": "statement choices", "__eq__": "other"},
        "satisfied": "group claim witness", "tape_size": "claim", "tape_of": "claim numbers",
        "simulate": "group claim challenge tape", "first_move": "group claim witness tape",
        "answer": "group claim witness tape challenge", "fits": "group claim first challenge replied",
        "extract": "group claim one other", "tape_of_view": "group claim witness challenge replied"},
    "issuer": {
        "Kind": {"__init__": "name fields", "__eq__": "other"},
        "asking": "group element",
        "Issuer": {"__init__": "name group kinds", "ask": "kind element first", "challenge": "number challenge",
                   "grant": "number replied values day", "revoke": "index day", "counting": "kind day"}},
    "policy": {
        "Policy": {"__init__": "cards conditions", "__eq__": "other"},
        "read_policy": "text kinds", "policy_text": "policy"},
    "question": {
        "Question": {"__init__": "group kinds policy rows"},
        "question_of": "group kinds policy issuers day", "publics": "question told",
        "claim_of": "question fresh known"},
    "showing": {
        "Pick": {"__init__": "row randomness numbers", "__eq__": "other"},
        "told_of": "question picks", "answers": "question picks", "tape_count": "question picks",
        "Holder": {"__init__": "question secret picks tape", "begin": "", "reply": "challenge"},
        "Door": {"__init__": "question", "begin": "fresh told first", "challenge": "number", "finish": "replied"},
        "shown": "question fresh told one other", "other_tape": "question view secret picks"},
    "wallet": {
        "Wallet": {"__init__": "group secret", "ask": "randomness tape", "reply": "randomness tape challenge",
                   "keep": "issuer index kind randomness values", "picks": "question",
                   "opens": "kinds issuer holding"}},
}


class InterfaceTest(unittest.TestCase):

    def test_names_and_arguments(self):
        for name, entries in INTERFACE.items():
            module = importlib.import_module(f"vouchdoor.{name}")
            for entry, arguments in entries.items():
                found = getattr(module, entry)
                self.assertEqual(found.__module__, f"vouchdoor.{name}", entry)
                if isinstance(arguments, str):
                    self.assertTrue(inspect.isfunction(found), entry)
                    self.assertEqual(list(inspect.signature(found).parameters), arguments.split(), entry)
                    continue
                self.assertTrue(inspect.isclass(found), entry)
                for method, own in arguments.items():
                    parameters = list(inspect.signature(vars(found)[method]).parameters)
                    self.assertEqual(parameters, ["self"] + own.split(), (entry, method))

    def test_defined_in_their_files(self):
        for name, entries in INTERFACE.items():
            tree = ast.parse((PACKAGE / f"{name}.py").read_text(encoding="utf-8"))
            functions = [node.name for node in tree.body if isinstance(node, ast.FunctionDef)]
            classes = {node.name: [inner.name for inner in node.body if isinstance(inner, ast.FunctionDef)]
                       for node in tree.body if isinstance(node, ast.ClassDef)}
            for entry, arguments in entries.items():
                if isinstance(arguments, str):
                    self.assertEqual(functions.count(entry), 1, entry)
                else:
                    for method in arguments:
                        self.assertEqual(classes[entry].count(method), 1, (entry, method))


if __name__ == "__main__":
    unittest.main()
