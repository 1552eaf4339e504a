"""The names and arguments of the interface are there as the document tells them."""

import importlib
import inspect
import unittest

INTERFACE = [
    ("webs", "made", ["houses", "ties"]),
    ("webs", "between", ["web", "one", "other"]),
    ("webs", "degree", ["web", "house"]),
    ("webs", "rings", ["web"]),
    ("lendings", "lent", ["web", "standing", "script"]),
    ("lendings", "coins", ["standing"]),
    ("lendings", "less", ["one", "other"]),
    ("tables", "small_table", ["web"]),
    ("tables", "det", ["table"]),
    ("tables", "adjoint", ["table"]),
    ("weighing", "kinds", ["web"]),
    ("weighing", "alike", ["web", "one", "other"]),
    ("weighing", "shows", ["web", "one", "other", "paper"]),
    ("queues", "queue", ["web", "standing", "house"]),
    ("queues", "outside", ["web", "standing", "house"]),
    ("queues", "is_plain", ["web", "standing", "house"]),
    ("plains", "plain", ["web", "standing", "house"]),
    ("clearing", "paper", ["web", "standing"]),
    ("clearing", "is_cleared", ["web", "standing"]),
    ("clearing", "clears", ["web", "standing", "script"]),
    ("clearing", "holds", ["web", "standing", "script", "order"]),
    ("bounds", "bound", ["web", "order"]),
    ("bounds", "middle", ["web"]),
    ("bounds", "bounds", ["web"]),
    ("bounds", "room", ["web", "standing"]),
    ("ranks", "rank", ["web", "standing"]),
]


class InterfaceTest(unittest.TestCase):
    def test_names_and_arguments(self):
        for file, name, arguments in INTERFACE:
            with self.subTest(file=file, name=name):
                function = getattr(importlib.import_module(f"owinghall.{file}"), name)
                self.assertEqual(list(inspect.signature(function).parameters), arguments)


if __name__ == "__main__":
    unittest.main()
