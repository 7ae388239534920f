"""What the test cases of several files share."""

import inspect
import unittest


class Case(unittest.TestCase):
    def raised(self, error, call, *args, **named):
        """The error of exactly this class that a call raises."""
        with self.assertRaises(error) as caught:
            call(*args, **named)
        self.assertIs(type(caught.exception), error)
        return caught.exception

    def check_functions(self, module, names):
        """Checks that functions are defined in the file of a module, not imported into it."""
        for name in names:
            function = vars(module)[name]
            self.assertTrue(inspect.isfunction(function), name)
            self.assertEqual(function.__module__, module.__name__)

    def check_class(self, kind, module, methods, properties):
        """Checks that a class and what the interface lists for it are defined in a module."""
        self.assertEqual(kind.__module__, module)
        for name in methods:
            self.assertTrue(inspect.isfunction(vars(kind)[name]), name)
        for name in properties:
            self.assertIsInstance(vars(kind)[name], property)


class ShownCase(Case):
    """Checks of rows of deeds that show something."""

    def check_rows(self, store, rows, many):
        self.assertIs(type(rows), tuple)
        self.assertEqual(len(rows), many)
        for row in rows:
            self.assertIs(type(row), list)
            for deed in row:
                self.assertIn(deed, store.deeds)

    def check_parted(self, store, one, other):
        start = store.standings[0]
        self.assertNotEqual(store.look(store.lead(start, one)), store.look(store.lead(start, other)))
