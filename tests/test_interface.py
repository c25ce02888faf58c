import importlib
import inspect
import unittest

# What the document lists: each function under its file, with its parameters.
FUNCTIONS = {
    'kinds': {name: ['thing'] for name in (
        'is_integer', 'is_number', 'is_sender', 'is_road', 'is_hearer', 'is_book', 'is_harm', 'is_cause')},
    'bookparts': {**{name: ['book'] for name in (
        'paces_of', 'parts_of', 'copies_of', 'numbers_of', 'pause_of', 'span_of', 'wait_of', 'memory_of', 'room_of',
        'drop_of', 'reach_of')}, 'next_number': ['book', 'm']},
    'forms': {'crowd_of': ['book'], 'can_be': ['book', 'harm'], 'harms_that_can': ['book'], 'causes_of': ['book'],
              'is_harmless': ['book']},
    'alike': {'are_alike': ['book', 'other'], 'parting_hearer': ['book', 'other'], 'same_roads': ['book', 'other']},
}


class TestInterface(unittest.TestCase):

    def test_functions_are_defined_in_their_files(self):
        for module, functions in FUNCTIONS.items():
            found = importlib.import_module('pieceswindow.' + module)
            for name, parameters in functions.items():
                function = getattr(found, name)
                self.assertTrue(inspect.isfunction(function), name)
                self.assertEqual(function.__module__, 'pieceswindow.' + module)
                self.assertEqual(list(inspect.signature(function).parameters), parameters, name)


if __name__ == '__main__':
    unittest.main()
