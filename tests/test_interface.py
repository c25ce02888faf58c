import importlib
import inspect
import unittest

# What the document lists: each function under its file, with its parameters.
FUNCTIONS = {
    'kinds': {name: ['thing'] for name in (
        'is_integer', 'is_number', 'is_sender', 'is_road', 'is_hearer', 'is_book', 'is_harm', 'is_cause')},
    'bookchecker': {'lets_book': ['thing']},
    'bookparts': {**{name: ['book'] for name in (
        'paces_of', 'parts_of', 'copies_of', 'numbers_of', 'pause_of', 'span_of', 'wait_of', 'memory_of', 'room_of',
        'drop_of', 'reach_of')}, 'next_number': ['book', 'm']},
    'bookchanges': {
        'with_paces': ['book', 'a', 'b'], 'with_parts': ['book', 'n'], 'with_copies': ['book', 'copies'],
        'with_numbers': ['book', 'numbers'], 'with_pause': ['book', 'pause'], 'with_road': ['book', 'd', 'late'],
        'with_wait': ['book', 'wait'], 'with_memory': ['book', 'memory'], 'with_room': ['book', 'room'],
        'with_drop': ['book', 'drop'], 'with_mark': ['book', 'e'], 'with_ways': ['book', 'ways']},
    'booktexts': {'book_text': ['book']},
    'bookreadings': {'book_read': ['text']},
    'forms': {'crowd_of': ['book'], 'can_be': ['book', 'harm'], 'harms_that_can': ['book'], 'causes_of': ['book'],
              'is_harmless': ['book']},
    'alike': {'are_alike': ['book', 'other'], 'parting_hearer': ['book', 'other'], 'same_roads': ['book', 'other']},
}

# Its classes: the parameters of the class, and those of its plain methods.
CLASSES = {
    'bookclasses': {
        'Book': (['sender', 'road', 'hearer'], {
            'but': ['self', 'more'], 'read': ['text'],
            'of': ['a', 'late', 'b', 'n', 'copies', 'numbers', 'pause', 'd', 'wait', 'memory', 'room', 'drop']}),
        'Plain': (['a', 'late', 'n'], {})},
}


class TestInterface(unittest.TestCase):

    def test_functions_are_defined_in_their_files(self):
        for module, functions in FUNCTIONS.items():
            found = importlib.import_module('pieceswindow.' + module)
            for name, parameters in functions.items():
                function = getattr(found, name)
                self.assertTrue(inspect.isfunction(function), name)
                self.assertEqual(function.__module__, 'pieceswindow.' + module)
                self.assertEqual(list(inspect.signature(function).parameters), parameters, name)

    def test_classes_are_defined_in_their_files(self):
        for module, classes in CLASSES.items():
            found = importlib.import_module('pieceswindow.' + module)
            for name, (parameters, methods) in classes.items():
                one = getattr(found, name)
                self.assertTrue(inspect.isclass(one), name)
                self.assertEqual(one.__module__, 'pieceswindow.' + module)
                self.assertEqual(list(inspect.signature(one).parameters), parameters, name)
                for method, told in methods.items():
                    self.assertEqual(list(inspect.signature(getattr(one, method)).parameters), told, method)

    def test_parameters_by_name_only(self):
        of = inspect.signature(importlib.import_module('pieceswindow.bookclasses').Book.of).parameters
        only = {name: each.default for name, each in of.items() if each.kind == inspect.Parameter.KEYWORD_ONLY}
        self.assertEqual(only, {'b': None, 'n': 2, 'copies': 1, 'numbers': 1, 'pause': None, 'd': 0, 'wait': 0,
                                'memory': 0, 'room': 1, 'drop': 'eldest'})


if __name__ == '__main__':
    unittest.main()
