import importlib
import inspect
import unittest

# What the document lists: each function under its file, with its parameters.
FUNCTIONS = {
    'kinds': {name: ['thing'] for name in (
        'is_integer', 'is_number', 'is_sender', 'is_road', 'is_hearer', 'is_book', 'is_harm', 'is_cause')},
    'bookchecker': {'lets_book': ['thing']},
    'bookparts': {**{name: ['book'] for name in (
        'paces_of', 'parts_of', 'copies_of', 'numbers_of', 'pause_of', 'span_of', 'wait_of', 'memory_of', 'room_of',
        'drop_of', 'reach_of')}, 'next_number': ['book', 'm']},
    'bookchanges': {
        'with_paces': ['book', 'a', 'b'], 'with_parts': ['book', 'n'], 'with_copies': ['book', 'copies'],
        'with_numbers': ['book', 'numbers'], 'with_pause': ['book', 'pause'], 'with_road': ['book', 'd', 'late'],
        'with_wait': ['book', 'wait'], 'with_memory': ['book', 'memory'], 'with_room': ['book', 'room'],
        'with_drop': ['book', 'drop'], 'with_mark': ['book', 'e'], 'with_ways': ['book', 'ways']},
    'booktexts': {'book_text': ['book']},
    'bookreadings': {'book_read': ['text']},
    'forms': {'crowd_of': ['book'], 'can_be': ['book', 'harm'], 'harms_that_can': ['book'], 'causes_of': ['book'],
              'is_harmless': ['book']},
    'alike': {'are_alike': ['book', 'other'], 'parting_hearer': ['book', 'other'], 'same_roads': ['book', 'other']},
    'drops': {'room_by': ['book', 'drop'], 'drops_order': ['book']},
    'liveevents': {'is_event': ['thing']},
    'replaying': {'is_log': ['thing'], 'replayed': ['log']},
    'eventreadings': {'read_event': ['text'], 'read_log': ['lines']},
    'eventtexts': {'event_line': ['event'], 'log_lines': ['log']},
    'runchecker': {'lets_run': ['book', 'thing']},
    'hearing': {name: ['book', 'run'] for name in ('showings_of', 'fates_of', 'open_of', 'remembered_of')},
    'harms': {'harms_of': ['book', 'run'], 'missed_texts': ['book', 'run'], 'shown_texts': ['book', 'run'],
              'causes_in': ['book', 'run', 'text']},
    'harmchecker': {'lets_harm': ['book', 'harm', 'thing']},
    'harmruns': {'harm_run': ['book', 'harm'], 'cause_run': ['book', 'cause']},
    'harmpapers': {'harm_paper': ['book', 'harm']},
    'leasts': {name: ['book'] for name in (
        'least_numbers', 'least_wait', 'greatest_wait', 'least_memory', 'greatest_memory', 'least_room',
        'least_pause')},
    'meanings': {'meanings_of': ['sender', 'road', 'number', 'gap', 'late_number'],
                 'sure_numbers': ['sender', 'road', 'gap']},
    'runchanges': {'shifted': ['book', 'run', 'by'], 'without_arrival': ['book', 'run', 'k'],
                   'joined_runs': ['book', 'run', 'late']},
    'settings': {name: ['sender', 'road', 'room', 'drop'] for name in ('harmless_settings', 'narrowest')},
    'tellback': {'spans': ['sender', 'road', 'heard']},
    'spanpapers': {'span_paper': ['sender', 'road', 'heard']},
    'spanchecker': {'lets_spans': ['sender', 'road', 'heard', 'thing']},
}

# Its classes: the parameters of the class, and those of its plain methods.
CLASSES = {
    'bookclasses': {
        'Book': (['sender', 'road', 'hearer'], {
            'but': ['self', 'more'], 'read': ['text'],
            'of': ['a', 'late', 'b', 'n', 'copies', 'numbers', 'pause', 'd', 'wait', 'memory', 'room', 'drop']}),
        'Plain': (['a', 'late', 'n'], {})},
    'live': {
        'LiveHearer': (['book'], {
            'begin': ['self', 'moment', 'number'], 'hear': ['self', 'moment', 'text', 'part'],
            'set_hearer': ['self', 'wait', 'memory', 'room', 'drop'], 'go': ['self', 'event'],
            'barred': ['self', 'event'], 'tried': ['self', 'events'], 'undo': ['self'],
            'do_all': ['self', 'events', 'keep'], 'tally': ['self'], 'next_begins': ['self'],
            'heard_between': ['self', 'text'], 'table': ['self'], 'log': ['self']})},
    'desk': {'Desk': (['book'], {'say': ['self', 'row'], 'tally': ['self']})},
    'outlooks': {
        'Outlook': (['book'], {'papers': ['self'], 'with_hearer': ['self', 'wait', 'memory', 'room', 'drop'],
                               'lies_in': ['self', 'other']})},
    'runclasses': {
        'Run': (['book', 'begins', 'arrivals'], {'later': ['self', 'by'], 'then': ['self', 'late'],
                                                 'of': ['book', 'run']})},
}

# Its properties, and what is written with signs; all stand in the class itself.
SIGNS = {
    'bookclasses': {
        'Book': (['sender', 'road', 'hearer', 'form', 'reach'],
                 ['__getitem__', '__contains__', '__call__', '__str__', '__eq__', '__mul__', '__mod__', '__or__']),
        'Plain': (['given'], [])},
    'live': {
        'LiveHearer': (['book_now', 'run_now', 'open_now', 'remembered_now', 'showings_now', 'missed_now', 'harms_now'],
                       ['__getitem__', '__contains__', '__len__', '__iter__', '__eq__', '__str__', '__iadd__'])},
    'outlooks': {
        'Outlook': (['book_now', 'harms_now', 'causes_now', 'crowd_now'],
                    ['__getitem__', '__contains__', '__len__', '__iter__', '__bool__', '__str__', '__eq__'])},
    'runclasses': {
        'Run': (['book_now', 'begins_now', 'arrivals_now', 'run_now', 'showings_now', 'harms_now', 'missed_now'],
                ['__getitem__', '__contains__', '__len__', '__bool__', '__eq__', '__add__', '__sub__'])},
}


class TestInterface(unittest.TestCase):

    def test_functions_are_defined_in_their_files(self):
        for module, functions in FUNCTIONS.items():
            found = importlib.import_module('pieceswindow.' + module)
            for name, parameters in functions.items():
                function = getattr(found, name)
                self.assertTrue(inspect.isfunction(function), name)
                self.assertEqual(function.__module__, 'pieceswindow.' + module)
                self.assertEqual(list(inspect.signature(function).parameters), parameters, name)

    def test_classes_are_defined_in_their_files(self):
        for module, classes in CLASSES.items():
            found = importlib.import_module('pieceswindow.' + module)
            for name, (parameters, methods) in classes.items():
                one = getattr(found, name)
                self.assertTrue(inspect.isclass(one), name)
                self.assertEqual(one.__module__, 'pieceswindow.' + module)
                self.assertEqual(list(inspect.signature(one).parameters), parameters, name)
                for method, told in methods.items():
                    self.assertIn(method, vars(one))
                    self.assertEqual(list(inspect.signature(getattr(one, method)).parameters), told, method)

    def test_properties_and_signs_are_defined_in_the_class_itself(self):
        for module, classes in SIGNS.items():
            found = importlib.import_module('pieceswindow.' + module)
            for name, (properties, signs) in classes.items():
                own = vars(getattr(found, name))
                for each in properties:
                    self.assertIsInstance(own[each], property)
                for each in signs:
                    self.assertTrue(inspect.isfunction(own[each]), each)

    def test_class_value(self):
        own = vars(importlib.import_module('pieceswindow.live').LiveHearer)
        self.assertEqual((own['MOST'], type(own['MOST'])), (40, int))

    def test_parameters_by_name_only(self):
        of = inspect.signature(importlib.import_module('pieceswindow.bookclasses').Book.of).parameters
        only = {name: each.default for name, each in of.items() if each.kind == inspect.Parameter.KEYWORD_ONLY}
        self.assertEqual(only, {'b': None, 'n': 2, 'copies': 1, 'numbers': 1, 'pause': None, 'd': 0, 'wait': 0,
                                'memory': 0, 'room': 1, 'drop': 'eldest'})
        do_all = inspect.signature(importlib.import_module('pieceswindow.live').LiveHearer.do_all).parameters
        self.assertEqual(do_all['events'].kind, inspect.Parameter.VAR_POSITIONAL)
        self.assertEqual((do_all['keep'].kind, do_all['keep'].default), (inspect.Parameter.KEYWORD_ONLY, False))
        tried = inspect.signature(importlib.import_module('pieceswindow.live').LiveHearer.tried).parameters
        self.assertEqual(tried['events'].kind, inspect.Parameter.VAR_POSITIONAL)
        with_hearer = inspect.signature(importlib.import_module('pieceswindow.outlooks').Outlook.with_hearer).parameters
        only = {name: each.default for name, each in with_hearer.items() if each.kind == inspect.Parameter.KEYWORD_ONLY}
        self.assertEqual(only, {'wait': None, 'memory': None, 'room': None, 'drop': None})
        settings = importlib.import_module('pieceswindow.settings')
        for function in (settings.harmless_settings, settings.narrowest):
            for name, each in inspect.signature(function).parameters.items():
                self.assertEqual((each.kind == inspect.Parameter.KEYWORD_ONLY, each.default),
                                 (name in ('room', 'drop'), inspect.Parameter.empty))

    def test_static_and_class_methods(self):
        book = vars(importlib.import_module('pieceswindow.bookclasses').Book)
        self.assertEqual((type(book['read']), type(book['of'])), (classmethod, staticmethod))
        run = vars(importlib.import_module('pieceswindow.runclasses').Run)
        self.assertIs(type(run['of']), staticmethod)


if __name__ == '__main__':
    unittest.main()
