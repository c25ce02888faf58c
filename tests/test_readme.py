import doctest
import os
import unittest

README = os.path.join(os.path.dirname(os.path.dirname(os.path.abspath(__file__))), 'README.md')


class TestReadme(unittest.TestCase):

    def test_examples(self):
        found = doctest.testfile(README, module_relative=False, encoding='utf-8')
        self.assertEqual(found.failed, 0)
        self.assertGreater(found.attempted, 20)


if __name__ == '__main__':
    unittest.main()
