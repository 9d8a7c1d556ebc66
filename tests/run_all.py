"""Runs every test of the project, and those of a folder named behind it, and says how many passed."""

import os
import sys
import unittest

ROOT = os.path.dirname(os.path.dirname(os.path.abspath(__file__)))


def holds_tests(folder):
    if not os.path.isdir(folder):
        return False
    return any(name.startswith("test_") and name.endswith(".py") for name in os.listdir(folder))


def main(folders):
    sys.path.insert(0, ROOT)
    suite = unittest.TestSuite()
    suite.addTests(unittest.defaultTestLoader.discover(os.path.join(ROOT, "tests"), top_level_dir=ROOT))
    for folder in folders:
        if holds_tests(folder):
            suite.addTests(unittest.TestLoader().discover(folder, top_level_dir=folder))
    result = unittest.TextTestRunner(stream=sys.stdout, verbosity=1).run(suite)
    failed = len(result.failures) + len(result.errors) + len(result.unexpectedSuccesses)
    print(f"{result.testsRun - failed} passed, {failed} failed")
    return 0 if result.wasSuccessful() and result.testsRun > 0 else 1


if __name__ == "__main__":
    sys.exit(main([os.path.abspath(folder) for folder in sys.argv[1:]]))
