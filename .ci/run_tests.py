"""Runs the test files of one folder; fails if a test fails or if there is none."""

import os
import sys
import unittest


def main():
    folder = sys.argv[1]
    here = os.getcwd()
    sys.path.insert(0, here)
    # The project's tests are a package; other test files are imported by their bare names.
    top = here if os.path.exists(os.path.join(folder, "__init__.py")) and folder == "tests" else folder
    suite = unittest.defaultTestLoader.discover(folder, pattern="test_*.py", top_level_dir=top)
    result = unittest.TextTestRunner(verbosity=1).run(suite)
    bad = len(result.failures) + len(result.errors) + len(result.unexpectedSuccesses)
    good = result.testsRun - bad - len(result.skipped)
    print(f"{good} passed, {bad} failed", flush=True)
    if not result.wasSuccessful() or result.testsRun == 0:
        sys.exit(1)


main()
