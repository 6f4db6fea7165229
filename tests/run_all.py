"""Runs the tests of a folder, and ends with a line that counts them: python3 tests/run_all.py FOLDER NAME."""

import os
import sys
import unittest

ROOT = os.path.dirname(os.path.dirname(os.path.abspath(__file__)))


def main():
    folder, name = sys.argv[1:]
    sys.path.insert(0, ROOT)
    loader = unittest.TestLoader()
    suite = loader.discover(folder, pattern="test_*.py", top_level_dir=folder)
    result = unittest.TextTestRunner(stream=sys.stdout, verbosity=1).run(suite)
    failed = len({str(test) for test, _ in result.failures + result.errors}) + len(result.unexpectedSuccesses)
    passed = max(result.testsRun - failed - len(result.skipped), 0)
    print(f"{name}: {passed} passed, {failed} failed, {len(result.skipped)} skipped", flush=True)
    sys.exit(0 if result.wasSuccessful() and result.testsRun > 0 else 1)


if __name__ == "__main__":
    main()
