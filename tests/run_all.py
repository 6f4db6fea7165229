"""Runs the tests of a folder, and ends with a line that counts them: python3 tests/run_all.py FOLDER NAME.

The files are run side by side, as many at once as there are processors.
"""

import io
import os
import sys
import unittest
from concurrent.futures import ProcessPoolExecutor

ROOT = os.path.dirname(os.path.dirname(os.path.abspath(__file__)))


def run_file(folder, file):
    """What a file's run prints, how many tests ran, failed and were skipped, and whether all is well."""
    sys.path.insert(0, ROOT)
    suite = unittest.TestLoader().discover(folder, pattern=file, top_level_dir=folder)
    stream = io.StringIO()
    result = unittest.TextTestRunner(stream=stream, verbosity=1).run(suite)
    failed = len({str(test) for test, _ in result.failures + result.errors}) + len(result.unexpectedSuccesses)
    return file, stream.getvalue(), result.testsRun, failed, len(result.skipped), result.wasSuccessful()


def main():
    folder, name = sys.argv[1:]
    files = sorted(file for file in os.listdir(folder) if file.startswith("test_") and file.endswith(".py"))
    # The greatest files come first, as they run longest for the most part.
    files.sort(key=lambda file: -os.path.getsize(os.path.join(folder, file)))
    passed = many_failed = many_skipped = many_ran = 0
    is_well = True
    with ProcessPoolExecutor() as pool:
        for file, printed, ran, failed, skipped, is_good in pool.map(run_file, [folder] * len(files), files):
            print(f"{file}: {ran} run" + ("" if is_good else "\n" + printed), flush=True)
            passed += max(ran - failed - skipped, 0)
            many_failed += failed
            many_skipped += skipped
            many_ran += ran
            is_well = is_well and is_good
    print(f"{name}: {passed} passed, {many_failed} failed, {many_skipped} skipped", flush=True)
    sys.exit(0 if is_well and many_ran > 0 else 1)


if __name__ == "__main__":
    main()
