"""Runs the tests of one folder: run_tests.py NAME FOLDER. Exits with 1 if one fails, or if there is none."""

import sys
import unittest


def main(name, folder):
    suite = unittest.TestLoader().discover(folder, pattern="test_*.py", top_level_dir=folder)
    result = unittest.TextTestRunner(stream=sys.stdout).run(suite)
    bad = result.failures + result.errors + [(case, "") for case in result.unexpectedSuccesses]
    # A failed subtest is told on its own beside its test, so a test is counted once by its name.
    failed = len({getattr(case, "test_case", case).id() for case, _ in bad})
    print(f"{name}: {max(0, result.testsRun - failed)} passed, {failed} failed", flush=True)
    return 0 if result.wasSuccessful() and result.testsRun > 0 else 1


if __name__ == "__main__":
    sys.exit(main(sys.argv[1], sys.argv[2]))
