"""Run all tests of one folder: python3 tests/run_all.py FOLDER."""

import pathlib
import sys
import unittest

ROOT = pathlib.Path(__file__).resolve().parent.parent


def main(folder):
    """Run the tests, print how many passed, and return 0 if all did."""
    sys.path.insert(0, str(ROOT))
    place = str(pathlib.Path(folder).resolve())
    suite = unittest.TestLoader().discover(place, pattern="test_*.py", top_level_dir=place)
    result = unittest.TextTestRunner(verbosity=1).run(suite)
    faults = [test for test, _ in result.failures + result.errors] + result.unexpectedSuccesses
    failed = len({getattr(test, "test_case", test).id() for test in faults})
    sys.stderr.flush()
    print(f"{max(0, result.testsRun - failed)} passed, {failed} failed", flush=True)
    return 0 if result.testsRun > 0 and failed == 0 else 1


if __name__ == "__main__":
    sys.exit(main(sys.argv[1]))
