"""Runs the tests in tests and in ../shared/tests, prints how many ran, and exits with 1 if one failed."""
import sys
import unittest
from pathlib import Path

ROOT = Path(__file__).resolve().parent.parent
SHARED = ROOT.parent / "shared" / "tests"


def shared_folders():
    """The folders at and below the shared tests that hold a test; none if there are no shared tests."""
    return sorted({path.parent for path in SHARED.glob("**/test_*.py")})


def all_tests():
    """The project's tests and then the shared ones, each folder by a loader of its own."""
    suite = unittest.TestSuite()
    suite.addTests(unittest.TestLoader().discover(str(ROOT / "tests"), top_level_dir=str(ROOT)))
    for folder in shared_folders():
        suite.addTests(unittest.TestLoader().discover(str(folder), top_level_dir=str(folder)))
    return suite


def failed_tests(result):
    """The names of the tests that failed, each once, whichever of its subtests failed."""
    wrong = [test for test, _ in result.failures + result.errors] + result.unexpectedSuccesses
    return {getattr(test, "test_case", test).id() for test in wrong}


def main():
    # The shared folder cannot be written to, and the checkout is to stay clean.
    sys.dont_write_bytecode = True
    sys.path.insert(0, str(ROOT))
    result = unittest.TextTestRunner(stream=sys.stdout, verbosity=1).run(all_tests())
    failed = len(failed_tests(result))
    passed = max(0, result.testsRun - failed - len(result.skipped))
    print(f"{passed} passed, {failed} failed, {len(result.skipped)} skipped", flush=True)
    sys.exit(0 if result.wasSuccessful() and passed > 0 else 1)


if __name__ == "__main__":
    main()
