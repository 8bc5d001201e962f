"""Runs all tests: those beside this file, and those under ../shared/tests where there are some.

The last line that it prints is "N passed, N failed"; it fails if a test fails or none is found.
"""

import sys
import unittest
from pathlib import Path

ROOT = Path(__file__).resolve().parent.parent
SHARED = ROOT.parent / "shared" / "tests"


def all_tests():
    suite = unittest.TestSuite()
    suite.addTests(unittest.TestLoader().discover(str(ROOT / "tests"), top_level_dir=str(ROOT)))
    if SHARED.is_dir() and any(SHARED.glob("test_*.py")):
        suite.addTests(unittest.TestLoader().discover(str(SHARED), top_level_dir=str(SHARED)))
    return suite


def main():
    sys.path.insert(0, str(ROOT))
    result = unittest.TextTestRunner(stream=sys.stdout, verbosity=1).run(all_tests())
    failed = len(result.failures) + len(result.errors) + len(result.unexpectedSuccesses)
    skipped = len(result.skipped)
    passed = result.testsRun - failed - skipped
    print(f"Python {sys.version.split()[0]}, {result.testsRun} tests")
    print(f"{passed} passed, {failed} failed" + (f", {skipped} skipped" if skipped else ""))
    sys.stdout.flush()
    return 1 if failed or passed == 0 else 0


if __name__ == "__main__":
    sys.exit(main())
