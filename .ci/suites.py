"""Runs the tests beside the package and those under ../shared/tests, and counts them."""

import pathlib
import sys
import unittest

TOP = pathlib.Path(__file__).resolve().parent.parent
SHARED = TOP.parent / "shared" / "tests"


def shared_folders():
    """All folders under ../shared/tests that hold a test."""
    if not SHARED.is_dir():
        return []
    return sorted({path.parent for path in SHARED.rglob("test_*.py")})


def suites():
    """The tests of the project, then those of each shared folder."""
    found = [unittest.TestLoader().discover(str(TOP / "tests"), "test_*.py", str(TOP))]
    if found[0].countTestCases() == 0:
        sys.exit("no test of the project was found")
    for folder in shared_folders():
        found.append(unittest.TestLoader().discover(str(folder), "test_*.py", str(folder)))
    return found


def main():
    """Run all suites; a test counts as failed once, however many of its subtests fail."""
    sys.path.insert(0, str(TOP))
    passed, failed, skipped, clean = 0, 0, 0, True
    for suite in suites():
        result = unittest.TextTestRunner(stream=sys.stdout).run(suite)
        wrong = result.failures + result.errors + [(case, "") for case in result.unexpectedSuccesses]
        failing = len({case.id().split(" ")[0] for case, _ in wrong})
        failed += failing
        skipped += len(result.skipped)
        passed += max(0, result.testsRun - failing - len(result.skipped))
        clean = clean and result.wasSuccessful()
    print(f"{passed} passed, {failed} failed, {skipped} skipped")
    sys.exit(0 if clean else 1)


if __name__ == "__main__":
    main()
