"""Runs the tests of the project, and those under ../shared/tests, each folder in a process of
its own; the last line tells how many passed and failed. Exits with 1 if one failed or none ran.
"""

import os
import subprocess
import sys
import unittest

HOME = os.path.dirname(os.path.dirname(os.path.abspath(__file__)))
OWN = os.path.join(HOME, "tests")
SHARED = os.path.join(os.path.dirname(HOME), "shared", "tests")


def folders_with_tests(top):
    """The folders below top that hold a file test_*.py."""
    for folder, _, names in sorted(os.walk(top)):
        if any(name.startswith("test_") and name.endswith(".py") for name in names):
            yield folder


def run_folder(folder):
    """Runs the files test_*.py of one folder; prints how many tests were run, and failed."""
    sys.path.insert(0, HOME)
    sys.path.insert(0, folder)
    names = [name[:-3] for name in sorted(os.listdir(folder)) if name.startswith("test_") and name.endswith(".py")]
    suite = unittest.defaultTestLoader.loadTestsFromNames(names)
    result = unittest.TextTestRunner(stream=sys.stderr).run(suite)
    failed = len(result.failures) + len(result.errors) + len(result.unexpectedSuccesses)
    print(f"counted {result.testsRun} {failed} {len(result.skipped)}")


def run_apart(folder):
    """How many tests of a folder were run and failed, in a new process."""
    command = [sys.executable, os.path.abspath(__file__), folder]
    done = subprocess.run(command, cwd=HOME, stdout=subprocess.PIPE, text=True)
    lines = [line.split() for line in done.stdout.splitlines() if line.startswith("counted ")]
    if done.returncode != 0 or not lines:
        print(f"the tests in {folder} did not come to their end")
        return 1, 1
    many, failed, skipped = (int(word) for word in lines[-1][1:])
    if many - skipped == 0:
        print(f"no test was run in {folder}")
        return 1, 1
    return many - skipped, failed


def main():
    if len(sys.argv) > 1:
        run_folder(sys.argv[1])
        return
    many = failed = 0
    folders = list(folders_with_tests(OWN))
    if not folders:
        sys.exit("the project has no tests")
    for folder in folders + list(folders_with_tests(SHARED)):
        print(f"-- {folder}", flush=True)
        run, wrong = run_apart(folder)
        many += run
        failed += wrong
    print(f"{many - failed} passed, {failed} failed")
    sys.exit(1 if failed or not many else 0)


main()
