"""Runs the tests of the project, and those under ../shared/tests, each file in a process of its
own, several at a time; the last line tells how many passed and failed. Exits with 1 if one
failed, or if none was run in a folder that holds such files.
"""

import os
import subprocess
import sys
import unittest
from concurrent.futures import ThreadPoolExecutor

HOME = os.path.dirname(os.path.dirname(os.path.abspath(__file__)))
OWN = os.path.join(HOME, "tests")
SHARED = os.path.join(os.path.dirname(HOME), "shared", "tests")


def files_with_tests(top):
    """The folders below top that hold files test_*.py, each with the names of these modules."""
    found = {}
    for folder, _, names in sorted(os.walk(top)):
        modules = [name[:-3] for name in sorted(names) if name.startswith("test_") and name.endswith(".py")]
        if modules:
            found[folder] = modules
    return found


def run_file(folder, module):
    """Runs one file; prints how many tests were run, failed, and were left out."""
    sys.path.insert(0, HOME)
    sys.path.insert(0, folder)
    suite = unittest.defaultTestLoader.loadTestsFromNames([module])
    result = unittest.TextTestRunner(stream=sys.stdout).run(suite)
    failed = len(result.failures) + len(result.errors) + len(result.unexpectedSuccesses)
    print(f"counted {result.testsRun} {failed} {len(result.skipped)}")


def run_apart(file):
    """How many tests of a file were run and failed, in a new process, and what it printed."""
    folder, module = file
    command = [sys.executable, os.path.abspath(__file__), folder, module]
    done = subprocess.run(command, cwd=HOME, stdout=subprocess.PIPE, stderr=subprocess.STDOUT, text=True)
    lines = [line.split() for line in done.stdout.splitlines() if line.startswith("counted ")]
    if done.returncode != 0 or not lines:
        return 1, 1, done.stdout + f"{module} did not come to its end\n"
    many, failed, skipped = (int(word) for word in lines[-1][1:])
    return many - skipped, failed, done.stdout


def run_folder(folder, modules):
    """How many tests of a folder were run and failed."""
    print(f"-- {folder}", flush=True)
    many = failed = 0
    with ThreadPoolExecutor(os.cpu_count() or 1) as pool:
        files = [(folder, module) for module in modules]
        for module, (run, wrong, printed) in zip(modules, pool.map(run_apart, files)):
            print(f"{module}: {run} run, {wrong} failed", flush=True)
            if wrong:
                print(printed, flush=True)
            many += run
            failed += wrong
    if many == 0:
        print(f"no test was run in {folder}")
        return 1, 1
    return many, failed


def main():
    if len(sys.argv) > 1:
        run_file(sys.argv[1], sys.argv[2])
        return
    folders = files_with_tests(OWN)
    if not folders:
        sys.exit("the project has no tests")
    folders.update(files_with_tests(SHARED))
    many = failed = 0
    for folder, modules in folders.items():
        run, wrong = run_folder(folder, modules)
        many += run
        failed += wrong
    print(f"{many - failed} passed, {failed} failed")
    sys.exit(1 if failed or not many else 0)


main()
