"""Runs all tests in the files test_*.py of some folders and tells how many ran.

Each file has a process of its own, as files of different folders may have the same name.
"""

import os
import subprocess
import sys
import unittest

ROOT = os.path.dirname(os.path.dirname(os.path.abspath(__file__)))


def test_files(folder):
    """The paths of all test files in the folder and below it, none if there is no folder."""
    found = []
    for path, _, names in os.walk(folder):
        found += [os.path.join(path, name) for name in names if name.startswith("test_") and name.endswith(".py")]
    return sorted(found)


def run_file(path):
    """Runs one file in this process; the last line printed is what main reads."""
    folder, name = os.path.split(os.path.abspath(path))
    sys.path[:0] = [ROOT, folder]
    suite = unittest.defaultTestLoader.loadTestsFromName(name[:-len(".py")])
    result = unittest.TextTestRunner(stream=sys.stdout).run(suite)
    skipped = len(result.skipped)
    failed = 0 if result.wasSuccessful() else max(1, len(result.failures) + len(result.errors))
    print(max(0, result.testsRun - skipped - failed), failed, skipped)


def counts_of(path):
    """The numbers of passed, failed and skipped tests of a file."""
    done = subprocess.run([sys.executable, os.path.abspath(__file__), "--file", path], stdin=subprocess.DEVNULL,
                          stdout=subprocess.PIPE, stderr=subprocess.STDOUT, text=True, cwd=ROOT)
    *told, last = done.stdout.splitlines() or [""]
    print("== " + os.path.relpath(path, ROOT))
    print("\n".join(told))
    numbers = last.split()
    if done.returncode != 0 or len(numbers) != 3 or not all(number.isdigit() for number in numbers):
        print(last)
        return [0, 1, 0]
    return [int(number) for number in numbers]


def main(folders):
    files = [path for folder in folders for path in test_files(os.path.join(ROOT, folder))]
    totals = [0, 0, 0]
    for path in files:
        totals = [total + number for total, number in zip(totals, counts_of(path))]
    passed, failed, skipped = totals
    print("ran " + str(passed + failed) + " tests of " + str(len(files)) + " files")
    print(str(passed) + " passed, " + str(failed) + " failed, " + str(skipped) + " skipped")
    sys.exit(1 if failed or not passed else 0)


if __name__ == "__main__":
    if sys.argv[1:2] == ["--file"]:
        run_file(sys.argv[2])
    else:
        main(sys.argv[1:])
