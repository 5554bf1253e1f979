"""Runs all tests: those beside this file, and those under ../shared/tests.

Each folder with tests has a process of its own, so that files of the same name do not meet.
"""

import os
import re
import subprocess
import sys

HERE = os.path.dirname(os.path.abspath(__file__))
TOP = os.path.dirname(HERE)
SHARED = os.path.join(os.path.dirname(TOP), "shared", "tests")


def is_test_file(name):
    return name.startswith("test_") and name.endswith(".py")


def folders_with_tests(root):
    """The folder and those within it that hold a test file."""
    return sorted(folder for folder, _, names in os.walk(root) if any(is_test_file(name) for name in names))


def count_of(word, output):
    found = re.search(word + r"=(\d+)", output)
    return int(found.group(1)) if found else 0


def run_folder(folder):
    """A tuple (passed, failed) of the tests that stand in the folder itself."""
    surroundings = dict(os.environ, PYTHONPATH=TOP, PYTHONDONTWRITEBYTECODE="1")
    command = [sys.executable, "-m", "unittest", "discover", "-s", folder, "-t", folder, "-p", "test_*.py"]
    done = subprocess.run(command, cwd=TOP, env=surroundings, stdout=subprocess.PIPE, stderr=subprocess.STDOUT, text=True)
    print(f"== {folder}\n{done.stdout}", flush=True)
    ran = re.search(r"^Ran (\d+) tests?", done.stdout, flags=re.M)
    many = int(ran.group(1)) if ran else 0
    last = done.stdout.rstrip().rsplit("\n", 1)[-1]
    failed = count_of("failures", last) + count_of("errors", last) + count_of("unexpected successes", last)
    # A folder with test files whose tests did not run has failed as well.
    if (done.returncode != 0 or many == 0) and failed == 0:
        failed = 1
    return max(0, many - failed), failed


def main():
    passed, failed = 0, 0
    for folder in folders_with_tests(HERE) + folders_with_tests(SHARED):
        good, bad = run_folder(folder)
        passed, failed = passed + good, failed + bad
    print(f"{passed} passed, {failed} failed")
    return 1 if failed or not passed else 0


if __name__ == "__main__":
    sys.exit(main())
