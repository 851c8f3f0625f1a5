"""Runs every file test_*.py below a folder, each as `python3 -m unittest` does.

python3 tests/run_all.py FOLDER [--may-be-none]

It ends with 1 where a test fails and, without --may-be-none, where there is no
such file or one holds no test.
"""

import os
import subprocess
import sys


def test_files(folder):
    """The paths of all files test_*.py below the folder, rising."""
    found = []
    for place, _, names in os.walk(folder):
        found += [os.path.join(place, name) for name in names
                  if name.startswith("test_") and name.endswith(".py")]
    return sorted(found)


def passes(path, may_be_none):
    """Whether the tests of one file pass; without any it passes only where there may be none."""
    place, name = os.path.split(path)
    # A process for each file: two files of one name must not stand in for each other.
    done = subprocess.run([sys.executable, "-m", "unittest", "discover",
                           "-s", place, "-t", place, "-p", name],
                          stderr=subprocess.PIPE, text=True, check=False)
    ran = [row for row in done.stderr.splitlines() if row.startswith("Ran ")]
    told = ran[-1] if ran else "Ran nothing"
    # Where no test ran, Python 3.11 ends with 0 and later ones with 5.
    none_ran = told.startswith("Ran 0 ") and done.returncode in (0, 5)
    good = may_be_none if none_ran else done.returncode == 0
    print(f"{'ok' if good else 'FAILED'}: {path}: {told}", flush=True)
    if not good:
        print(done.stderr, flush=True)
    return good


def main(folder, *more):
    may_be_none = "--may-be-none" in more
    paths = test_files(os.path.abspath(folder))
    if not paths and not may_be_none:
        print(f"FAILED: {folder} has no file test_*.py")
        return 1
    return 0 if all([passes(path, may_be_none) for path in paths]) else 1


if __name__ == "__main__":
    sys.exit(main(*sys.argv[1:]))
