"""Runs the project's tests and those under ../shared/tests, and tells how many ran."""

import os
import re
import subprocess
import sys
from pathlib import Path

PROJECT = Path(__file__).resolve().parent.parent
OWN = PROJECT / "tests"
SHARED = PROJECT.parent / "shared" / "tests"


def folders_of_tests(top):
    """All folders from top on that hold a file of tests."""
    return sorted({path.parent for path in top.rglob("test_*.py")}) if top.is_dir() else []


def count_of(pattern, printed):
    """The last number that stands so in what was printed, 0 if there is none."""
    found = re.findall(pattern, printed, re.MULTILINE)
    return int(found[-1]) if found else 0


def run_folder(folder):
    """(passed, failed, skipped) of a folder's tests."""
    # A process for each folder: files of the same name in two folders don't meet.
    ended = subprocess.run(
        [sys.executable, "-m", "unittest", "discover", "-s", str(folder), "-t", str(folder)],
        cwd=PROJECT,
        env={**os.environ, "PYTHONPATH": str(PROJECT), "PYTHONDONTWRITEBYTECODE": "1"},
        stdin=subprocess.DEVNULL,
        stdout=subprocess.PIPE,
        stderr=subprocess.STDOUT,
        text=True,
    )
    print(f"Tests in {folder}:\n{ended.stdout}", flush=True)
    ran = count_of(r"^Ran (\d+) tests? in ", ended.stdout)
    skipped = count_of(r"^(?:OK|FAILED) \(.*\bskipped=(\d+)", ended.stdout)
    failed = count_of(r"^FAILED \(.*\bfailures=(\d+)", ended.stdout)
    failed += count_of(r"^FAILED \(.*\berrors=(\d+)", ended.stdout)
    # Newer Pythons end with 5 where a folder's files hold no test at all.
    if ended.returncode not in ((0,) if ran else (0, 5)):
        failed = max(1, failed)
    return max(0, ran - failed - skipped), failed, skipped


def main():
    own = [run_folder(folder) for folder in folders_of_tests(OWN)]
    shared = [run_folder(folder) for folder in folders_of_tests(SHARED)]
    passed, failed, skipped = [sum(counts) for counts in zip((0, 0, 0), *own, *shared)]
    print(f"{passed + failed + skipped} tests ran")
    print(f"{passed} passed, {failed} failed, {skipped} skipped")
    if failed or not sum(counts[0] for counts in own):
        sys.exit(1)


if __name__ == "__main__":
    main()
