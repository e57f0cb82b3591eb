"""Runs all tests, each suite in a process of its own, and tells how many passed and failed."""

import glob
import os
import pathlib
import re
import subprocess
import sys

TOP = pathlib.Path(__file__).resolve().parent.parent
SHARED = TOP.parent / "shared" / "tests"
WANTED = ("3.11", "3.13")
# How unittest ends, from Python 3.12 on, if a file holds no tests.
NO_TESTS = 5


def version_of(python):
    """The version of a Python, such as 3.11; None if it does not run."""
    told = "import sys; print('.'.join(map(str, sys.version_info[:2])))"
    try:
        done = subprocess.run([python, "-c", told], capture_output=True, text=True)
    except OSError:
        return None
    return done.stdout.strip() if done.returncode == 0 else None


def pythons():
    """The Python that runs this, and those of the wanted versions that are here, each version once."""
    found = {version_of(sys.executable): sys.executable}
    for wanted in WANTED:
        home = os.path.expanduser("~/.pyenv/versions")
        for python in [f"python{wanted}"] + sorted(glob.glob(f"{home}/{wanted}.*/bin/python{wanted}")):
            if wanted not in found and version_of(python) == wanted:
                found[wanted] = python
    return found


def suites():
    """The suites: what it is, where it runs, and the words behind python -m unittest."""
    found = [("tests of the project", TOP, ["discover", "-v", "-s", "tests", "-t", "."])]
    for path in sorted(SHARED.rglob("test_*.py")) if SHARED.is_dir() else []:
        found.append((f"shared: {path.relative_to(SHARED)}", path.parent, ["-v", path.stem]))
    return found


def run(python, folder, words):
    """Runs a suite; returns how many tests passed and failed. Ending badly counts as one that failed."""
    around = dict(os.environ, PYTHONPATH=str(TOP))
    done = subprocess.run([python, "-m", "unittest"] + words, cwd=folder, env=around, text=True,
                          stdout=subprocess.PIPE, stderr=subprocess.STDOUT)
    print(done.stdout, flush=True)
    ran = sum(int(many) for many in re.findall(r"^Ran (\d+) tests? in", done.stdout, re.MULTILINE))
    bad = re.findall(r"(?:failures|errors|unexpected successes)=(\d+)", done.stdout.rstrip().rpartition("\n")[2])
    failed = sum(int(many) for many in bad)
    if failed == 0 and done.returncode not in (0, NO_TESTS):
        failed = 1
    return max(0, ran - failed), failed


def main():
    passed, failed = 0, 0
    for version, python in pythons().items():
        for what, folder, words in suites():
            print(f"== Python {version}, {what}", flush=True)
            good, bad = run(python, folder, words)
            print(f"== {good} of {good + bad} passed", flush=True)
            passed, failed = passed + good, failed + bad
    print(f"{passed} passed, {failed} failed", flush=True)
    return 1 if failed or not passed else 0


if __name__ == "__main__":
    sys.exit(main())
