"""Runs the tests of tests/ and of ../shared/tests, each folder in a process of its own, on every Python at hand."""

import glob
import os
import pathlib
import re
import subprocess
import sys

ROOT = pathlib.Path(__file__).resolve().parent.parent
SHARED = ROOT.parent / "shared" / "tests"


def is_version(python, version):
    """Whether that command is there and is a Python of that version."""
    try:
        done = subprocess.run([python, "--version"], capture_output=True, text=True, check=False)
    except OSError:
        return False
    return done.returncode == 0 and done.stdout.startswith(f"Python {version}.")


def pythons():
    """This Python, and the other one that the program must mean the same under, if it is at hand."""
    found = [sys.executable]
    for version in ("3.11", "3.13"):
        if sys.version.startswith(f"{version}."):
            continue
        kept = os.path.expanduser(f"~/.pyenv/versions/{version}.*/bin/python3")
        places = [f"python{version}"] + sorted(glob.glob(kept))
        others = [place for place in places if is_version(place, version)]
        if others:
            found.append(others[0])
        else:
            print(f"no Python {version} at hand: not run under it", flush=True)
    return found


def folders():
    """Each folder of tests with its top folder; a folder below ../shared/tests stands by itself."""
    found = [(ROOT / "tests", ROOT)]
    shared = sorted({path.parent for path in SHARED.rglob("test_*.py")})
    if not shared:
        print(f"no tests under {SHARED}", flush=True)
    return found + [(folder, folder) for folder in shared]


def run(python, folder, top):
    """How many tests of the folder passed, and how many failed."""
    command = [python, "-m", "unittest", "discover", "-s", str(folder), "-t", str(top), "-p", "test_*.py"]
    print(" ".join(command), flush=True)
    env = dict(os.environ, PYTHONPATH=str(ROOT))
    done = subprocess.run(command, cwd=ROOT, env=env, stderr=subprocess.PIPE, text=True, check=False)
    print(done.stderr, flush=True)
    ran = sum(int(number) for number in re.findall(r"^Ran (\d+) tests? in ", done.stderr, re.MULTILINE))
    if done.returncode == 0 and ran > 0:
        return ran, 0
    # A folder whose tests are not found, or that breaks off, must not pass for one whose tests all passed.
    last = done.stderr.strip().split("\n")[-1]
    failed = max(1, sum(int(number) for number in re.findall(r"=(\d+)", last)))
    return max(0, ran - failed), failed


def main():
    results = [run(python, folder, top) for python in pythons() for folder, top in folders()]
    passed = sum(result[0] for result in results)
    failed = sum(result[1] for result in results)
    print(f"{passed} passed, {failed} failed", flush=True)
    return 1 if failed else 0


if __name__ == "__main__":
    sys.exit(main())
