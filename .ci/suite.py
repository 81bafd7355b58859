"""Run every test of the project and of ../shared/tests, and close with a line of the counts.

With the path of one test file as its argument it runs this file alone and prints its two counts.
Each file has a process of its own, so that files of the same name do not get in each other's way.
"""

import os
import pathlib
import subprocess
import sys
import unittest

ROOT = pathlib.Path(__file__).resolve().parent.parent
FOLDERS = (ROOT / "tests", ROOT.parent / "shared" / "tests")


def run_file(path):
    """Run one file as `python3 -m unittest` does in its folder."""
    sys.path[:0] = [str(path.parent), str(ROOT)]
    suite = unittest.defaultTestLoader.loadTestsFromName(path.stem)
    result = unittest.TextTestRunner(stream=sys.stderr).run(suite)
    # A class whose setup fails is no test that has run, so it counts on top of those.
    failed = len(result.failures) + len(result.errors) + len(result.unexpectedSuccesses)
    passed = max(result.testsRun - failed - len(result.skipped), 0)
    print(f"counts {passed} {max(failed, 0 if result.wasSuccessful() else 1)}")


def counts_of(path):
    """The numbers of passed and failed tests of a file; a file that breaks down is one failure."""
    env = {**os.environ, "PYTHONPATH": str(ROOT), "PYTHONDONTWRITEBYTECODE": "1"}
    done = subprocess.run([sys.executable, __file__, str(path)], cwd=ROOT, env=env, stdout=subprocess.PIPE, text=True)
    words = done.stdout.split("\n")[-2:][0].split()
    if done.returncode != 0 or len(words) != 3 or words[0] != "counts":
        return 0, 1
    return int(words[1]), int(words[2])


def run_all():
    """Run all files; the exit code is 0 if there are tests and all of them passed."""
    passed = failed = 0
    for folder in FOLDERS:
        for path in sorted(folder.rglob("test_*.py")):
            print(f"== {path}", file=sys.stderr, flush=True)
            good, bad = counts_of(path)
            passed, failed = passed + good, failed + bad
    print(f"{passed} passed, {failed} failed", flush=True)
    return 0 if passed and not failed else 1


if __name__ == "__main__":
    if len(sys.argv) > 1:
        run_file(pathlib.Path(sys.argv[1]).resolve())
    else:
        sys.exit(run_all())
