"""Runs each test_*.py below the folders told, each by itself, and says how many tests passed and failed."""

import os
import re
import subprocess
import sys
from pathlib import Path

ROOT = Path(__file__).resolve().parent.parent


def run_file(path):
    """Runs one test file; answers how many of its tests passed and how many failed."""
    folder = str(path.parent)
    command = [sys.executable, "-m", "unittest", "discover", "-s", folder, "-t", folder, "-p", path.name]
    environment = dict(os.environ, PYTHONPATH=str(ROOT))
    done = subprocess.run(command, cwd=ROOT, env=environment, capture_output=True, text=True)
    print(f"== {path}\n{done.stdout}{done.stderr}", flush=True)
    ran = sum(int(number) for number in re.findall(r"^Ran (\d+) tests? in", done.stderr, re.MULTILINE))
    told = re.findall(r"(?:failures|errors|unexpected successes)=(\d+)", done.stderr)
    failed = sum(int(number) for number in told)
    passed = max(0, ran - failed)
    # A file that fails without a word, or in which nothing ran, counts as one test that failed.
    if failed == 0 and (done.returncode != 0 or ran == 0):
        failed = 1
    return passed, failed


def main(folders):
    """Runs all the tests below the folders; answers 0 if some ran and none failed."""
    passed = 0
    failed = 0
    for folder in folders:
        folder = (ROOT / folder).resolve()
        if not folder.is_dir():
            print(f"there is no folder {folder}")
            failed += 1
            continue
        for path in sorted(folder.rglob("test_*.py")):
            counts = run_file(path)
            passed += counts[0]
            failed += counts[1]
    print(f"{passed} passed, {failed} failed")
    return 0 if passed > 0 and failed == 0 else 1


if __name__ == "__main__":
    sys.exit(main(sys.argv[1:]))
