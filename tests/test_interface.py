"""The eleven calls are there with their names and the order of their parameters; the package reads and prints nothing."""

import inspect
import os
import subprocess
import sys
import unittest
from pathlib import Path

from gutfrets import instruments

ROOT = Path(__file__).resolve().parent.parent
PARAMETERS = {
    "judge": ["t"],
    "sizes": ["t"],
    "lies": ["f", "t"],
    "sound": ["c", "f", "t"],
    "order": ["c", "f", "d", "g", "t"],
    "find": ["octaves", "t", "x"],
    "near": ["t", "x"],
    "pairs": ["t", "x"],
    "tune": ["c", "f", "d", "g", "o", "t"],
    "tie": ["f", "t", "x"],
    "raise_by": ["t", "x"],
}


class InterfaceTest(unittest.TestCase):
    def test_the_calls(self):
        for name, parameters in PARAMETERS.items():
            call = vars(instruments)[name]
            self.assertEqual(list(inspect.signature(call).parameters), parameters, name)
            self.assertEqual(call.__module__, "gutfrets.instruments", name)

    def test_no_other_calls(self):
        own = [name for name, value in vars(instruments).items()
               if inspect.isfunction(value) and value.__module__ == "gutfrets.instruments"]
        self.assertEqual(sorted(own), sorted(PARAMETERS))

    def test_importing_prints_nothing(self):
        environment = dict(os.environ, PYTHONDONTWRITEBYTECODE="1")
        command = [sys.executable, "-c", "import gutfrets.instruments"]
        done = subprocess.run(command, cwd=ROOT, env=environment, capture_output=True, stdin=subprocess.DEVNULL)
        self.assertEqual((done.returncode, done.stdout, done.stderr), (0, b"", b""))


if __name__ == "__main__":
    unittest.main()
