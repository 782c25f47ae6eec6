"""The script .ci/run itself: it runs what it must, and fails where something fails."""

import pathlib
import shutil
import subprocess
import tempfile
import unittest

RUN = pathlib.Path(__file__).resolve().parent.parent / ".ci" / "run"

PASSING = """
import unittest
from stampword.told import number
class Told(unittest.TestCase):
    def test_told(self):
        self.assertEqual(number, 7)
"""
FAILING = PASSING.replace("7", "8")
UNREADABLE = "import stampword.missing\n"
EMPTY = "import unittest\n"


class Run(unittest.TestCase):
    def run_with(self, own, shared):
        with tempfile.TemporaryDirectory() as folder:
            project = pathlib.Path(folder) / "main"
            (project / ".ci").mkdir(parents=True)
            shutil.copy(RUN, project / ".ci" / "run")
            (project / "stampword").mkdir()
            (project / "stampword" / "__init__.py").write_text("")
            (project / "stampword" / "told.py").write_text("number = 7\n")
            self.lay(project / "tests", own)
            self.lay(pathlib.Path(folder) / "shared" / "tests", shared)
            done = subprocess.run(["bash", str(project / ".ci" / "run")], cwd=folder,
                                  stdin=subprocess.DEVNULL, capture_output=True, text=True)
            return done.returncode

    def lay(self, folder, files):
        if files is None:
            return
        folder.mkdir(parents=True)
        for path, text in files.items():
            (folder / path).parent.mkdir(parents=True, exist_ok=True)
            (folder / path).write_text(text)

    def test_passes_where_all_pass(self):
        own = {"test_one.py": PASSING}
        self.assertEqual(self.run_with(own, {}), 0)
        self.assertEqual(self.run_with(own, {"README.md": "Tests.", "test_one.py": PASSING}), 0)

    def test_fails_with_a_failing_test_of_the_project(self):
        self.assertNotEqual(self.run_with({"test_one.py": FAILING, "test_two.py": PASSING}, {}), 0)
        self.assertNotEqual(self.run_with({"test_one.py": PASSING, "test_two.py": UNREADABLE}, {}), 0)

    def test_fails_with_a_failing_shared_test(self):
        own = {"test_one.py": PASSING}
        self.assertNotEqual(self.run_with(own, {"test_one.py": FAILING, "test_two.py": PASSING}), 0)
        self.assertNotEqual(self.run_with(own, {"test_one.py": UNREADABLE}), 0)
        self.assertNotEqual(self.run_with(own, {"deeper/test_one.py": FAILING}), 0)

    def test_fails_where_tests_are_missing(self):
        self.assertNotEqual(self.run_with({}, {"test_one.py": PASSING}), 0)
        self.assertNotEqual(self.run_with({"test_one.py": EMPTY}, {}), 0)
        self.assertNotEqual(self.run_with({"test_one.py": PASSING}, None), 0)


if __name__ == "__main__":
    unittest.main()
