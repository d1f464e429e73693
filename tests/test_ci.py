import os
import shutil
import subprocess
import tempfile
import unittest

ROOT = os.path.dirname(os.path.dirname(os.path.abspath(__file__)))
HEAD = "import unittest\nfrom sparebridges.limits import MOST_ISLANDS\nclass T(unittest.TestCase):\n"
PASSES = HEAD + "    def test_it(self):\n        self.assertEqual(MOST_ISLANDS, 5)\n"
FAILS = HEAD + "    def test_it(self):\n        self.assertEqual(MOST_ISLANDS, 6)\n"
BREAKS = HEAD + "    def test_it(self):\n        raise KeyError\n"
NO_IMPORT = "import sparebridges.nowhere\n"


class RunTest(unittest.TestCase):
    """Lets .ci/run judge small projects that stand in a folder of their own."""

    def setUp(self):
        self.top = tempfile.mkdtemp()
        self.addCleanup(shutil.rmtree, self.top)
        for folder in (".ci", "sparebridges"):
            shutil.copytree(os.path.join(ROOT, folder), os.path.join(self.top, "main", folder))
        self.write("main/tests/__init__.py", "")
        self.write("main/tests/test_one.py", PASSES)

    def write(self, path, text):
        place = os.path.join(self.top, *path.split("/"))
        os.makedirs(os.path.dirname(place), exist_ok=True)
        with open(place, "w") as file:
            file.write(text)

    def assert_passes(self, wished):
        # It is started from elsewhere, since it must find its own folder.
        script = os.path.join(self.top, "main", ".ci", "run")
        done = subprocess.run([script], cwd=self.top, capture_output=True, text=True)
        self.assertEqual(done.returncode == 0, wished, done.stderr)

    def test_without_shared_tests(self):
        self.assert_passes(True)
        self.write("shared/README.md", "")
        self.assert_passes(True)
        self.write("shared/tests/README.md", "")
        self.assert_passes(True)

    def test_a_test_of_the_project_fails(self):
        for text in (FAILS, BREAKS, NO_IMPORT):
            self.write("main/tests/test_two.py", text)
            self.assert_passes(False)

    def test_it_fails_though_shared_tests_pass(self):
        self.write("main/tests/test_one.py", FAILS)
        self.write("shared/tests/test_one.py", PASSES)
        self.assert_passes(False)

    def test_shared_tests_pass(self):
        self.write("shared/tests/test_one.py", PASSES)
        self.write("shared/tests/test_two.py", PASSES)
        self.assert_passes(True)

    def test_a_shared_test_fails(self):
        self.write("shared/tests/test_one.py", PASSES)
        self.write("shared/tests/test_three.py", PASSES)
        for text in (FAILS, BREAKS, NO_IMPORT):
            for path in ("test_one.py", "test_two.py", "further/test_one.py"):
                self.write("shared/tests/" + path, text)
                self.assert_passes(False)
                self.write("shared/tests/" + path, PASSES)
        self.assert_passes(True)


if __name__ == "__main__":
    unittest.main()
