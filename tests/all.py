"""Runs each file test_*.py below some folders by unittest: python3 tests/all.py FOLDER .."""

import subprocess
import sys
from pathlib import Path


def run(path):
    """Run one file where it stands, and tell whether it passed."""
    print(f"== {path}", flush=True)
    done = subprocess.run([sys.executable, "-m", "unittest", path.name], cwd=path.parent, check=False)
    return done.returncode == 0


def main(folders):
    """Run all files, also behind one that fails, so that all failures are seen."""
    paths = [path for folder in folders for path in sorted(Path(folder).rglob("test_*.py"))]
    results = [run(path) for path in paths]
    print("Files of tests:")
    print(f"{results.count(True)} passed, {results.count(False)} failed", flush=True)
    return 0 if results and all(results) else 1


if __name__ == "__main__":
    sys.exit(main(sys.argv[1:]))
