"""Runs every test of the project, and those of folders named behind it, and says how many passed.

Each file of tests runs in a process of its own, some of them at once.
"""

import os
import re
import subprocess
import sys
from concurrent.futures import ThreadPoolExecutor

ROOT = os.path.dirname(os.path.dirname(os.path.abspath(__file__)))


def files_of(folder):
    """The names of the files of tests in a folder, without .py; none if there is no such folder."""
    if not os.path.isdir(folder):
        return []
    return sorted(name[:-3] for name in os.listdir(folder) if name.startswith("test_") and name.endswith(".py"))


def run_file(job):
    """Run the tests of a file: how many there were, how many of them failed, and what was printed."""
    folder, name = job
    around = os.pathsep.join([ROOT, os.environ.get("PYTHONPATH", "")]).strip(os.pathsep)
    found = subprocess.run([sys.executable, "-m", "unittest", name], cwd=folder, env={**os.environ, "PYTHONPATH": around},
                           stdout=subprocess.PIPE, stderr=subprocess.STDOUT, text=True)
    many = re.findall(r"^Ran (\d+) tests?", found.stdout, re.MULTILINE)
    wrong = re.findall(r"^FAILED \((.*)\)", found.stdout, re.MULTILINE)
    failed = sum(int(told) for told in re.findall(r"(?:failures|errors|unexpected successes)=(\d+)", "".join(wrong)))
    # Newer versions of unittest tell by their exit that a file has no test, which is no failure.
    if found.returncode != 0 and many[-1:] != ["0"]:
        failed = max(failed, 1)
    return (int(many[-1]) if many else 0, failed, found.stdout)


def main(folders):
    own = [(ROOT, "tests." + name) for name in files_of(os.path.join(ROOT, "tests"))]
    jobs = own + [(folder, name) for folder in folders for name in files_of(folder)]
    total, failures = 0, 0
    with ThreadPoolExecutor(os.cpu_count() or 1) as pool:
        for (_, name), (many, failed, printed) in zip(jobs, pool.map(run_file, jobs)):
            total += many
            failures += failed
            if failed:
                print(printed)
            print(f"{name}: {many} tests, {failed or 'none'} failed", flush=True)
    print(f"Ran {total} tests in {len(jobs)} files\n\n{'FAILED' if failures else 'OK'}")
    print(f"{max(total - failures, 0)} passed, {failures} failed")
    return 0 if total > 0 and not failures else 1


if __name__ == "__main__":
    sys.exit(main([os.path.abspath(folder) for folder in sys.argv[1:]]))
