"""Fail if a file of the package breaks one of the rules of form that are easy to see: sizes, signs, imports.

The whole of the rules stands in LANGUAGE.md; this checks L1, L2, L10 and L14 in part.
"""

import ast
import pathlib
import sys

LIBRARY = ("heapq", "math", "itertools", "collections", "__future__")


def faults_of_lines(lines):
    if len(lines) > 399:
        yield 1, "the file has more than 399 lines"
    for number, line in enumerate(lines, start=1):
        if len(line) > 120:
            yield number, "the line has more than 120 characters"
        if any(not " " <= sign <= "~" for sign in line):
            yield number, "the line has a sign that is not from the space to ~"


def faults_of_tree(tree, package):
    for node in ast.walk(tree):
        if isinstance(node, ast.FunctionDef) and node.end_lineno - node.lineno + 1 > 40:
            yield node.lineno, "the function has more than 40 lines"
        if isinstance(node, ast.Import):
            yield node.lineno, "the import does not have the form: from .. import .."
        if isinstance(node, ast.ImportFrom):
            outermost = (node.module or "").split(".")[0]
            if node.level or outermost not in (package, *LIBRARY):
                yield node.lineno, "the import is not by a full name from the package"


def main(package):
    found = []
    for path in sorted(pathlib.Path(package).rglob("*")):
        if path.is_dir() or "__pycache__" in path.parts:
            continue
        if path.suffix != ".py":
            found.append((path, 0, "the file is no Python file"))
            continue
        text = path.read_bytes().decode("utf-8")
        for number, fault in (*faults_of_lines(text.split("\n")), *faults_of_tree(ast.parse(text), package)):
            found.append((path, number, fault))
    for path, number, fault in found:
        print(f"{path}:{number}: {fault}")
    return 1 if found else 0


if __name__ == "__main__":
    sys.exit(main(sys.argv[1]))
