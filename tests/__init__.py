"""The tests of crossties: run them with python3 -m unittest discover -s tests -t . at the top of the project."""
