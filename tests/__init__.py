"""The tests of fillchairs: `python3 -m unittest discover -s tests -t .`"""
