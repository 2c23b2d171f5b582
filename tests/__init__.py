"""The tests of Agreetwo; python3 -m unittest discover -s tests -t . runs them all."""
