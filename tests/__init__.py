"""The tests of huesbelow."""
