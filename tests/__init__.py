"""The tests of endswell."""
