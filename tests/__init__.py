"""Tests of evennets: run them all with `bash .ci/run`."""
