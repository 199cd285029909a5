"""Tests of linecode; the package itself lies beside this folder."""
