"""Stagehall, layer c: fades."""
