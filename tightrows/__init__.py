"""Tightrows: columns kept packed, and asked as they lie."""
