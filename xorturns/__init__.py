"""Xorturns: sets of bit masks turned by exclusive or."""
