"""A spider and a fly on a box: shortest ways over its faces, in whole numbers."""
