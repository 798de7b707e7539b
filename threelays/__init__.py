"""Threelays: triangles laid over points. All is imported from the modules of this package."""
