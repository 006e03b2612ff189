"""Points that belong together: groups of points, exact in whole numbers."""
