"""Ships along a quay, each with a berth that it wishes."""
