"""A profiler and coverage workbench with the least probes."""
