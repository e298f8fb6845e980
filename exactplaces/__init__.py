"""Signs, sums and intervals that are never wrong; the calls are in exactplaces.exact."""
