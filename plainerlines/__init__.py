"""Lines made simpler: which of a map's points are drawn at which scale."""
