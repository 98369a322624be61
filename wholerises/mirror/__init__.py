"""Power series, and the mirrors of balanced rows."""
