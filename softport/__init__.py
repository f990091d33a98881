"""A craft that comes alongside a station, and the people's end of its link."""
