"""Times: the calendar, clocks by tables and rules, spans, recurrences."""
