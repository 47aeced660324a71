"""Words completed as one types them: see typedaheaddesk.desk.answers."""
