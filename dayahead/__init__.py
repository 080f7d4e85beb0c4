"""One day ahead: from what to what a promise for tomorrow may cost today."""
