"""Plans of accounts, with every sensitivity told exactly."""
