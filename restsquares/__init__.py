"""At rest as squares: shares of pairs of kinds in fields, and in the generations behind them."""
