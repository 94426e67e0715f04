"""Asked just what matters, whole: forms whose answers decide what is asked behind them."""
