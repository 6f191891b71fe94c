"""Roundprice: chains of rounded prices, told for every price and backwards."""
