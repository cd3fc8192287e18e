package tax

import (
	"cmp"
	"slices"

	"pecia/api"
)

// CheckPrices returns the first error of a price list.
func CheckPrices(l []api.Price) api.Errno {
	if len(l) > api.MaxPrices {
		return api.ErrLimit
	}
	seen := map[api.Price]bool{}
	for _, p := range l {
		if !isPiece(p.Piece) || !isYear(p.Year) || !isPrice(p.Coins) {
			return api.ErrArg
		}
		what := api.Price{Piece: p.Piece, Year: p.Year}
		if seen[what] {
			return api.ErrTwice
		}
		seen[what] = true
	}
	return api.OK
}

func isPiece(n int) bool { return within(n, 1, api.MaxID) }

func isYear(n int) bool { return within(n, 1, api.MaxYear) }

func isPrice(n int) bool { return within(n, 0, api.MaxPrice) }

// PriceOf returns what a piece costs for a week in a year.
func PriceOf(l []api.Price, piece, year int) (int, api.Errno) {
	if e := CheckPrices(l); e != api.OK {
		return 0, e
	}
	if !isPiece(piece) || !isYear(year) {
		return 0, api.ErrArg
	}
	price, is := 0, false
	for _, p := range pricesOf(l, piece) {
		if p.Year <= year {
			price, is = p.Coins, true
		}
	}
	if !is {
		return 0, api.ErrNone
	}
	return price, api.OK
}

// pricesOf returns the prices of a piece, by their years.
func pricesOf(l []api.Price, piece int) []api.Price {
	var own []api.Price
	for _, p := range l {
		if p.Piece == piece {
			own = append(own, p)
		}
	}
	slices.SortFunc(own, func(a, b api.Price) int { return cmp.Compare(a.Year, b.Year) })
	return own
}

// Changes returns the years in which the price of a piece changes.
func Changes(l []api.Price, piece int) ([]int, api.Errno) {
	if e := CheckPrices(l); e != api.OK {
		return nil, e
	}
	own := pricesOf(l, piece)
	var years []int
	for i, p := range own {
		if i == 0 || p.Coins != own[i-1].Coins {
			years = append(years, p.Year)
		}
	}
	return years, api.OK
}
