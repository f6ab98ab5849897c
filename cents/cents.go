// Package cents: money, to the last cent.
package cents

import (
	"cmp"
	"slices"
	"strconv"
	"strings"

	"vendmeter/api"
)

// Sum of amounts.
func Sum(l []int) (int, api.Errno) {
	if len(l) > api.MaxParts {
		return 0, api.ErrSize
	}
	// Each amount ahead of the sum: what is added up then can't run over.
	if !within(-api.MaxMoney, api.MaxMoney, l...) {
		return 0, api.ErrRange
	}
	sum := add(l...)
	if !within(-api.MaxMoney, api.MaxMoney, sum) {
		return 0, api.ErrRange
	}
	return sum, api.OK
}

// Part of an amount, in basis points, rounded down.
func Part(amount, bp int) (int, api.Errno) {
	if !within(0, api.MaxMoney, amount) || !within(0, api.MaxBp, bp) {
		return 0, api.ErrRange
	}
	return amount * bp / api.MaxBp, api.OK
}

// Deal a total by weights, to the last cent.
func Deal(total int, weights []int) ([]int, api.Errno) {
	if len(weights) == 0 || len(weights) > api.MaxParts {
		return nil, api.ErrSize
	}
	if !within(0, api.MaxMoney, total) || !within(0, api.MaxWeight, weights...) {
		return nil, api.ErrRange
	}
	all := add(weights...)
	if all == 0 {
		return nil, api.ErrZero
	}
	shares := make([]int, len(weights))
	for i, w := range weights {
		shares[i] = total * w / all
	}
	lost := func(i int) int { return total * weights[i] % all }
	// Fewer cents are left than there are shares of which something was rounded away.
	for _, i := range mostFirst(len(weights), lost)[:total-add(shares...)] {
		shares[i]++
	}
	return shares, api.OK
}

// Show an amount.
func Show(n int) (string, api.Errno) {
	if !within(-api.MaxMoney, api.MaxMoney, n) {
		return "", api.ErrRange
	}
	sign := ""
	if n < 0 {
		sign, n = "-", -n
	}
	return sign + strconv.Itoa(n/100) + "." + strconv.Itoa(n/10%10) + strconv.Itoa(n%10), api.OK
}

// Read an amount.
func Read(s string) (int, api.Errno) {
	if len(s) > api.MaxText {
		return 0, api.ErrSize
	}
	plain, below := strings.CutPrefix(s, "-")
	units, rest, dot := strings.Cut(plain, ".")
	if !dot || !isWhole(units) || len(rest) != 2 || !allDigits(rest) || s == "-0.00" {
		return 0, api.ErrForm
	}
	n := value(units + rest)
	if n > api.MaxMoney {
		return 0, api.ErrRange
	}
	if below {
		n = -n
	}
	return n, api.OK
}

// add numbers that are within their limits.
func add(l ...int) int {
	sum := 0
	for _, n := range l {
		sum += n
	}
	return sum
}

// within: is none of the numbers below least or above most?
func within(least, most int, l ...int) bool {
	for _, n := range l {
		if n < least || n > most {
			return false
		}
	}
	return true
}

// mostFirst: the places from 0 to n - 1, those of which more is told first, of several alike the first ones.
func mostFirst(n int, much func(int) int) []int {
	places := make([]int, n)
	for i := range places {
		places[i] = i
	}
	slices.SortStableFunc(places, func(a, b int) int { return cmp.Compare(much(b), much(a)) })
	return places
}

// isWhole: is this a number in decimal digits, without noughts ahead?
func isWhole(s string) bool {
	return s == "0" || s != "" && s[0] != '0' && allDigits(s)
}

// allDigits: is there nothing else in the text?
func allDigits(s string) bool {
	for _, r := range s {
		if r < '0' || r > '9' {
			return false
		}
	}
	return true
}

// value of digits, up to MaxMoney; of a greater number it is something above MaxMoney.
func value(digits string) int {
	n := 0
	for _, r := range digits {
		// More digits make it no smaller; to go on would run over.
		if n <= api.MaxMoney {
			n = n*10 + int(r-'0')
		}
	}
	return n
}
