package cents_test

import (
	"math"
	"math/big"
	"slices"
	"strings"
	"testing"

	"vendmeter/api"
	"vendmeter/cents"
)

// die: numbers that look drawn, the same each time.
type die uint64

func (d *die) upTo(most int) int {
	*d = *d*6364136223846793005 + 1442695040888963407
	return int(uint64(*d>>20) % uint64(most+1))
}

func repeat(n, times int) []int {
	return slices.Repeat([]int{n}, times)
}

// P1.1

func TestSum(t *testing.T) {
	const most = api.MaxMoney
	for _, c := range []struct {
		l    []int
		want int
		e    api.Errno
	}{
		{nil, 0, api.OK},
		{[]int{}, 0, api.OK},
		{[]int{7}, 7, api.OK},
		{[]int{1, -3, 2}, 0, api.OK},
		{[]int{1, 20, 300}, 321, api.OK},
		{[]int{most}, most, api.OK},
		{[]int{-most}, -most, api.OK},
		{[]int{most, 1, -1}, most, api.OK}, // above the limit on the way only
		{[]int{-most, -1, 1}, -most, api.OK},
		{repeat(most/api.MaxParts, api.MaxParts), most, api.OK},
		{append(repeat(most, 25), repeat(-most, 25)...), 0, api.OK},
		{repeat(3, api.MaxParts), 150, api.OK},
		{repeat(0, api.MaxParts+1), 0, api.ErrSize},
		{repeat(math.MaxInt, api.MaxParts+1), 0, api.ErrSize}, // named ahead of ErrRange
		{[]int{most + 1}, 0, api.ErrRange},
		{[]int{-most - 1}, 0, api.ErrRange},
		{[]int{most, 1}, 0, api.ErrRange},
		{[]int{-most, -1}, 0, api.ErrRange},
		{[]int{most + 1, -1}, 0, api.ErrRange}, // one of them, though the sum is none
		{[]int{1, -most - 1}, 0, api.ErrRange},
		{repeat(most, api.MaxParts), 0, api.ErrRange},
		{repeat(-most, api.MaxParts), 0, api.ErrRange},
		{[]int{math.MaxInt}, 0, api.ErrRange},
		{[]int{math.MinInt}, 0, api.ErrRange},
		{[]int{math.MinInt, math.MinInt}, 0, api.ErrRange}, // wraps round to 0
		{[]int{math.MaxInt, math.MinInt, 1}, 0, api.ErrRange},
	} {
		if got, e := cents.Sum(c.l); got != c.want || e != c.e {
			t.Errorf("Sum(%v): %d, %v; want %d, %v", c.l, got, e, c.want, c.e)
		}
	}
}

// P1.2

func TestPart(t *testing.T) {
	const most = api.MaxMoney
	for _, c := range []struct {
		amount, bp, want int
		e                api.Errno
	}{
		{0, 0, 0, api.OK},
		{0, api.MaxBp, 0, api.OK},
		{999, 0, 0, api.OK},
		{999, 5000, 499, api.OK},
		{1000, 5000, 500, api.OK},
		{9999, 1, 0, api.OK},
		{10000, 1, 1, api.OK},
		{19999, 1, 1, api.OK},
		{1, 9999, 0, api.OK},
		{2, 9999, 1, api.OK},
		{999, api.MaxBp, 999, api.OK},
		{most, api.MaxBp, most, api.OK},
		{most, 9999, 999900000000, api.OK},
		{most - 1, 9999, 999899999999, api.OK},
		{most, 1, 100000000, api.OK},
		{-1, 0, 0, api.ErrRange},
		{-1, 5000, 0, api.ErrRange},
		{most + 1, 0, 0, api.ErrRange},
		{most + 1, 1, 0, api.ErrRange},
		{100, -1, 0, api.ErrRange},
		{100, api.MaxBp + 1, 0, api.ErrRange},
		{math.MaxInt, math.MaxInt, 0, api.ErrRange},
		{math.MinInt, math.MinInt, 0, api.ErrRange},
		{0, math.MaxInt, 0, api.ErrRange},
	} {
		if got, e := cents.Part(c.amount, c.bp); got != c.want || e != c.e {
			t.Errorf("Part(%d, %d): %d, %v; want %d, %v", c.amount, c.bp, got, e, c.want, c.e)
		}
	}
}

func TestPartDrawn(t *testing.T) {
	d := die(12)
	for range 2000 {
		amount, bp := d.upTo(api.MaxMoney), d.upTo(api.MaxBp)
		want := new(big.Int).Mul(big.NewInt(int64(amount)), big.NewInt(int64(bp)))
		want.Div(want, big.NewInt(10000))
		if got, e := cents.Part(amount, bp); int64(got) != want.Int64() || e != api.OK {
			t.Fatalf("Part(%d, %d): %d, %v; want %v", amount, bp, got, e, want)
		}
	}
}

// P1.3

func TestDeal(t *testing.T) {
	const most = api.MaxMoney
	for _, c := range []struct {
		total   int
		weights []int
		want    []int
	}{
		{100, []int{1, 1, 1}, []int{34, 33, 33}},
		{5, []int{0, 3, 1}, []int{0, 4, 1}},
		{3, []int{1, 1}, []int{2, 1}},
		{0, []int{1, 2}, []int{0, 0}},
		{7, []int{5}, []int{7}},
		{7, []int{0, 0, 5, 0}, []int{0, 0, 7, 0}},
		{2, []int{1, 1, 1}, []int{1, 1, 0}},
		{1, []int{1, 2}, []int{0, 1}},
		{1, []int{1, 2, 2}, []int{0, 1, 0}},
		{2, []int{1, 2, 1, 2}, []int{0, 1, 0, 1}},
		{10, []int{1, 2, 4}, []int{1, 3, 6}},
		{most, []int{api.MaxWeight}, []int{most}},
		{most, repeat(api.MaxWeight, api.MaxParts), repeat(most/api.MaxParts, api.MaxParts)},
		{49, repeat(1, api.MaxParts), append(repeat(1, api.MaxParts-1), 0)},
		{most, []int{api.MaxWeight, api.MaxWeight, api.MaxWeight}, []int{333333333334, 333333333333, 333333333333}},
	} {
		got, e := cents.Deal(c.total, c.weights)
		if !slices.Equal(got, c.want) || e != api.OK {
			t.Errorf("Deal(%d, %v): %v, %v; want %v", c.total, c.weights, got, e, c.want)
		}
	}
}

func TestDealRefuses(t *testing.T) {
	for _, c := range []struct {
		total   int
		weights []int
		e       api.Errno
	}{
		{3, nil, api.ErrSize},
		{3, []int{}, api.ErrSize},
		{3, repeat(1, api.MaxParts+1), api.ErrSize},
		{-1, nil, api.ErrSize}, // named ahead of ErrRange
		{-1, repeat(-1, api.MaxParts+1), api.ErrSize},
		{-1, []int{1}, api.ErrRange},
		{api.MaxMoney + 1, []int{1}, api.ErrRange},
		{3, []int{1, -1}, api.ErrRange},
		{3, []int{api.MaxWeight + 1}, api.ErrRange},
		{3, []int{0, 0, api.MaxWeight + 1}, api.ErrRange},
		{3, []int{-1, 0, 1}, api.ErrRange}, // the weights add up to 0, but one may not be
		{-1, []int{0}, api.ErrRange},       // named ahead of ErrZero
		{math.MinInt, []int{math.MinInt}, api.ErrRange},
		{math.MaxInt, []int{math.MaxInt, math.MaxInt, 2}, api.ErrRange},
		{3, []int{0}, api.ErrZero},
		{3, []int{0, 0}, api.ErrZero},
		{0, repeat(0, api.MaxParts), api.ErrZero},
	} {
		if got, e := cents.Deal(c.total, c.weights); len(got) != 0 || e != c.e {
			t.Errorf("Deal(%d, %v): %v, %v; want %v", c.total, c.weights, got, e, c.e)
		}
	}
}

// dealSlowly: the promise by its words, with wide numbers: cent by cent to who lost most and has got none yet.
func dealSlowly(total int, weights []int) []int {
	all := new(big.Int)
	for _, w := range weights {
		all.Add(all, big.NewInt(int64(w)))
	}
	shares, lost, left := make([]int, len(weights)), make([]*big.Int, len(weights)), total
	for i, w := range weights {
		whole := new(big.Int).Mul(big.NewInt(int64(total)), big.NewInt(int64(w)))
		share, rest := whole.DivMod(whole, all, new(big.Int))
		shares[i], lost[i] = int(share.Int64()), rest
		left -= shares[i]
	}
	for range left {
		best := -1
		for i := range weights {
			if lost[i] != nil && (best < 0 || lost[i].Cmp(lost[best]) > 0) {
				best = i
			}
		}
		shares[best]++
		lost[best] = nil
	}
	return shares
}

func TestDealDrawn(t *testing.T) {
	d := die(13)
	for range 3000 {
		most := []int{3, 10, 1000, api.MaxWeight}[d.upTo(3)]
		weights := make([]int, 1+d.upTo(api.MaxParts-1))
		for i := range weights {
			weights[i] = d.upTo(most)
		}
		weights[d.upTo(len(weights)-1)] = 1 + d.upTo(most-1)
		total := d.upTo([]int{10, 1000, api.MaxMoney}[d.upTo(2)])
		got, e := cents.Deal(total, weights)
		if want := dealSlowly(total, weights); !slices.Equal(got, want) || e != api.OK {
			t.Fatalf("Deal(%d, %v): %v, %v; want %v", total, weights, got, e, want)
		}
		if sum, e := cents.Sum(got); sum != total || e != api.OK {
			t.Fatalf("Deal(%d, %v): adds up to %d, %v", total, weights, sum, e)
		}
	}
}

// P1.4

func TestShow(t *testing.T) {
	for _, c := range []struct {
		n    int
		want string
		e    api.Errno
	}{
		{0, "0.00", api.OK},
		{1, "0.01", api.OK},
		{-1, "-0.01", api.OK},
		{-5, "-0.05", api.OK},
		{10, "0.10", api.OK},
		{99, "0.99", api.OK},
		{-99, "-0.99", api.OK},
		{100, "1.00", api.OK},
		{-100, "-1.00", api.OK},
		{1230, "12.30", api.OK},
		{100009, "1000.09", api.OK},
		{-123456789, "-1234567.89", api.OK},
		{api.MaxMoney, "10000000000.00", api.OK},
		{api.MaxMoney - 1, "9999999999.99", api.OK},
		{-api.MaxMoney, "-10000000000.00", api.OK},
		{api.MaxMoney + 1, "", api.ErrRange},
		{-api.MaxMoney - 1, "", api.ErrRange},
		{math.MaxInt, "", api.ErrRange},
		{math.MinInt, "", api.ErrRange},
	} {
		if got, e := cents.Show(c.n); got != c.want || e != c.e {
			t.Errorf("Show(%d): %q, %v; want %q, %v", c.n, got, e, c.want, c.e)
		}
	}
}

// P1.5

func TestRead(t *testing.T) {
	for _, c := range []struct {
		s    string
		want int
		e    api.Errno
	}{
		{"12.30", 1230, api.OK},
		{"0.00", 0, api.OK},
		{"0.07", 7, api.OK},
		{"-0.01", -1, api.OK},
		{"-0.10", -10, api.OK},
		{"-12.30", -1230, api.OK},
		{"100.00", 10000, api.OK},
		{"10000000000.00", api.MaxMoney, api.OK},
		{"-10000000000.00", -api.MaxMoney, api.OK},
		{"9999999999.99", api.MaxMoney - 1, api.OK},
		{"10000000000.01", 0, api.ErrRange},
		{"-10000000000.01", 0, api.ErrRange},
		{"92233720368547758.07", 0, api.ErrRange},
		{"92233720368547758.08", 0, api.ErrRange}, // 64 bits run over here
		{"99999999999999999.99", 0, api.ErrRange},
		{"-9999999999999999.99", 0, api.ErrRange},
		{"10000000000000000.00", 0, api.ErrRange},
		{"100000000000000000.00", 0, api.ErrSize}, // in form, but 21 bytes
		{strings.Repeat("x", api.MaxText+1), 0, api.ErrSize},
		{strings.Repeat("\xff", 1000), 0, api.ErrSize},
		{"1234567890123456é.00", 0, api.ErrSize}, // 20 letters, 21 bytes
	} {
		if got, e := cents.Read(c.s); got != c.want || e != c.e {
			t.Errorf("Read(%q): %d, %v; want %d, %v", c.s, got, e, c.want, c.e)
		}
	}
}

func TestReadForm(t *testing.T) {
	for _, s := range []string{
		"", "5", "05.00", ".50", "-0.00", "+1.00", "1.5", // what the chapter names, and nothing at all
		"-", ".", "-.", "-.50", "..", "00.00", "-00.01", "-05.00", "1.", "1.000", "1.0.0", "1..00", "1.00.", ".1.00",
		"--1.00", "-+1.00", "1.-1", "1.+1", "1-.00", "1.00-", " 1.00", "1.00 ", "1 000.00", "1,00", "1_0.00", "1.00\n", "1.00\x00",
		"0x1.00", "1e1.00", "a.00", "1.a0", "1.0a", "/.00", ":.00", "1.0/", "1.0:",
		"١.00", "1.0٠", "1.٠", "１.00", "1.é", "−1.00", "1․00", "1.00\xff", "\xff.00", "1.\xff\xff", "1.\xc3\xa9", "1\xff00",
		"99999999999999999999", "00000000000000000.00", "99999999999999999.9x",
	} {
		if len(s) > api.MaxText {
			t.Fatalf("%q is too long for this test", s)
		}
		if got, e := cents.Read(s); got != 0 || e != api.ErrForm {
			t.Errorf("Read(%q): %d, %v; want 0, %v", s, got, e, api.ErrForm)
		}
	}
}

// TestReadShort: every short text of a few letters is read if Show makes it, and is refused if not.
func TestReadShort(t *testing.T) {
	const letters, longest = "-+.0159 ", 6
	shown := map[string]int{}
	for n := -99999; n <= 99999; n++ {
		s, e := cents.Show(n)
		if e != api.OK {
			t.Fatalf("Show(%d): %v", n, e)
		}
		shown[s] = n
	}
	var try func(s string)
	try = func(s string) {
		n, ok := shown[s]
		got, e := cents.Read(s)
		if ok && (got != n || e != api.OK) || !ok && (got != 0 || e != api.ErrForm) {
			t.Fatalf("Read(%q): %d, %v", s, got, e)
		}
		if len(s) < longest {
			for _, r := range letters {
				try(s + string(r))
			}
		}
	}
	try("")
}

func TestShownIsRead(t *testing.T) {
	d := die(15)
	for i := range 3000 {
		n := d.upTo([]int{200, 100000, api.MaxMoney}[i%3])
		if i%2 == 1 {
			n = -n
		}
		s, e := cents.Show(n)
		got, f := cents.Read(s)
		if e != api.OK || f != api.OK || got != n {
			t.Fatalf("Read(Show(%d)): %q, %v; %d, %v", n, s, e, got, f)
		}
	}
}

// What holds everywhere: lists that are handed in stay as they are, answers are new memory.

func TestListsStay(t *testing.T) {
	room := []int{5, 3, 9, 77, 78, 79}
	was := slices.Clone(room)
	l := room[:3]
	if sum, e := cents.Sum(l); sum != 17 || e != api.OK {
		t.Fatalf("Sum(%v): %d, %v", l, sum, e)
	}
	first, e := cents.Deal(100, l)
	second, f := cents.Deal(100, l)
	if e != api.OK || f != api.OK || !slices.Equal(first, second) {
		t.Fatalf("Deal(100, %v): %v, %v, then %v, %v", l, first, e, second, f)
	}
	want := slices.Clone(second)
	for i := range first[:cap(first)] {
		first[:cap(first)][i] = -1
	}
	if !slices.Equal(room, was) {
		t.Errorf("the list and its spare room: %v; they were %v", room, was)
	}
	if !slices.Equal(second, want) {
		t.Errorf("another answer changed: %v; it was %v", second, want)
	}
}
