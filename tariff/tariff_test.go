package tariff_test

import (
	"math"
	"math/rand/v2"
	"slices"
	"sync"
	"testing"

	"vendmeter/api"
	"vendmeter/tariff"
)

// three: the steps of the chapter's examples.
var three = []api.Step{{Upto: 50, Price: 10}, {Upto: 200, Price: 15}, {Upto: 10000000, Price: 20}}

// rights: tariffs that are right, from the least steps and prices to the most.
var rights = [][]api.Step{
	three,
	{{Upto: 10000000, Price: 1}},
	{{Upto: 10000000, Price: 10}},
	{{Upto: 10000000, Price: 100000}},
	{{Upto: 1, Price: 100000}, {Upto: 10000000, Price: 1}},
	{{Upto: 1, Price: 1}, {Upto: 10000000, Price: 100000}},
	{{Upto: 9999999, Price: 3}, {Upto: 10000000, Price: 2}},
	{{Upto: 9999998, Price: 7}, {Upto: 9999999, Price: 9}, {Upto: 10000000, Price: 8}},
	{{Upto: 50, Price: 7}, {Upto: 60, Price: 7}, {Upto: 10000000, Price: 7}},
	{{Upto: 1, Price: 8}, {Upto: 2, Price: 7}, {Upto: 3, Price: 6}, {Upto: 4, Price: 5}, {Upto: 5, Price: 4}, {Upto: 6, Price: 3}, {Upto: 7, Price: 2}, {Upto: 10000000, Price: 1}},
	{{Upto: 10, Price: 1}, {Upto: 20, Price: 100}, {Upto: 30, Price: 2}, {Upto: 2097151, Price: 99999}, {Upto: 2097152, Price: 5}, {Upto: 4194302, Price: 100000}, {Upto: 10000000, Price: 3}},
}

// wrongs: tariffs that are not right, and why; of several reasons the first one.
var wrongs = []struct {
	name string
	t    []api.Step
	want api.Errno
}{
	{"nil", nil, api.ErrSize},
	{"no step", []api.Step{}, api.ErrSize},
	{"no step, but spare room", three[:0:3], api.ErrSize},
	{"nine steps", many(9), api.ErrSize},
	{"ten steps", many(10), api.ErrSize},
	{"many steps", many(1000), api.ErrSize},
	{"nine steps, all of them wrong", make([]api.Step, 9), api.ErrSize},
	{"nine steps, out of order", slices.Repeat([]api.Step{{Upto: 5, Price: 1}}, 9), api.ErrSize},

	{"a zero step", []api.Step{{}}, api.ErrRange},
	{"an Upto of 0", []api.Step{{Upto: 0, Price: 1}, {Upto: 10000000, Price: 1}}, api.ErrRange},
	{"an Upto below 0", []api.Step{{Upto: -1, Price: 1}, {Upto: 10000000, Price: 1}}, api.ErrRange},
	{"the least Upto", []api.Step{{Upto: math.MinInt, Price: 1}, {Upto: 10000000, Price: 1}}, api.ErrRange},
	{"an Upto above MaxBought", []api.Step{{Upto: 10000001, Price: 1}}, api.ErrRange},
	{"the greatest Upto", []api.Step{{Upto: math.MaxInt, Price: 1}}, api.ErrRange},
	{"an Upto that is MaxBought, but for its high bits", []api.Step{{Upto: 1<<32 + 10000000, Price: 1}}, api.ErrRange},
	{"an Upto above MaxBought behind the last", []api.Step{{Upto: 10000000, Price: 1}, {Upto: 10000001, Price: 1}}, api.ErrRange},
	{"a Price of 0", []api.Step{{Upto: 10000000, Price: 0}}, api.ErrRange},
	{"a Price below 0", []api.Step{{Upto: 10000000, Price: -1}}, api.ErrRange},
	{"the least Price", []api.Step{{Upto: 10000000, Price: math.MinInt}}, api.ErrRange},
	{"a Price above MaxPrice", []api.Step{{Upto: 10000000, Price: 100001}}, api.ErrRange},
	{"the greatest Price", []api.Step{{Upto: 10000000, Price: math.MaxInt}}, api.ErrRange},
	{"a Price that is 1, but for its high bits", []api.Step{{Upto: 10000000, Price: 1<<32 + 1}}, api.ErrRange},
	{"a wrong Price at the last step alone", []api.Step{{Upto: 50, Price: 10}, {Upto: 200, Price: 15}, {Upto: 10000000, Price: 0}}, api.ErrRange},
	{"a wrong Price in the midst", []api.Step{{Upto: 50, Price: 10}, {Upto: 200, Price: 100001}, {Upto: 10000000, Price: 20}}, api.ErrRange},
	{"a wrong Price behind steps out of order", []api.Step{{Upto: 50, Price: 10}, {Upto: 50, Price: 10}, {Upto: 10000000, Price: 0}}, api.ErrRange},
	{"a wrong Upto behind steps out of order", []api.Step{{Upto: 50, Price: 10}, {Upto: 40, Price: 10}, {Upto: 0, Price: 1}}, api.ErrRange},
	{"a wrong Price, and a last Upto that is too low", []api.Step{{Upto: 5, Price: 0}}, api.ErrRange},
	{"a last Upto of 0", []api.Step{{Upto: 50, Price: 10}, {Upto: 0, Price: 1}}, api.ErrRange},

	{"a last Upto that is too low", []api.Step{{Upto: 5, Price: 1}}, api.ErrForm},
	{"a last Upto just too low", []api.Step{{Upto: 9999999, Price: 1}}, api.ErrForm},
	{"the last of several too low", []api.Step{{Upto: 50, Price: 10}, {Upto: 200, Price: 15}}, api.ErrForm},
	{"two Uptos alike", []api.Step{{Upto: 50, Price: 10}, {Upto: 50, Price: 15}, {Upto: 10000000, Price: 20}}, api.ErrForm},
	{"the last two Uptos alike", []api.Step{{Upto: 50, Price: 10}, {Upto: 10000000, Price: 15}, {Upto: 10000000, Price: 20}}, api.ErrForm},
	{"one step twice", []api.Step{{Upto: 10000000, Price: 15}, {Upto: 10000000, Price: 15}}, api.ErrForm},
	{"an Upto that falls", []api.Step{{Upto: 200, Price: 10}, {Upto: 50, Price: 15}, {Upto: 10000000, Price: 20}}, api.ErrForm},
	{"the last Upto ahead", []api.Step{{Upto: 10000000, Price: 10}, {Upto: 50, Price: 15}, {Upto: 10000000, Price: 20}}, api.ErrForm},
	{"the last Upto falls", []api.Step{{Upto: 50, Price: 10}, {Upto: 10000000, Price: 15}, {Upto: 9999999, Price: 20}}, api.ErrForm},
	{"eight steps, the seventh out of order", append(many(8)[:6:6], api.Step{Upto: 6, Price: 1}, api.Step{Upto: 10000000, Price: 1}), api.ErrForm},
}

// wrongFroms: numbers of units that were bought in no month.
var wrongFroms = []int{
	-1, -2, -50, -10000000, math.MinInt32, math.MinInt + 1, math.MinInt,
	10000001, 10000002, 12097151, 20000000, math.MaxInt32, 1 << 32, 1<<32 + 1, 1 << 62, math.MaxInt - 2097151, math.MaxInt - 1, math.MaxInt,
}

// wrongUnits: numbers of units that nobody buys at once.
var wrongUnits = []int{
	-1, -2, -50, -2097151, -10000000, math.MinInt32, math.MinInt + 1, math.MinInt,
	2097152, 2097153, 10000000, 10000001, math.MaxInt32, 1 << 32, 1<<32 + 1, 1 << 62, math.MaxInt - 10000000, math.MaxInt - 1, math.MaxInt,
}

// wrongMoneys: amounts that are none.
var wrongMoneys = []int{
	-1, -2, -10, -1000000000000, math.MinInt32, math.MinInt + 1, math.MinInt,
	1000000000001, 1000000000002, 2000000000000, 1 << 62, math.MaxInt - 1, math.MaxInt,
}

// many steps, which are right but for their number.
func many(n int) []api.Step {
	l := make([]api.Step, n)
	for i := range l {
		l[i] = api.Step{Upto: i + 1, Price: 10 + i}
	}
	l[n-1].Upto = 10000000
	return l
}

// drawn steps, which are right.
func drawn(r *rand.Rand, wide, dear int) []api.Step {
	var l []api.Step
	upto := 0
	for range r.IntN(8) {
		upto += 1 + r.IntN(wide)
		l = append(l, api.Step{Upto: upto, Price: 1 + r.IntN(dear)})
	}
	return append(l, api.Step{Upto: 10000000, Price: 1 + r.IntN(dear)})
}

// stepOf the n-th unit of a month, by the chapter's words.
func stepOf(l []api.Step, n int) int {
	return slices.IndexFunc(l, func(s api.Step) bool { return s.Upto >= n })
}

// unitByUnit: the lines of units, each unit looked at alone.
func unitByUnit(l []api.Step, from, units int) []api.Line {
	counts := make([]int, len(l))
	for n := from + 1; n <= from+units; n++ {
		counts[stepOf(l, n)]++
	}
	var bill []api.Line
	for i, n := range counts {
		if n > 0 {
			bill = append(bill, api.Line{Units: n, Price: l[i].Price, Cost: n * l[i].Price})
		}
	}
	return bill
}

// upTo: what all units of a month cost, up to the n-th one.
func upTo(l []api.Step, n int) int {
	sum, below := 0, 0
	for _, s := range l {
		sum += s.Price * max(0, min(n, s.Upto)-below)
		below = s.Upto
	}
	return sum
}

// cost of a bill's lines.
func cost(bill []api.Line) int {
	sum := 0
	for _, line := range bill {
		sum += line.Cost
	}
	return sum
}

// limit: the most units that may be bought at once.
func limit(from int) int { return min(2097151, 10000000-from) }

// froms: at each edge that a tariff has, and at the ends.
func froms(l []api.Step) []int {
	edges := []int{0, 1, 2, 7902848, 7902849, 7902850, 9999998, 9999999, 10000000}
	for _, s := range l {
		edges = append(edges, s.Upto-1, s.Upto, s.Upto+1, s.Upto-2097151)
	}
	return slices.DeleteFunc(edges, func(n int) bool { return n < 0 || n > 10000000 })
}

// amounts of units that end at each edge that a tariff has, or as late as may be.
func amounts(l []api.Step, from int) []int {
	edges := []int{0, 1, 2, 3, limit(from) - 1, limit(from)}
	for _, s := range l {
		edges = append(edges, s.Upto-1-from, s.Upto-from, s.Upto+1-from)
	}
	return slices.DeleteFunc(edges, func(n int) bool { return n < 0 || n > limit(from) })
}

func mustPrice(t *testing.T, l []api.Step, from, units int) int {
	t.Helper()
	price, e := tariff.Price(l, from, units)
	if e != api.OK {
		t.Fatalf("Price(%v, %d, %d): %v", l, from, units, e)
	}
	return price
}

func mustBill(t *testing.T, l []api.Step, from, units int) []api.Line {
	t.Helper()
	bill, e := tariff.Bill(l, from, units)
	if e != api.OK {
		t.Fatalf("Bill(%v, %d, %d): %v", l, from, units, e)
	}
	return bill
}

func mustMost(t *testing.T, l []api.Step, from, money int) (units, price int) {
	t.Helper()
	units, price, e := tariff.Most(l, from, money)
	if e != api.OK {
		t.Fatalf("Most(%v, %d, %d): %v", l, from, money, e)
	}
	return units, price
}

// refused: do Price and Bill both answer this error, and nothing beside it?
func refused(t *testing.T, l []api.Step, from, units int, want api.Errno) {
	t.Helper()
	if price, e := tariff.Price(l, from, units); e != want || price != 0 {
		t.Errorf("Price(%v, %d, %d): %d, %v, want 0 and %v", l, from, units, price, e, want)
	}
	if bill, e := tariff.Bill(l, from, units); e != want || len(bill) != 0 {
		t.Errorf("Bill(%v, %d, %d): %v, %v, want none and %v", l, from, units, bill, e, want)
	}
}

// noMost: does Most answer this error, and nothing beside it?
func noMost(t *testing.T, l []api.Step, from, money int, want api.Errno) {
	t.Helper()
	if units, price, e := tariff.Most(l, from, money); e != want || units != 0 || price != 0 {
		t.Errorf("Most(%v, %d, %d): %d, %d, %v, want 0, 0 and %v", l, from, money, units, price, e, want)
	}
}

// P13.1

func TestCheckOfRightTariffs(t *testing.T) {
	for _, l := range rights {
		if e := tariff.Check(l); e != api.OK {
			t.Errorf("Check(%v): %v", l, e)
		}
	}
	for n := 1; n <= 8; n++ {
		if e := tariff.Check(many(n)); e != api.OK {
			t.Errorf("Check of %d steps: %v", n, e)
		}
	}
}

func TestCheckOfWrongTariffs(t *testing.T) {
	for _, c := range wrongs {
		if e := tariff.Check(c.t); e != c.want {
			t.Errorf("%s: Check(%v): %v, want %v", c.name, c.t, e, c.want)
		}
	}
}

// TestCheckAtEachStep: one number out of bounds is told wherever it stands, and numbers at their bounds are none.
func TestCheckAtEachStep(t *testing.T) {
	for n := 1; n <= 8; n++ {
		for i := range n {
			for _, wrong := range []int{math.MinInt, -1, 0, 10000001, 1<<32 + 1, math.MaxInt} {
				l := many(n)
				l[i].Upto = wrong
				if e := tariff.Check(l); e != api.ErrRange {
					t.Errorf("Check(%v): %v, want ErrRange", l, e)
				}
			}
			for _, wrong := range []int{math.MinInt, -1, 0, 100001, 1<<32 + 1, math.MaxInt} {
				l := many(n)
				l[i].Price = wrong
				if e := tariff.Check(l); e != api.ErrRange {
					t.Errorf("Check(%v): %v, want ErrRange", l, e)
				}
			}
			for _, right := range []int{1, 2, 99999, 100000} {
				l := many(n)
				l[i].Price = right
				if e := tariff.Check(l); e != api.OK {
					t.Errorf("Check(%v): %v", l, e)
				}
			}
		}
	}
}

// TestCheckOfOrder: every step in turn as far as the one ahead of it, or not so far.
func TestCheckOfOrder(t *testing.T) {
	for n := 2; n <= 8; n++ {
		for i := 1; i < n; i++ {
			for back := 0; back <= i; back++ {
				l := many(n)
				l[i].Upto = max(1, l[i-1].Upto-back)
				if e := tariff.Check(l); e != api.ErrForm {
					t.Errorf("Check(%v): %v, want ErrForm", l, e)
				}
			}
		}
	}
}

// TestCheckOfShortLists: all lists of up to three steps of a few numbers, held against the chapter's words.
func TestCheckOfShortLists(t *testing.T) {
	uptos := []int{0, 1, 2, 9999999, 10000000, 10000001}
	prices := []int{0, 1, 100000, 100001}
	want := func(l []api.Step) api.Errno {
		if slices.ContainsFunc(l, func(s api.Step) bool {
			return s.Upto < 1 || s.Upto > 10000000 || s.Price < 1 || s.Price > 100000
		}) {
			return api.ErrRange
		}
		for i := range len(l) - 1 {
			if l[i].Upto >= l[i+1].Upto {
				return api.ErrForm
			}
		}
		if l[len(l)-1].Upto != 10000000 {
			return api.ErrForm
		}
		return api.OK
	}
	var lay func(l []api.Step)
	lay = func(l []api.Step) {
		if len(l) > 0 {
			if e := tariff.Check(l); e != want(l) {
				t.Fatalf("Check(%v): %v, want %v", l, e, want(l))
			}
		}
		if len(l) == 3 {
			return
		}
		for _, upto := range uptos {
			for _, price := range prices {
				lay(append(slices.Clone(l), api.Step{Upto: upto, Price: price}))
			}
		}
	}
	lay(nil)
}

// P13.2

func TestPrice(t *testing.T) {
	for _, c := range []struct {
		t                 []api.Step
		from, units, want int
	}{
		{three, 40, 20, 250},
		{three, 0, 0, 0}, {three, 0, 1, 10}, {three, 0, 49, 490}, {three, 0, 50, 500}, {three, 0, 51, 515},
		{three, 49, 1, 10}, {three, 49, 2, 25}, {three, 50, 0, 0}, {three, 50, 1, 15}, {three, 51, 1, 15},
		{three, 199, 1, 15}, {three, 199, 2, 35}, {three, 200, 1, 20}, {three, 0, 200, 2750}, {three, 0, 201, 2770},
		{three, 49, 152, 10 + 150*15 + 20},
		{three, 0, 2097151, 500 + 2250 + 2096951*20},
		{three, 7902849, 2097151, 2097151 * 20},
		{three, 9999999, 1, 20}, {three, 10000000, 0, 0},
		{rights[3], 0, 2097151, 209715100000},
		{rights[4], 0, 1, 100000}, {rights[4], 0, 2, 100001}, {rights[4], 1, 1, 1},
		{rights[6], 9999998, 2, 5}, {rights[6], 9999999, 1, 2}, {rights[6], 9999998, 1, 3},
		{rights[7], 9999997, 3, 24},
		{rights[9], 0, 8, 36}, {rights[9], 3, 3, 12},
	} {
		if got := mustPrice(t, c.t, c.from, c.units); got != c.want {
			t.Errorf("Price(%v, %d, %d): %d, want %d", c.t, c.from, c.units, got, c.want)
		}
	}
}

// TestPriceOfEachUnit: the n-th unit costs the Price of the first step whose Upto is not below n.
func TestPriceOfEachUnit(t *testing.T) {
	for _, l := range rights {
		for _, from := range froms(l) {
			if from == 10000000 {
				continue
			}
			if got, want := mustPrice(t, l, from, 1), l[stepOf(l, from+1)].Price; got != want {
				t.Errorf("Price(%v, %d, 1): %d, want %d", l, from, got, want)
			}
		}
	}
}

func TestPriceAtEdges(t *testing.T) {
	for _, l := range rights {
		for _, from := range froms(l) {
			for _, units := range amounts(l, from) {
				if got, want := mustPrice(t, l, from, units), upTo(l, from+units)-upTo(l, from); got != want {
					t.Errorf("Price(%v, %d, %d): %d, want %d", l, from, units, got, want)
				}
			}
		}
	}
}

func TestPriceOfWrongTariffs(t *testing.T) {
	for _, c := range wrongs {
		// The tariff's error ahead of what is wrong with the units.
		for _, from := range []int{0, 1, 10000000, -1, math.MinInt, math.MaxInt} {
			for _, units := range []int{0, 1, 2097151, -1, math.MinInt, math.MaxInt} {
				refused(t, c.t, from, units, c.want)
			}
		}
	}
}

func TestPriceOfWrongNumbers(t *testing.T) {
	for _, l := range rights {
		for _, from := range wrongFroms {
			for _, units := range append([]int{0, 1, 2, 50, 2097151, -from, 10000000 - from}, wrongUnits...) {
				refused(t, l, from, units, api.ErrRange)
			}
		}
		for _, units := range wrongUnits {
			for _, from := range []int{0, 1, 50, 51, 7902849, 9999999, 10000000} {
				refused(t, l, from, units, api.ErrRange)
			}
		}
	}
}

// TestPriceOfTooManyTogether: each number is within its bounds, both together are not.
func TestPriceOfTooManyTogether(t *testing.T) {
	for _, l := range rights {
		for _, c := range [][2]int{
			{10000000, 1}, {10000000, 2}, {10000000, 2097151}, {9999999, 2}, {9999999, 3}, {9999950, 51},
			{7902850, 2097151}, {7902851, 2097151}, {7902851, 2097150}, {9000000, 1000001},
		} {
			refused(t, l, c[0], c[1], api.ErrRange)
			mustPrice(t, l, c[0], limit(c[0]))
		}
	}
}

// P13.3

func TestBill(t *testing.T) {
	for _, c := range []struct {
		t           []api.Step
		from, units int
		want        []api.Line
	}{
		{three, 0, 50, []api.Line{{Units: 50, Price: 10, Cost: 500}}},
		{three, 0, 51, []api.Line{{Units: 50, Price: 10, Cost: 500}, {Units: 1, Price: 15, Cost: 15}}},
		{three, 40, 20, []api.Line{{Units: 10, Price: 10, Cost: 100}, {Units: 10, Price: 15, Cost: 150}}},
		{three, 50, 10, []api.Line{{Units: 10, Price: 15, Cost: 150}}},
		{three, 50, 150, []api.Line{{Units: 150, Price: 15, Cost: 2250}}},
		{three, 49, 152, []api.Line{{Units: 1, Price: 10, Cost: 10}, {Units: 150, Price: 15, Cost: 2250}, {Units: 1, Price: 20, Cost: 20}}},
		{three, 200, 3, []api.Line{{Units: 3, Price: 20, Cost: 60}}},
		{three, 0, 0, nil}, {three, 50, 0, nil}, {three, 200, 0, nil}, {three, 10000000, 0, nil},
		{three, 9999999, 1, []api.Line{{Units: 1, Price: 20, Cost: 20}}},
		{rights[3], 7902849, 2097151, []api.Line{{Units: 2097151, Price: 100000, Cost: 209715100000}}},
		// Steps of one price have a line each.
		{rights[8], 45, 20, []api.Line{{Units: 5, Price: 7, Cost: 35}, {Units: 10, Price: 7, Cost: 70}, {Units: 5, Price: 7, Cost: 35}}},
		{rights[9], 2, 4, []api.Line{{Units: 1, Price: 6, Cost: 6}, {Units: 1, Price: 5, Cost: 5}, {Units: 1, Price: 4, Cost: 4}, {Units: 1, Price: 3, Cost: 3}}},
		{rights[9], 0, 10, []api.Line{{Units: 1, Price: 8, Cost: 8}, {Units: 1, Price: 7, Cost: 7}, {Units: 1, Price: 6, Cost: 6}, {Units: 1, Price: 5, Cost: 5}, {Units: 1, Price: 4, Cost: 4}, {Units: 1, Price: 3, Cost: 3}, {Units: 1, Price: 2, Cost: 2}, {Units: 3, Price: 1, Cost: 3}}},
	} {
		if got := mustBill(t, c.t, c.from, c.units); !slices.Equal(got, c.want) {
			t.Errorf("Bill(%v, %d, %d): %v, want %v", c.t, c.from, c.units, got, c.want)
		}
	}
}

// TestBillUnitByUnit: drawn tariffs, and each unit looked at alone.
func TestBillUnitByUnit(t *testing.T) {
	r := rand.New(rand.NewPCG(13, 3))
	for range 3000 {
		l := drawn(r, 40, 30)
		from, units := r.IntN(200), r.IntN(200)
		want := unitByUnit(l, from, units)
		if got := mustBill(t, l, from, units); !slices.Equal(got, want) {
			t.Fatalf("Bill(%v, %d, %d): %v, want %v", l, from, units, got, want)
		}
		if got := mustPrice(t, l, from, units); got != cost(want) {
			t.Fatalf("Price(%v, %d, %d): %d, want %d", l, from, units, got, cost(want))
		}
	}
}

// TestBillSaysWhatPriceSays: at the edges, and with as many units in all as were asked for.
func TestBillSaysWhatPriceSays(t *testing.T) {
	for _, l := range rights {
		for _, from := range froms(l) {
			for _, units := range amounts(l, from) {
				bill, sum := mustBill(t, l, from, units), 0
				for _, line := range bill {
					if line.Units < 1 || line.Cost != line.Units*line.Price {
						t.Errorf("Bill(%v, %d, %d): %v", l, from, units, bill)
					}
					sum += line.Units
				}
				if price := mustPrice(t, l, from, units); sum != units || cost(bill) != price {
					t.Errorf("Bill(%v, %d, %d): %v, want %d units for %d", l, from, units, bill, units, price)
				}
			}
		}
	}
}

// P13.4

func TestMost(t *testing.T) {
	for _, c := range []struct {
		t                        []api.Step
		from, money, units, cost int
	}{
		{three, 40, 260, 20, 250},
		{three, 40, 264, 20, 250}, {three, 40, 265, 21, 265}, {three, 40, 249, 19, 235}, {three, 40, 250, 20, 250},
		{three, 0, 0, 0, 0}, {three, 0, 9, 0, 0}, {three, 0, 10, 1, 10}, {three, 0, 19, 1, 10}, {three, 0, 20, 2, 20},
		{three, 0, 499, 49, 490}, {three, 0, 500, 50, 500}, {three, 0, 514, 50, 500}, {three, 0, 515, 51, 515},
		{three, 0, 2749, 199, 2735}, {three, 0, 2750, 200, 2750}, {three, 0, 2769, 200, 2750}, {three, 0, 2770, 201, 2770},
		{three, 49, 24, 1, 10}, {three, 49, 25, 2, 25}, {three, 200, 19, 0, 0}, {three, 200, 20, 1, 20},
		// As many as may be, whatever is left.
		{three, 0, 1000000000000, 2097151, 41941770}, {three, 0, 41941770, 2097151, 41941770}, {three, 0, 41941769, 2097150, 41941750},
		{three, 7902849, 1000000000000, 2097151, 41943020}, {three, 7902850, 1000000000000, 2097150, 41943000},
		{three, 9999999, 1000000000000, 1, 20}, {three, 9999999, 20, 1, 20}, {three, 9999999, 19, 0, 0},
		{three, 10000000, 1000000000000, 0, 0}, {three, 10000000, 0, 0, 0},
		{rights[1], 0, 2097150, 2097150, 2097150}, {rights[1], 0, 2097151, 2097151, 2097151}, {rights[1], 0, 2097152, 2097151, 2097151},
		{rights[3], 0, 1000000000000, 2097151, 209715100000}, {rights[3], 0, 209715099999, 2097150, 209715000000},
		// A cheap step behind a dear one is had only behind all of that.
		{rights[4], 0, 99999, 0, 0}, {rights[4], 0, 100000, 1, 100000}, {rights[4], 0, 100001, 2, 100001}, {rights[4], 1, 99999, 99999, 99999},
		{rights[9], 0, 7, 0, 0}, {rights[9], 0, 14, 1, 8}, {rights[9], 0, 20, 2, 15}, {rights[9], 0, 35, 7, 35}, {rights[9], 0, 36, 8, 36},
		{rights[10], 10, 99, 0, 0}, {rights[10], 0, 109, 10, 10}, {rights[10], 19, 101, 1, 100},
	} {
		if units, price := mustMost(t, c.t, c.from, c.money); units != c.units || price != c.cost {
			t.Errorf("Most(%v, %d, %d): %d for %d, want %d for %d", c.t, c.from, c.money, units, price, c.units, c.cost)
		}
	}
}

// TestMostUnitByUnit: drawn tariffs, and one unit after the other, as long as the money lasts.
func TestMostUnitByUnit(t *testing.T) {
	r := rand.New(rand.NewPCG(13, 4))
	for range 3000 {
		l := drawn(r, 40, 30)
		from, money := r.IntN(200), r.IntN(4000)
		units, price := 0, 0
		for {
			next := l[stepOf(l, from+units+1)].Price
			if price+next > money {
				break
			}
			units, price = units+1, price+next
		}
		if n, p := mustMost(t, l, from, money); n != units || p != price {
			t.Fatalf("Most(%v, %d, %d): %d for %d, want %d for %d", l, from, money, n, p, units, price)
		}
	}
}

// TestMostAtThePrice: just the price of some units, and a cent more or less, at each edge.
func TestMostAtThePrice(t *testing.T) {
	for _, l := range rights {
		for _, from := range froms(l) {
			for _, units := range amounts(l, from) {
				price := upTo(l, from+units) - upTo(l, from)
				if n, p := mustMost(t, l, from, price); n != units || p != price {
					t.Errorf("Most(%v, %d, %d): %d for %d, want %d", l, from, price, n, p, units)
				}
				if units > 0 {
					if n, _ := mustMost(t, l, from, price-1); n != units-1 {
						t.Errorf("Most(%v, %d, %d): %d, want %d", l, from, price-1, n, units-1)
					}
				}
			}
		}
	}
}

func TestMostOfWrongTariffs(t *testing.T) {
	for _, c := range wrongs {
		// The tariff's error ahead of what is wrong with the numbers.
		for _, from := range []int{0, 1, 10000000, -1, math.MinInt, math.MaxInt} {
			for _, money := range []int{0, 1, 1000000000000, -1, math.MinInt, math.MaxInt} {
				noMost(t, c.t, from, money, c.want)
			}
		}
	}
}

func TestMostOfWrongNumbers(t *testing.T) {
	for _, l := range rights {
		for _, from := range wrongFroms {
			for _, money := range append([]int{0, 1, 250, 1000000000000}, wrongMoneys...) {
				noMost(t, l, from, money, api.ErrRange)
			}
		}
		for _, money := range wrongMoneys {
			for _, from := range []int{0, 1, 50, 7902849, 9999999, 10000000} {
				noMost(t, l, from, money, api.ErrRange)
			}
		}
	}
}

// What comes of it.

// TestPiecesCostAsMuch: what is bought in pieces costs as much as all at once.
func TestPiecesCostAsMuch(t *testing.T) {
	r := rand.New(rand.NewPCG(13, 5))
	for range 3000 {
		l := drawn(r, 1500000, 100000)
		from := r.IntN(10000001)
		units := r.IntN(limit(from) + 1)
		first := r.IntN(units + 1)
		pieces := mustPrice(t, l, from, first) + mustPrice(t, l, from+first, units-first)
		if whole := mustPrice(t, l, from, units); whole != pieces {
			t.Fatalf("%v: from %d, %d units: %d; with %d of them first: %d", l, from, units, whole, first, pieces)
		}
	}
}

// TestMoreCostsMore: by the next unit's price, which is never nothing.
func TestMoreCostsMore(t *testing.T) {
	for _, l := range rights {
		for _, from := range froms(l) {
			for _, units := range amounts(l, from) {
				if units == 0 {
					continue
				}
				less, more := mustPrice(t, l, from, units-1), mustPrice(t, l, from, units)
				if more-less != l[stepOf(l, from+units)].Price {
					t.Errorf("%v: from %d, %d units: %d, one less: %d", l, from, units, more, less)
				}
			}
		}
	}
}

// TestOneMoreThanTheMost: would cost too much, if it may be bought at all.
func TestOneMoreThanTheMost(t *testing.T) {
	r := rand.New(rand.NewPCG(13, 6))
	for range 5000 {
		l := drawn(r, 1500000, 1+r.IntN(100000))
		from, money := r.IntN(10000001), r.IntN(1000000000001)>>r.IntN(40)
		units, price := mustMost(t, l, from, money)
		if price > money || price != mustPrice(t, l, from, units) {
			t.Fatalf("Most(%v, %d, %d): %d for %d", l, from, money, units, price)
		}
		if units > limit(from) || units < limit(from) && mustPrice(t, l, from, units+1) <= money {
			t.Fatalf("Most(%v, %d, %d): %d for %d, with %d as the limit", l, from, money, units, price, limit(from))
		}
	}
}

// What holds everywhere.

// TestListsStayAsTheyAre: steps and their spare room, with which nothing that comes out is shared.
func TestListsStayAsTheyAre(t *testing.T) {
	room := append(slices.Clone(three), api.Step{Upto: 7, Price: 8}, api.Step{Upto: 9, Price: 10})
	were := slices.Clone(room)
	l := room[:3]
	tariff.Check(l)
	mustPrice(t, l, 40, 300)
	mustMost(t, l, 40, 100000)
	bill := mustBill(t, l, 40, 300)
	want := slices.Clone(bill)
	other := mustBill(t, l, 40, 300)
	for i := range other[:cap(other)] {
		other[:cap(other)][i] = api.Line{Units: -1, Price: -1, Cost: -1}
	}
	if !slices.Equal(room, were) {
		t.Errorf("the steps and their spare room: %v; they were %v", room, were)
	}
	if !slices.Equal(bill, want) {
		t.Errorf("a bill became %v when another one was written over; it was %v", bill, want)
	}
	clear(room)
	if !slices.Equal(bill, want) {
		t.Errorf("a bill became %v when the steps were written over; it was %v", bill, want)
	}
	if got := mustBill(t, three, 40, 300); !slices.Equal(got, want) {
		t.Errorf("the same bill, later: %v, want %v", got, want)
	}
}

// TestSpareRoomHoldsNoSteps: what lies behind the list is none of it.
func TestSpareRoomHoldsNoSteps(t *testing.T) {
	if e := tariff.Check(three[:2]); e != api.ErrForm {
		t.Errorf("Check of the first two steps: %v, want ErrForm", e)
	}
	refused(t, three[:2], 0, 1, api.ErrForm)
	noMost(t, three[:2], 0, 1, api.ErrForm)
}

// TestNothingIsKept: calls from many sides answer what one alone answers.
func TestNothingIsKept(t *testing.T) {
	var all sync.WaitGroup
	for i := range 8 {
		all.Go(func() {
			r := rand.New(rand.NewPCG(13, uint64(i%2)))
			for range 500 {
				l := drawn(r, 40, 30)
				from, units := r.IntN(200), r.IntN(200)
				want := unitByUnit(l, from, units)
				if got, e := tariff.Bill(l, from, units); e != api.OK || !slices.Equal(got, want) {
					t.Errorf("Bill(%v, %d, %d): %v, %v, want %v", l, from, units, got, e, want)
				}
				if n, p, e := tariff.Most(l, from, cost(want)); e != api.OK || n != units || p != cost(want) {
					t.Errorf("Most(%v, %d, %d): %d, %d, %v, want %d", l, from, cost(want), n, p, e, units)
				}
			}
		})
	}
	all.Wait()
}
