package debt_test

import (
	"math"
	"math/rand/v2"
	"slices"
	"sync"
	"testing"

	"vendmeter/api"
	"vendmeter/debt"
)

// two: the debts of the chapter's example.
var two = []api.Debt{{Owed: 300}, {Owed: 500}}

// rights: lists that are right, from the least numbers to the most.
var rights = [][]api.Debt{
	nil,
	{},
	two,
	{{}},
	{{Owed: 1}},
	{{Owed: 0, Bp: 10000}},
	{{Owed: 1000000000, Bp: 10000}},
	{{Owed: 999999999, Bp: 9999}, {}, {Owed: 1, Bp: 1}},
	{{}, {}, {Owed: 7, Bp: 250}, {}, {Owed: 9, Bp: 0}, {}},
	{{}, {}, {}, {}, {}, {}, {}, {}},
	many(8),
	slices.Repeat([]api.Debt{{Owed: 1000000000, Bp: 10000}}, 8),
}

// wrongs: lists that are not right, and why; of several reasons the first one.
var wrongs = []struct {
	name string
	l    []api.Debt
	want api.Errno
}{
	{"nine debts", many(9), api.ErrSize},
	{"ten debts", many(10), api.ErrSize},
	{"many debts", many(1000), api.ErrSize},
	{"nine debts of nothing", make([]api.Debt, 9), api.ErrSize},
	{"nine debts, all of them wrong", slices.Repeat([]api.Debt{{Owed: -1, Bp: -1}}, 9), api.ErrSize},
	{"nine debts, the last one wrong", append(many(8), api.Debt{Owed: 1000000001}), api.ErrSize},

	{"below 0", []api.Debt{{Owed: -1}}, api.ErrRange},
	{"the least that may be owed", []api.Debt{{Owed: math.MinInt}}, api.ErrRange},
	{"above MaxOwed", []api.Debt{{Owed: 1000000001}}, api.ErrRange},
	{"the greatest that may be owed", []api.Debt{{Owed: math.MaxInt}}, api.ErrRange},
	{"1, but for its high bits", []api.Debt{{Owed: 1<<32 + 1}}, api.ErrRange},
	{"a Bp below 0", []api.Debt{{Owed: 1, Bp: -1}}, api.ErrRange},
	{"the least Bp", []api.Debt{{Owed: 1, Bp: math.MinInt}}, api.ErrRange},
	{"a Bp above MaxBp", []api.Debt{{Owed: 1, Bp: 10001}}, api.ErrRange},
	{"the greatest Bp", []api.Debt{{Owed: 1, Bp: math.MaxInt}}, api.ErrRange},
	{"a Bp that is 1, but for its high bits", []api.Debt{{Owed: 1, Bp: 1<<32 + 1}}, api.ErrRange},
	{"a wrong Bp where nothing is owed", []api.Debt{{Owed: 0, Bp: 10001}}, api.ErrRange},
	{"one that would make up for another", []api.Debt{{Owed: 1}, {Owed: -1}}, api.ErrRange},
	{"greatest and least", []api.Debt{{Owed: math.MaxInt}, {Owed: math.MinInt}, {Owed: 1}}, api.ErrRange},
}

// wrongTenders: amounts that nobody hands over.
var wrongTenders = []int{
	-1, -2, -100000000, math.MinInt32, math.MinInt + 1, math.MinInt,
	100000001, 100000002, 1000000000000, 1000000000001, 1 << 32, 1<<32 + 1, 1 << 62, math.MaxInt - 1, math.MaxInt,
}

// wrongBps: shares that are none.
var wrongBps = []int{
	-1, -2, -10000, math.MinInt32, math.MinInt + 1, math.MinInt,
	10001, 10002, 20000, math.MaxInt32, 1 << 32, 1<<32 + 1, 1 << 62, math.MaxInt - 1, math.MaxInt,
}

// wrongMonths: numbers of months for which nothing ages.
var wrongMonths = []int{
	-1, -2, -2400, math.MinInt32, math.MinInt + 1, math.MinInt,
	2401, 2402, 4800, math.MaxInt32, 1 << 32, 1<<32 + 1, 1 << 62, math.MaxInt - 1, math.MaxInt,
}

// many debts, which are right but for their number.
func many(n int) []api.Debt {
	l := make([]api.Debt, n)
	for i := range l {
		l[i] = api.Debt{Owed: 100 + i, Bp: 10 * i % 10001}
	}
	return l
}

// drawn debts, which are right; some are of nothing.
func drawn(r *rand.Rand, much int) []api.Debt {
	l := make([]api.Debt, r.IntN(9))
	for i := range l {
		l[i] = api.Debt{Owed: max(0, r.IntN(much+much/3+1)-much/3), Bp: r.IntN(10001) >> r.IntN(14)}
	}
	return l
}

// sum of what is owed.
func sum(l []api.Debt) int {
	n := 0
	for _, d := range l {
		n += d.Owed
	}
	return n
}

// centByCent: the debts when that many cents went to them, each cent to the first one of which something is left, and the cents that went there.
func centByCent(l []api.Debt, share int) ([]api.Debt, int) {
	left := slices.Clone(l)
	went := 0
	for range share {
		i := slices.IndexFunc(left, func(d api.Debt) bool { return d.Owed > 0 })
		if i < 0 {
			break
		}
		left[i].Owed--
		went++
	}
	return slices.DeleteFunc(left, func(d api.Debt) bool { return d.Owed == 0 }), went
}

// monthByMonth: what becomes of a debt, all months gone through.
func monthByMonth(d api.Debt, months int) api.Debt {
	for range months {
		d.Owed = min(1000000000, d.Owed+d.Owed*d.Bp/10000)
	}
	return d
}

func mustTotal(t *testing.T, l []api.Debt) int {
	t.Helper()
	n, e := debt.Total(l)
	if e != api.OK {
		t.Fatalf("Total(%v): %v", l, e)
	}
	return n
}

func mustRecover(t *testing.T, l []api.Debt, tender, bp int) ([]api.Debt, int) {
	t.Helper()
	left, went, e := debt.Recover(l, tender, bp)
	if e != api.OK {
		t.Fatalf("Recover(%v, %d, %d): %v", l, tender, bp, e)
	}
	return left, went
}

func mustAge(t *testing.T, l []api.Debt, months int) []api.Debt {
	t.Helper()
	aged, e := debt.Age(l, months)
	if e != api.OK {
		t.Fatalf("Age(%v, %d): %v", l, months, e)
	}
	return aged
}

func mustTimes(t *testing.T, l []api.Debt, tender, bp int) int {
	t.Helper()
	n, e := debt.Times(l, tender, bp)
	if e != api.OK {
		t.Fatalf("Times(%v, %d, %d): %v", l, tender, bp, e)
	}
	return n
}

// noTotal: does Total answer this error, and nothing beside it?
func noTotal(t *testing.T, l []api.Debt, want api.Errno) {
	t.Helper()
	if n, e := debt.Total(l); e != want || n != 0 {
		t.Errorf("Total(%v): %d, %v, want 0 and %v", l, n, e, want)
	}
}

// noRecover: does Recover answer this error, and nothing beside it?
func noRecover(t *testing.T, l []api.Debt, tender, bp int, want api.Errno) {
	t.Helper()
	if left, went, e := debt.Recover(l, tender, bp); e != want || len(left) != 0 || went != 0 {
		t.Errorf("Recover(%v, %d, %d): %v, %d, %v, want none, 0 and %v", l, tender, bp, left, went, e, want)
	}
}

// noAge: does Age answer this error, and nothing beside it?
func noAge(t *testing.T, l []api.Debt, months int, want api.Errno) {
	t.Helper()
	if aged, e := debt.Age(l, months); e != want || len(aged) != 0 {
		t.Errorf("Age(%v, %d): %v, %v, want none and %v", l, months, aged, e, want)
	}
}

// noTimes: does Times answer this error, and nothing beside it?
func noTimes(t *testing.T, l []api.Debt, tender, bp int, want api.Errno) {
	t.Helper()
	if n, e := debt.Times(l, tender, bp); e != want || n != 0 {
		t.Errorf("Times(%v, %d, %d): %d, %v, want 0 and %v", l, tender, bp, n, e, want)
	}
}

// P14.1

func TestRightLists(t *testing.T) {
	for _, l := range rights {
		mustTotal(t, l)
		mustRecover(t, l, 1000, 4000)
		mustAge(t, l, 3)
		mustTimes(t, l, 1000, 4000)
	}
	for n := range 9 {
		mustTotal(t, many(n))
		mustRecover(t, many(n), 1000, 4000)
		mustAge(t, many(n), 3)
		mustTimes(t, many(n), 1000, 4000)
	}
}

// TestWrongLists: ahead of all else that may be wrong, also where no debt would be touched.
func TestWrongLists(t *testing.T) {
	for _, c := range wrongs {
		noTotal(t, c.l, c.want)
		for _, tender := range []int{0, 1, 1000, 100000000, -1, 100000001, math.MinInt, math.MaxInt} {
			for _, bp := range []int{0, 1, 4000, 10000, -1, 10001, math.MinInt, math.MaxInt} {
				noRecover(t, c.l, tender, bp, c.want)
				noTimes(t, c.l, tender, bp, c.want)
			}
		}
		for _, months := range []int{0, 1, 2400, -1, 2401, math.MinInt, math.MaxInt} {
			noAge(t, c.l, months, c.want)
		}
	}
}

// TestNumbersAtEachPlace: one number out of bounds is told wherever it stands, and numbers at their bounds are none.
func TestNumbersAtEachPlace(t *testing.T) {
	all := func(l []api.Debt, want api.Errno) {
		t.Helper()
		_, total := debt.Total(l)
		_, _, recovered := debt.Recover(l, 1000, 4000)
		_, aged := debt.Age(l, 2)
		_, times := debt.Times(l, 1000, 4000)
		if got := []api.Errno{total, recovered, aged, times}; !slices.Equal(got, slices.Repeat([]api.Errno{want}, 4)) {
			t.Errorf("%v: Total, Recover, Age, Times: %v, want %v", l, got, want)
		}
	}
	for n := 1; n <= 8; n++ {
		for i := range n {
			for _, wrong := range []int{math.MinInt, -1, 1000000001, 1<<32 + 1, math.MaxInt} {
				l := many(n)
				l[i].Owed = wrong
				all(l, api.ErrRange)
			}
			for _, wrong := range []int{math.MinInt, -1, 10001, 1<<32 + 1, math.MaxInt} {
				l := many(n)
				l[i].Bp = wrong
				all(l, api.ErrRange)
			}
			for _, right := range []api.Debt{{Owed: 0, Bp: 0}, {Owed: 1, Bp: 10000}, {Owed: 1000000000, Bp: 0}, {Owed: 1000000000, Bp: 10000}, {Owed: 999999999, Bp: 9999}} {
				l := many(n)
				l[i] = right
				all(l, api.OK)
			}
		}
	}
}

// P14.2

func TestTotal(t *testing.T) {
	for _, c := range []struct {
		l    []api.Debt
		want int
	}{
		{nil, 0}, {[]api.Debt{}, 0}, {[]api.Debt{{}}, 0}, {[]api.Debt{{Bp: 10000}}, 0},
		{two, 800}, {two[:1], 300}, {two[1:], 500}, {[]api.Debt{{Owed: 1, Bp: 500}}, 1},
		{[]api.Debt{{}, {Owed: 5}, {}, {Owed: 6}, {}}, 11},
		{many(8), 828},
		{[]api.Debt{{Owed: 1000000000}}, 1000000000},
		{[]api.Debt{{Owed: 1000000000}, {Owed: 1000000000}}, 2000000000},
		{slices.Repeat([]api.Debt{{Owed: 1000000000, Bp: 10000}}, 8), 8000000000},
		{slices.Repeat([]api.Debt{{Owed: 999999999}}, 8), 7999999992},
	} {
		if got := mustTotal(t, c.l); got != c.want {
			t.Errorf("Total(%v): %d, want %d", c.l, got, c.want)
		}
	}
}

func TestTotalOfDrawnDebts(t *testing.T) {
	r := rand.New(rand.NewPCG(14, 2))
	for range 2000 {
		l := drawn(r, 1000000000)
		if got := mustTotal(t, l); got != sum(l) {
			t.Fatalf("Total(%v): %d, want %d", l, got, sum(l))
		}
	}
}

// P14.3

func TestRecover(t *testing.T) {
	most := slices.Repeat([]api.Debt{{Owed: 1000000000, Bp: 10000}}, 8)
	for _, c := range []struct {
		l          []api.Debt
		tender, bp int
		left       []api.Debt
		went       int
	}{
		{two, 1000, 4000, []api.Debt{{Owed: 400}}, 400},
		{two, 0, 4000, two, 0}, {two, 1000, 0, two, 0}, {two, 0, 0, two, 0},
		// The share is rounded down.
		{two, 9999, 1, two, 0}, {two, 10000, 1, []api.Debt{{Owed: 299}, {Owed: 500}}, 1}, {two, 19999, 1, []api.Debt{{Owed: 299}, {Owed: 500}}, 1},
		{two, 1, 9999, two, 0}, {two, 1, 10000, []api.Debt{{Owed: 299}, {Owed: 500}}, 1},
		{two, 3, 5000, []api.Debt{{Owed: 299}, {Owed: 500}}, 1},
		// Just the first one, and a cent less or more.
		{two, 299, 10000, []api.Debt{{Owed: 1}, {Owed: 500}}, 299}, {two, 300, 10000, []api.Debt{{Owed: 500}}, 300}, {two, 301, 10000, []api.Debt{{Owed: 499}}, 301},
		// Just all of them, and a cent less or more.
		{two, 799, 10000, []api.Debt{{Owed: 1}}, 799}, {two, 800, 10000, nil, 800}, {two, 801, 10000, nil, 800}, {two, 1601, 5000, nil, 800},
		{two, 100000000, 10000, nil, 800}, {two, 100000000, 1, nil, 800},
		// Nothing is left of what was nothing, whatever goes to the others.
		{nil, 1000, 4000, nil, 0}, {[]api.Debt{}, 100000000, 10000, nil, 0}, {[]api.Debt{{}}, 1000, 4000, nil, 0}, {[]api.Debt{{}, {Bp: 10000}}, 0, 0, nil, 0},
		{[]api.Debt{{}, {Owed: 5}}, 0, 0, []api.Debt{{Owed: 5}}, 0},
		{[]api.Debt{{Owed: 5}, {}}, 0, 0, []api.Debt{{Owed: 5}}, 0},
		{[]api.Debt{{Bp: 3}, {Owed: 5, Bp: 4}, {Bp: 5}, {Owed: 6, Bp: 6}, {Bp: 7}}, 7, 10000, []api.Debt{{Owed: 4, Bp: 6}}, 7},
		{[]api.Debt{{Bp: 3}, {Owed: 5, Bp: 4}, {Bp: 5}, {Owed: 6, Bp: 6}, {Bp: 7}}, 2, 10000, []api.Debt{{Owed: 3, Bp: 4}, {Owed: 6, Bp: 6}}, 2},
		// Not the one that grows most, nor the least one: the first one.
		{[]api.Debt{{Owed: 50, Bp: 1}, {Owed: 9, Bp: 10000}, {Owed: 2, Bp: 0}}, 49, 10000, []api.Debt{{Owed: 1, Bp: 1}, {Owed: 9, Bp: 10000}, {Owed: 2, Bp: 0}}, 49},
		{[]api.Debt{{Owed: 50, Bp: 1}, {Owed: 9, Bp: 10000}, {Owed: 2, Bp: 0}}, 60, 10000, []api.Debt{{Owed: 1, Bp: 0}}, 60},
		// Two alike stay two.
		{[]api.Debt{{Owed: 4, Bp: 1}, {Owed: 4, Bp: 1}, {Owed: 4, Bp: 1}}, 4, 10000, []api.Debt{{Owed: 4, Bp: 1}, {Owed: 4, Bp: 1}}, 4},
		// The most of all.
		{most, 100000000, 10000, append([]api.Debt{{Owed: 900000000, Bp: 10000}}, most[:7]...), 100000000},
		{most, 100000000, 9999, append([]api.Debt{{Owed: 900010000, Bp: 10000}}, most[:7]...), 99990000},
		{most, 99999999, 1, append([]api.Debt{{Owed: 999990001, Bp: 10000}}, most[:7]...), 9999},
		{[]api.Debt{{Owed: 100000000}}, 100000000, 10000, nil, 100000000},
		{many(8), 828, 10000, nil, 828},
	} {
		if left, went := mustRecover(t, c.l, c.tender, c.bp); !slices.Equal(left, c.left) || went != c.went {
			t.Errorf("Recover(%v, %d, %d): %v, %d, want %v, %d", c.l, c.tender, c.bp, left, went, c.left, c.went)
		}
	}
}

// TestRecoverCentByCent: drawn debts, and one cent after the other.
func TestRecoverCentByCent(t *testing.T) {
	r := rand.New(rand.NewPCG(14, 3))
	for range 3000 {
		l := drawn(r, 60)
		tender, bp := r.IntN(900), r.IntN(10001)
		left, went := centByCent(l, tender*bp/10000)
		if got, n := mustRecover(t, l, tender, bp); !slices.Equal(got, left) || n != went {
			t.Fatalf("Recover(%v, %d, %d): %v, %d, want %v, %d", l, tender, bp, got, n, left, went)
		}
	}
}

func TestRecoverOfWrongNumbers(t *testing.T) {
	for _, l := range rights {
		for _, tender := range wrongTenders {
			for _, bp := range append([]int{0, 1, 4000, 10000}, wrongBps...) {
				noRecover(t, l, tender, bp, api.ErrRange)
			}
		}
		for _, bp := range wrongBps {
			for _, tender := range []int{0, 1, 1000, 100000000} {
				noRecover(t, l, tender, bp, api.ErrRange)
			}
		}
	}
}

// P14.4

func TestAge(t *testing.T) {
	for _, c := range []struct {
		l      []api.Debt
		months int
		want   []api.Debt
	}{
		{[]api.Debt{{Owed: 1000, Bp: 250}}, 1, []api.Debt{{Owed: 1025, Bp: 250}}},
		{[]api.Debt{{Owed: 1000, Bp: 250}}, 2, []api.Debt{{Owed: 1050, Bp: 250}}},
		{[]api.Debt{{Owed: 1000, Bp: 250}}, 3, []api.Debt{{Owed: 1076, Bp: 250}}},
		{[]api.Debt{{Owed: 1000, Bp: 250}}, 0, []api.Debt{{Owed: 1000, Bp: 250}}},
		{nil, 0, nil}, {nil, 2400, nil}, {[]api.Debt{}, 12, nil},
		// A debt of 0 stays where it is, and what it is.
		{[]api.Debt{{}}, 5, []api.Debt{{}}},
		{[]api.Debt{{Bp: 10000}, {Owed: 1, Bp: 10000}, {Bp: 7}}, 5, []api.Debt{{Bp: 10000}, {Owed: 32, Bp: 10000}, {Bp: 7}}},
		{[]api.Debt{{Bp: 10000}}, 0, []api.Debt{{Bp: 10000}}},
		// Rounded down: as little as grows by nothing never grows, and a cent more does.
		{[]api.Debt{{Owed: 39, Bp: 250}, {Owed: 40, Bp: 250}}, 1, []api.Debt{{Owed: 39, Bp: 250}, {Owed: 41, Bp: 250}}},
		{[]api.Debt{{Owed: 39, Bp: 250}, {Owed: 40, Bp: 250}}, 2400, []api.Debt{{Owed: 39, Bp: 250}, {Owed: 1000000000, Bp: 250}}},
		{[]api.Debt{{Owed: 9999, Bp: 1}, {Owed: 10000, Bp: 1}}, 2400, []api.Debt{{Owed: 9999, Bp: 1}, {Owed: 12400, Bp: 1}}},
		{[]api.Debt{{Owed: 1, Bp: 9999}, {Owed: 1, Bp: 10000}, {Owed: 2, Bp: 9999}}, 1, []api.Debt{{Owed: 1, Bp: 9999}, {Owed: 2, Bp: 10000}, {Owed: 3, Bp: 9999}}},
		{[]api.Debt{{Owed: 1000000000}, {Owed: 5}}, 2400, []api.Debt{{Owed: 1000000000}, {Owed: 5}}},
		// Up to MaxOwed and no further.
		{[]api.Debt{{Owed: 500000000, Bp: 10000}}, 1, []api.Debt{{Owed: 1000000000, Bp: 10000}}},
		{[]api.Debt{{Owed: 500000001, Bp: 10000}}, 1, []api.Debt{{Owed: 1000000000, Bp: 10000}}},
		{[]api.Debt{{Owed: 499999999, Bp: 10000}}, 1, []api.Debt{{Owed: 999999998, Bp: 10000}}},
		{[]api.Debt{{Owed: 499999999, Bp: 10000}}, 2, []api.Debt{{Owed: 1000000000, Bp: 10000}}},
		{[]api.Debt{{Owed: 999999999, Bp: 1}}, 1, []api.Debt{{Owed: 1000000000, Bp: 1}}},
		{[]api.Debt{{Owed: 1000000000, Bp: 5}}, 7, []api.Debt{{Owed: 1000000000, Bp: 5}}},
		{slices.Repeat([]api.Debt{{Owed: 1000000000, Bp: 10000}}, 8), 2400, slices.Repeat([]api.Debt{{Owed: 1000000000, Bp: 10000}}, 8)},
		{[]api.Debt{{Owed: 1, Bp: 10000}}, 29, []api.Debt{{Owed: 536870912, Bp: 10000}}},
		{[]api.Debt{{Owed: 1, Bp: 10000}}, 30, []api.Debt{{Owed: 1000000000, Bp: 10000}}},
		{[]api.Debt{{Owed: 1, Bp: 10000}}, 2400, []api.Debt{{Owed: 1000000000, Bp: 10000}}},
	} {
		if got := mustAge(t, c.l, c.months); !slices.Equal(got, c.want) {
			t.Errorf("Age(%v, %d): %v, want %v", c.l, c.months, got, c.want)
		}
	}
}

// TestAgeStopsAtOneAlone: one that does not grow, or no more, wherever it stands, keeps none of the others from growing.
func TestAgeStopsAtOneAlone(t *testing.T) {
	for _, still := range []api.Debt{{}, {Owed: 5, Bp: 100}, {Owed: 77}, {Owed: 1000000000, Bp: 900}, {Owed: 900000000, Bp: 5000}} {
		for n := 2; n <= 8; n++ {
			for i := range n {
				l := slices.Repeat([]api.Debt{{Owed: 1000, Bp: 250}}, n)
				l[i] = still
				want := slices.Repeat([]api.Debt{{Owed: 1338, Bp: 250}}, n)
				want[i] = monthByMonth(still, 12)
				if got := mustAge(t, l, 12); !slices.Equal(got, want) {
					t.Fatalf("Age(%v, 12): %v, want %v", l, got, want)
				}
			}
		}
	}
}

// TestAgeMonthByMonth: drawn debts, with each month reckoned, also those in which nothing grows.
func TestAgeMonthByMonth(t *testing.T) {
	r := rand.New(rand.NewPCG(14, 4))
	for range 2000 {
		l := drawn(r, 1000000000>>r.IntN(30))
		months := r.IntN(2401) >> r.IntN(12)
		want := make([]api.Debt, len(l))
		for i, d := range l {
			want[i] = monthByMonth(d, months)
		}
		if got := mustAge(t, l, months); !slices.Equal(got, want) {
			t.Fatalf("Age(%v, %d): %v, want %v", l, months, got, want)
		}
	}
}

// TestAgeInPieces: some months, and the others behind them, are as good as all at once.
func TestAgeInPieces(t *testing.T) {
	r := rand.New(rand.NewPCG(14, 5))
	for range 1000 {
		l := drawn(r, 1000000000>>r.IntN(30))
		months := r.IntN(2401)
		first := r.IntN(months + 1)
		pieces := mustAge(t, mustAge(t, l, first), months-first)
		if whole := mustAge(t, l, months); !slices.Equal(whole, pieces) {
			t.Fatalf("Age(%v, %d): %v; with %d of them first: %v", l, months, whole, first, pieces)
		}
	}
}

func TestAgeOfWrongMonths(t *testing.T) {
	for _, l := range rights {
		for _, months := range wrongMonths {
			noAge(t, l, months, api.ErrRange)
		}
		for _, months := range []int{0, 1, 2399, 2400} {
			mustAge(t, l, months)
		}
	}
}

// P14.5

func TestTimes(t *testing.T) {
	most := slices.Repeat([]api.Debt{{Owed: 1000000000, Bp: 10000}}, 8)
	for _, c := range []struct {
		l                []api.Debt
		tender, bp, want int
	}{
		{two, 1000, 4000, 2}, {[]api.Debt{{Owed: 300}, {Owed: 501}}, 1000, 4000, 3}, {[]api.Debt{{Owed: 300}, {Owed: 499}}, 1000, 4000, 2},
		{two, 799, 10000, 2}, {two, 800, 10000, 1}, {two, 801, 10000, 1}, {two, 100000000, 10000, 1},
		{two, 1, 10000, 800}, {two, 10000, 1, 800}, {two, 19999, 1, 800}, {two, 20000, 1, 400}, {two, 3, 5000, 800},
		{[]api.Debt{{Owed: 1}}, 1, 10000, 1}, {[]api.Debt{{}, {Owed: 1}, {}}, 1, 10000, 1},
		// What would grow does not.
		{[]api.Debt{{Owed: 10, Bp: 10000}}, 1, 10000, 10},
		// Nothing is owed: also where the share is nothing.
		{nil, 1000, 4000, 0}, {nil, 0, 0, 0}, {[]api.Debt{}, 100000000, 10000, 0}, {[]api.Debt{{}}, 0, 10000, 0}, {[]api.Debt{{}, {Bp: 10000}}, 1000, 0, 0}, {[]api.Debt{{}}, 1, 1, 0},
		{most, 100000000, 10000, 80}, {most, 1, 10000, 8000000000}, {most, 100000000, 9999, 81}, {most, 100000000, 1, 800000}, {most, 99999999, 1, 800081},
	} {
		if got := mustTimes(t, c.l, c.tender, c.bp); got != c.want {
			t.Errorf("Times(%v, %d, %d): %d, want %d", c.l, c.tender, c.bp, got, c.want)
		}
	}
}

// TestTimesOneByOne: as often as Recover leaves something.
func TestTimesOneByOne(t *testing.T) {
	r := rand.New(rand.NewPCG(14, 6))
	for range 3000 {
		l := drawn(r, 60)
		tender, bp := r.IntN(300), r.IntN(10001)
		if tender*bp/10000 == 0 && sum(l) > 0 {
			noTimes(t, l, tender, bp, api.ErrZero)
			continue
		}
		want, left := 0, l
		for ; sum(left) > 0 && want <= sum(l); want++ {
			left, _ = mustRecover(t, left, tender, bp)
		}
		if got := mustTimes(t, l, tender, bp); got != want {
			t.Fatalf("Times(%v, %d, %d): %d, want %d", l, tender, bp, got, want)
		}
	}
}

func TestTimesOfNoShare(t *testing.T) {
	for _, l := range rights {
		for _, c := range []struct{ tender, bp int }{{0, 0}, {0, 1}, {0, 10000}, {1, 0}, {100000000, 0}, {1, 1}, {1, 9999}, {9999, 1}, {4, 2499}} {
			if sum(l) > 0 {
				noTimes(t, l, c.tender, c.bp, api.ErrZero)
			} else if got := mustTimes(t, l, c.tender, c.bp); got != 0 {
				t.Errorf("Times(%v, %d, %d): %d, want 0", l, c.tender, c.bp, got)
			}
		}
	}
}

// TestTimesOfWrongNumbers: also where nothing is owed, or the share would be 0.
func TestTimesOfWrongNumbers(t *testing.T) {
	for _, l := range rights {
		for _, tender := range wrongTenders {
			for _, bp := range append([]int{0, 1, 4000, 10000}, wrongBps...) {
				noTimes(t, l, tender, bp, api.ErrRange)
			}
		}
		for _, bp := range wrongBps {
			for _, tender := range []int{0, 1, 1000, 100000000} {
				noTimes(t, l, tender, bp, api.ErrRange)
			}
		}
	}
}

// What comes of it.

// TestToTheCent: what went there is missing from what is owed, and is no more than the share, nor than is owed.
func TestToTheCent(t *testing.T) {
	r := rand.New(rand.NewPCG(14, 7))
	for range 5000 {
		l := drawn(r, 1000000000>>r.IntN(30))
		tender, bp := r.IntN(100000001)>>r.IntN(27), r.IntN(10001)
		left, went := mustRecover(t, l, tender, bp)
		if mustTotal(t, l)-went != mustTotal(t, left) {
			t.Fatalf("Recover(%v, %d, %d): %v, %d: %d are missing", l, tender, bp, left, went, mustTotal(t, l)-mustTotal(t, left))
		}
		if went != min(tender*bp/10000, sum(l)) {
			t.Fatalf("Recover(%v, %d, %d): %d went there", l, tender, bp, went)
		}
	}
}

// TestNoneBeforeTheOnesAhead: all but the first one that is left are what they were, and are the last ones.
func TestNoneBeforeTheOnesAhead(t *testing.T) {
	r := rand.New(rand.NewPCG(14, 8))
	for range 5000 {
		l := drawn(r, 1000000000>>r.IntN(30))
		left, _ := mustRecover(t, l, r.IntN(100000001)>>r.IntN(27), r.IntN(10001))
		if len(left) == 0 {
			continue
		}
		was := slices.DeleteFunc(slices.Clone(l), func(d api.Debt) bool { return d.Owed == 0 })
		was = was[len(was)-len(left):]
		if !slices.Equal(left[1:], was[1:]) || left[0].Bp != was[0].Bp || left[0].Owed < 1 || left[0].Owed > was[0].Owed {
			t.Fatalf("%v became %v", l, left)
		}
	}
}

// What holds everywhere.

// TestListsStayAsTheyAre: debts and their spare room, with which nothing that comes out is shared.
func TestListsStayAsTheyAre(t *testing.T) {
	room := []api.Debt{{Owed: 1000, Bp: 250}, {Owed: 500, Bp: 100}, {Owed: 30}, {Owed: 7, Bp: 8}, {Owed: 9, Bp: 10}}
	were := slices.Clone(room)
	answers := func() [][]api.Debt {
		l := room[:3]
		mustTotal(t, l)
		mustTimes(t, l, 1000, 4000)
		some, _ := mustRecover(t, l, 1001, 10000)
		none, _ := mustRecover(t, l, 0, 0)
		return [][]api.Debt{some, none, mustAge(t, l, 2), mustAge(t, l, 0)}
	}
	copies := func(all [][]api.Debt) [][]api.Debt {
		var out [][]api.Debt
		for _, l := range all {
			out = append(out, slices.Clone(l))
		}
		return out
	}
	alike := func(a, b [][]api.Debt) bool { return slices.EqualFunc(a, b, slices.Equal) }
	first := answers()
	want := copies(first)
	for _, l := range answers() {
		for i := range l[:cap(l)] {
			l[:cap(l)][i] = api.Debt{Owed: -1, Bp: -1}
		}
	}
	if !slices.Equal(room, were) {
		t.Errorf("the debts and their spare room: %v; they were %v", room, were)
	}
	if !alike(first, want) {
		t.Errorf("answers became %v when others were written over; they were %v", first, want)
	}
	clear(room)
	if !alike(first, want) {
		t.Errorf("answers became %v when the debts were written over; they were %v", first, want)
	}
}

// TestSpareRoomHoldsNoDebts: what lies behind the list is none of it.
func TestSpareRoomHoldsNoDebts(t *testing.T) {
	l := []api.Debt{{Owed: 5}, {Owed: -1}, {Bp: -1}}[:1]
	if got := mustTotal(t, l); got != 5 {
		t.Errorf("Total(%v): %d, want 5", l, got)
	}
	if got := mustTotal(t, many(1000)[:8]); got != 828 {
		t.Errorf("Total of the first eight: %d, want 828", got)
	}
	mustRecover(t, l, 3, 10000)
	mustAge(t, l, 3)
	mustTimes(t, l, 3, 10000)
}

// TestNothingIsKept: calls from many sides answer what one alone answers.
func TestNothingIsKept(t *testing.T) {
	var all sync.WaitGroup
	for i := range 8 {
		all.Go(func() {
			r := rand.New(rand.NewPCG(14, uint64(i%2)))
			for range 300 {
				l := drawn(r, 60)
				share, months := r.IntN(300), r.IntN(40)
				left, went := centByCent(l, share)
				if got, n, e := debt.Recover(l, share, 10000); e != api.OK || n != went || !slices.Equal(got, left) {
					t.Errorf("Recover(%v, %d, 10000): %v, %d, %v, want %v, %d", l, share, got, n, e, left, went)
				}
				aged := slices.Clone(l)
				for i, d := range aged {
					aged[i] = monthByMonth(d, months)
				}
				if got, e := debt.Age(l, months); e != api.OK || !slices.Equal(got, aged) {
					t.Errorf("Age(%v, %d): %v, %v, want %v", l, months, got, e, aged)
				}
			}
		})
	}
	all.Wait()
}
