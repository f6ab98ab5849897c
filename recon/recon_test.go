package recon_test

import (
	"math"
	"math/rand/v2"
	"slices"
	"sync"
	"testing"

	"vendmeter/api"
	"vendmeter/book"
	"vendmeter/meter"
	"vendmeter/oracle"
	"vendmeter/recon"
	"vendmeter/token"
	"vendmeter/window"
)

// The chapter's numbers, written out.
const (
	mostTokens = 120
	mostId     = 1048575
	mostUnits  = 2097151
)

// many tokens, numbered one by one from this number on, of as many units each.
func many(n, from, units int) []api.Sold {
	l := make([]api.Sold, n)
	for i := range l {
		l[i] = api.Sold{Id: from + i, Amount: units}
	}
	return l
}

// of these numbers, tokens; of the unit 1 the first one, of 2 the second, of 4 the third and so on.
func of(ids ...int) []api.Sold {
	var l []api.Sold
	for i, id := range ids {
		l = append(l, api.Sold{Id: id, Amount: 1 << i})
	}
	return l
}

// took: the window behind taking these numbers.
func took(t *testing.T, ids ...int) api.Window {
	t.Helper()
	var w api.Window
	for _, id := range ids {
		next, e := window.Take(w, id)
		if e != api.OK {
			t.Fatalf("Take(%v, %d): %v", w, id, e)
		}
		w = next
	}
	return w
}

// windowRight: by the words of P8.1.
func windowRight(w api.Window) bool {
	if w.High == 0 {
		return w.Bits == 0
	}
	if w.High < 1 || w.High > mostId || w.Bits&1 == 0 {
		return false
	}
	for i := range 64 {
		if w.Bits&(1<<i) != 0 && w.High-i < 1 {
			return false
		}
	}
	return true
}

// refusal: what is wrong with these, by the words of P21.1.
func refusal(sold []api.Sold, w api.Window) api.Errno {
	if len(sold) > mostTokens {
		return api.ErrSize
	}
	for _, s := range sold {
		if s.Id < 1 || s.Id > mostId || s.Amount < 0 || s.Amount > mostUnits {
			return api.ErrRange
		}
	}
	for i := 1; i < len(sold); i++ {
		if sold[i].Id <= sold[i-1].Id {
			return api.ErrForm
		}
	}
	if !windowRight(w) {
		return api.ErrState
	}
	return api.OK
}

// report by the words of P21.2, where nothing is refused.
func report(sold []api.Sold, w api.Window) api.Report {
	var r api.Report
	bit := func(id int) bool { return id <= w.High && id > w.High-64 && w.Bits&(1<<(w.High-id)) != 0 }
	for _, s := range sold {
		group := 1
		switch {
		case s.Id <= w.High-64:
			group = 2
			r.Lost++
		case bit(s.Id):
			group = 0
			r.Taken++
		default:
			r.Open++
		}
		if s.Class == 0 {
			r.Units[group] += s.Amount
		}
	}
	for id := max(1, w.High-63); id <= w.High; id++ {
		if bit(id) && !slices.ContainsFunc(sold, func(s api.Sold) bool { return s.Id == id }) {
			r.Strange++
		}
	}
	return r
}

// answersAre: do both calls answer what this report tells, or this error?
func answersAre(t *testing.T, sold []api.Sold, w api.Window, want api.Report, f api.Errno) {
	t.Helper()
	if r, e := recon.Of(sold, w); r != want || e != f {
		t.Errorf("Of(%v, %v): %v, %v; want %v, %v", sold, w, r, e, want, f)
	}
	a, b := want.Units[0], want.Units[0]+want.Units[2]
	if least, most, e := recon.Limits(sold, w); least != a || most != b || e != f {
		t.Errorf("Limits(%v, %v): %d, %d, %v; want %d, %d, %v", sold, w, least, most, e, a, b, f)
	}
}

// byRule: do both calls answer what the chapter's words say?
func byRule(t *testing.T, sold []api.Sold, w api.Window) {
	t.Helper()
	if f := refusal(sold, w); f != api.OK {
		refused(t, sold, w, f)
		return
	}
	answersAre(t, sold, w, report(sold, w), api.OK)
}

// refused by both calls, with nothing else told.
func refused(t *testing.T, sold []api.Sold, w api.Window, f api.Errno) {
	t.Helper()
	answersAre(t, sold, w, api.Report{}, f)
}

// good windows: of nothing taken, and of others on the edges.
var good = []api.Window{
	{}, {High: 1, Bits: 1}, {High: 3, Bits: 5}, {High: 63, Bits: 1<<63 - 1}, {High: 64, Bits: math.MaxUint64}, {High: 65, Bits: 1},
	{High: 66, Bits: 1<<63 | 1}, {High: 1000, Bits: math.MaxUint64}, {High: mostId, Bits: 1}, {High: mostId, Bits: math.MaxUint64},
}

// bad windows: those that may not be.
var bad = []api.Window{
	{Bits: 1}, {Bits: 1 << 63}, {High: 1}, {High: 1, Bits: 2}, {High: 1, Bits: 3}, {High: 9, Bits: 4}, {High: 9, Bits: 1<<9 | 1},
	{High: 63, Bits: 1<<63 | 1}, {High: 64, Bits: math.MaxUint64 - 1}, {High: mostId}, {High: mostId + 1, Bits: 1}, {High: 1 << 32, Bits: 1},
	{High: -1, Bits: 1}, {High: -3}, {High: math.MinInt, Bits: 1}, {High: math.MinInt}, {High: math.MaxInt, Bits: math.MaxUint64},
}

// wrongIds and wrongAmounts: beside the ends, at the ends of 64 bits, and those whose lower bits would be good.
var (
	wrongIds     = []int{0, -1, -2, -mostId, math.MinInt32, -1 << 32, math.MinInt + 1, math.MinInt, mostId + 1, mostId + 2, 1<<32 + 1, 1<<62 + 1, math.MaxInt - 1, math.MaxInt}
	wrongAmounts = []int{-1, -2, -mostUnits, math.MinInt32, -1 << 32, math.MinInt + 1, math.MinInt, mostUnits + 1, mostUnits + 2, 1<<32 + 1, 1<<62 + 1, math.MaxInt - 1, math.MaxInt}
)

// classes: those that there are, and others.
var classes = []int{0, 1, 2, 3, 4, -1, 256, 1 << 32, math.MinInt, math.MaxInt}

// P21.1

// TestSize: the most tokens that there may be, and more, be they as they like.
func TestSize(t *testing.T) {
	for _, w := range good {
		for _, n := range []int{0, 1, 2, mostTokens - 1, mostTokens} {
			byRule(t, many(n, 1, 3), w)
		}
		for _, n := range []int{mostTokens + 1, mostTokens + 2, 2 * mostTokens, 100000} {
			refused(t, many(n, 1, 3), w, api.ErrSize)
			refused(t, make([]api.Sold, n), w, api.ErrSize)
		}
	}
}

func TestRangeOfIds(t *testing.T) {
	for _, id := range []int{1, 2, mostId - 1, mostId} {
		answersAre(t, []api.Sold{{Id: id, Amount: 5}}, api.Window{}, api.Report{Open: 1, Units: [3]int{0, 5, 0}}, api.OK)
	}
	for _, id := range wrongIds {
		for n := range 6 {
			for at := range n {
				l := many(n, 7, 3)
				l[at].Id = id
				refused(t, l, api.Window{}, api.ErrRange)
			}
		}
	}
}

// TestRangeOfAmounts: of tokens of every class, whether the Amount is units or not.
func TestRangeOfAmounts(t *testing.T) {
	for _, class := range classes {
		for _, amount := range []int{0, 1, mostUnits - 1, mostUnits} {
			byRule(t, []api.Sold{{Id: 4, Class: class, Amount: amount}}, api.Window{High: 4, Bits: 1})
		}
		for _, amount := range wrongAmounts {
			for n := range 5 {
				for at := range n {
					l := many(n, 7, 3)
					l[at].Class, l[at].Amount = class, amount
					refused(t, l, api.Window{High: 8, Bits: 3}, api.ErrRange)
				}
			}
		}
	}
}

// TestRangeOfTheOthers: classes, tags and revisions are not asked about.
func TestRangeOfTheOthers(t *testing.T) {
	for _, n := range []int{0, 1, 15, 16, 65535, 65536, -1, math.MinInt, math.MaxInt} {
		l := []api.Sold{{Id: 1, Amount: 10, Tag: n}, {Id: 2, Amount: 20, Rev: n}, {Id: 3, Amount: 40, Tag: n, Rev: n}}
		answersAre(t, l, took(t, 2), api.Report{Taken: 1, Open: 2, Units: [3]int{20, 50, 0}}, api.OK)
	}
	for _, class := range classes {
		byRule(t, []api.Sold{{Id: 1, Class: class, Amount: 10}}, api.Window{})
	}
}

// TestForm: one number twice, or a lower one, at each place of lists of each length.
func TestForm(t *testing.T) {
	for n := 2; n <= mostTokens; n++ {
		for at := 1; at < n; at++ {
			l := many(n, 500, 1)
			l[at].Id = l[at-1].Id
			refused(t, l, api.Window{}, api.ErrForm)
			l[at].Id = 1
			refused(t, l, api.Window{}, api.ErrForm)
		}
	}
	for _, ids := range [][]int{{1, 1}, {2, 1}, {1, 2, 1}, {1, 3, 2}, {2, 1, 3}, {1, 2, 2}, {mostId, mostId}, {mostId, 1}, {1, mostId, mostId - 1}} {
		refused(t, of(ids...), api.Window{}, api.ErrForm)
	}
	// Numbers need not follow one another at once.
	for _, ids := range [][]int{{1, 3}, {1, mostId}, {5, 70, 200, 300000}, {mostId - 1, mostId}} {
		byRule(t, of(ids...), api.Window{})
	}
}

func TestState(t *testing.T) {
	for _, l := range [][]api.Sold{nil, {}, of(1), of(1, 2, 3), of(5, 9, 64), of(mostId), many(mostTokens, 1, mostUnits)} {
		for _, w := range bad {
			refused(t, l, w, api.ErrState)
		}
		for _, w := range good {
			byRule(t, l, w)
		}
	}
}

// TestOrderOfErrors: every choice of faults, of which the one that is named first is told, wherever each is in the list.
func TestOrderOfErrors(t *testing.T) {
	order := []api.Errno{api.ErrSize, api.ErrRange, api.ErrForm, api.ErrState}
	r := rand.New(rand.NewPCG(21, 1))
	for faults := 1; faults < 16; faults++ {
		for range 200 {
			l, w := many(20, 10, 1), good[r.IntN(len(good))]
			first := -1
			for i := len(order) - 1; i >= 0; i-- {
				if faults>>i&1 == 0 {
					continue
				}
				first = i
				switch order[i] {
				case api.ErrSize:
					l = append(l, many(101, 500, 1)...)
				case api.ErrRange:
					if at := r.IntN(20); r.IntN(2) == 0 {
						l[at].Id = wrongIds[r.IntN(len(wrongIds))]
					} else {
						l[at].Amount = wrongAmounts[r.IntN(len(wrongAmounts))]
					}
				case api.ErrForm:
					at := r.IntN(19)
					l[at], l[at+1] = l[at+1], l[at]
				case api.ErrState:
					w = bad[r.IntN(len(bad))]
				}
			}
			refused(t, l, w, order[first])
		}
	}
}

// P21.2 and P21.3

func TestExamples(t *testing.T) {
	ten := []api.Sold{{Id: 1, Amount: 10}, {Id: 2, Amount: 20}}
	for _, c := range []struct {
		sold []api.Sold
		w    api.Window
		want api.Report
	}{
		{ten, api.Window{High: 2, Bits: 1}, api.Report{Taken: 1, Open: 1, Units: [3]int{20, 10, 0}}},
		{ten, api.Window{}, api.Report{Open: 2, Units: [3]int{0, 30, 0}}},
		{ten, api.Window{High: 2, Bits: 3}, api.Report{Taken: 2, Units: [3]int{30, 0, 0}}},
		{ten, api.Window{High: 1, Bits: 1}, api.Report{Taken: 1, Open: 1, Units: [3]int{10, 20, 0}}},
		{ten, api.Window{High: 3, Bits: 1}, api.Report{Open: 2, Strange: 1, Units: [3]int{0, 30, 0}}},
		{ten, api.Window{High: 64, Bits: 1}, api.Report{Open: 2, Strange: 1, Units: [3]int{0, 30, 0}}},
		{ten, api.Window{High: 65, Bits: 1}, api.Report{Open: 1, Lost: 1, Strange: 1, Units: [3]int{0, 20, 10}}},
		{ten, api.Window{High: 65, Bits: 1<<63 | 1}, api.Report{Taken: 1, Lost: 1, Strange: 1, Units: [3]int{20, 0, 10}}},
		{ten, api.Window{High: 66, Bits: 1}, api.Report{Lost: 2, Strange: 1, Units: [3]int{0, 0, 30}}},
		{nil, api.Window{}, api.Report{}},
		{nil, api.Window{High: 3, Bits: 5}, api.Report{Strange: 2}},
		{[]api.Sold{}, api.Window{High: 1000, Bits: math.MaxUint64}, api.Report{Strange: 64}},
		{of(1, 500, 1000, 1001), api.Window{High: 1000, Bits: 1}, api.Report{Taken: 1, Open: 1, Lost: 2, Units: [3]int{4, 8, 3}}},
	} {
		answersAre(t, c.sold, c.w, c.want, api.OK)
	}
}

// TestEachNumber: a token of each number near the highest one, alone, and with each other number taken or not.
func TestEachNumber(t *testing.T) {
	for _, w := range good {
		for id := max(1, w.High-130); id <= min(mostId, w.High+130); id++ {
			one := []api.Sold{{Id: id, Amount: 7}}
			byRule(t, one, w)
			for i := 1; i < min(64, w.High); i++ {
				byRule(t, one, api.Window{High: w.High, Bits: w.Bits ^ 1<<i})
			}
		}
	}
}

// TestEdgeOfTheWindow: 63 behind the highest number a token is taken or open; 64 behind it nobody knows.
func TestEdgeOfTheWindow(t *testing.T) {
	for _, high := range []int{65, 66, 67, 100, 128, 129, 5000, mostId} {
		last := []api.Sold{{Id: high - 63, Amount: 3}}
		answersAre(t, last, api.Window{High: high, Bits: 1<<63 | 1}, api.Report{Taken: 1, Strange: 1, Units: [3]int{3, 0, 0}}, api.OK)
		answersAre(t, last, api.Window{High: high, Bits: 1}, api.Report{Open: 1, Strange: 1, Units: [3]int{0, 3, 0}}, api.OK)
		beyond := []api.Sold{{Id: high - 64, Amount: 3}}
		answersAre(t, beyond, api.Window{High: high, Bits: 1<<63 | 1}, api.Report{Lost: 1, Strange: 2, Units: [3]int{0, 0, 3}}, api.OK)
		answersAre(t, beyond, api.Window{High: high, Bits: math.MaxUint64}, api.Report{Lost: 1, Strange: 64, Units: [3]int{0, 0, 3}}, api.OK)
	}
}

// TestStrange: of what was taken, each choice of tokens leaves the others strange; numbers too far back never are.
func TestStrange(t *testing.T) {
	ids := []int{3, 4, 8, 60, 66}
	w := took(t, ids...)
	for choice := range 1 << len(ids) {
		var l []int
		for i, id := range ids {
			if choice>>i&1 == 1 {
				l = append(l, id)
			}
		}
		r, e := recon.Of(of(l...), w)
		if r.Strange != len(ids)-len(l) || r.Taken != len(l) || e != api.OK {
			t.Errorf("of %v, %v were sold: %v, %v", ids, l, r, e)
		}
	}
	far := took(t, append(slices.Clone(ids), 1000)...)
	answersAre(t, nil, far, api.Report{Strange: 1}, api.OK)
	answersAre(t, of(ids...), far, api.Report{Lost: 5, Strange: 1, Units: [3]int{0, 0, 31}}, api.OK)
}

// TestClasses: a token of each class counts, but has units only where it is of the class Credit.
func TestClasses(t *testing.T) {
	w := api.Window{High: 70, Bits: 1<<10 | 1}
	for _, class := range classes {
		l := []api.Sold{
			{Id: 1, Class: class, Amount: 100}, {Id: 6, Class: class, Amount: 20}, {Id: 7, Class: class, Amount: 5},
			{Id: 60, Class: class, Amount: 3}, {Id: 70, Amount: 1000}, {Id: 71, Class: class, Amount: 6},
		}
		want := api.Report{Taken: 2, Open: 2, Lost: 2, Units: [3]int{1000, 0, 0}}
		if class == 0 {
			want.Units = [3]int{1003, 11, 120}
		}
		answersAre(t, l, w, want, api.OK)
	}
}

// TestMostUnits: as many tokens as there may be, of as many units as there may be, in each group.
func TestMostUnits(t *testing.T) {
	const all = mostTokens * mostUnits
	full := many(mostTokens, 1, mostUnits)
	answersAre(t, full, api.Window{}, api.Report{Open: mostTokens, Units: [3]int{0, all, 0}}, api.OK)
	answersAre(t, full, api.Window{High: mostId, Bits: 1}, api.Report{Lost: mostTokens, Strange: 1, Units: [3]int{0, 0, all}}, api.OK)
	answersAre(t, full, api.Window{High: mostTokens, Bits: math.MaxUint64}, api.Report{Taken: 64, Lost: 56, Units: [3]int{64 * mostUnits, 0, 56 * mostUnits}}, api.OK)
	answersAre(t, full, api.Window{High: 64, Bits: math.MaxUint64}, api.Report{Taken: 64, Open: 56, Units: [3]int{64 * mostUnits, 56 * mostUnits, 0}}, api.OK)
}

// TestFewNumbers: all tokens that could be sold of few numbers, with all windows of few numbers.
func TestFewNumbers(t *testing.T) {
	windows := []api.Window{{}}
	for high := 1; high <= 7; high++ {
		for bits := uint64(1); bits < 1<<high; bits += 2 {
			windows = append(windows, api.Window{High: high, Bits: bits})
		}
	}
	for choice := range 1 << 8 {
		var ids []int
		for i := range 8 {
			if choice>>i&1 == 1 {
				ids = append(ids, i+1)
			}
		}
		for _, w := range windows {
			byRule(t, of(ids...), w)
		}
	}
}

// drawnWindow: any window that may be, its highest number on the edges as often as not.
func drawnWindow(r *rand.Rand) api.Window {
	high := r.IntN(mostId + 1)
	switch r.IntN(4) {
	case 0:
		high = r.IntN(200)
	case 1:
		high = mostId - r.IntN(200)
	}
	if high == 0 {
		return api.Window{}
	}
	bits := r.Uint64() | 1
	if r.IntN(3) == 0 {
		bits &= r.Uint64()&r.Uint64() | 1
	}
	if high < 64 {
		bits &= 1<<high - 1
	}
	return api.Window{High: high, Bits: bits}
}

// drawnSold: tokens around a number, some of them further off.
func drawnSold(r *rand.Rand, near int) []api.Sold {
	var l []api.Sold
	id := max(0, near-r.IntN(200))
	step := 1 + r.IntN(9)
	for range r.IntN(mostTokens + 1) {
		if id += 1 + r.IntN(step); id > mostId {
			break
		}
		s := api.Sold{Id: id, Amount: r.IntN(mostUnits + 1), Tag: r.IntN(65536), Rev: r.IntN(16)}
		if r.IntN(4) == 0 {
			s.Class = classes[r.IntN(len(classes))]
		}
		l = append(l, s)
	}
	return l
}

func TestDrawn(t *testing.T) {
	r := rand.New(rand.NewPCG(21, 2))
	for range 5000 {
		w := drawnWindow(r)
		byRule(t, drawnSold(r, w.High), w)
	}
}

// TestDrawnWrong: drawn ones in which one number became another one, good or not.
func TestDrawnWrong(t *testing.T) {
	r := rand.New(rand.NewPCG(21, 3))
	for range 5000 {
		w := drawnWindow(r)
		l := drawnSold(r, w.High)
		switch n := r.IntN(4); {
		case n == 0:
			w.Bits ^= 1 << r.IntN(64)
		case n == 1:
			w.High += r.IntN(401) - 200
		case n == 2 && len(l) > 0:
			l[r.IntN(len(l))].Id += r.IntN(401) - 200
		case len(l) > 0:
			l[r.IntN(len(l))].Amount += r.IntN(2*mostUnits) - mostUnits
		}
		byRule(t, l, w)
	}
}

// What comes of it

// TestEachInOneGroup: there are as many tokens in the groups as there are, and as many units.
func TestEachInOneGroup(t *testing.T) {
	r := rand.New(rand.NewPCG(21, 4))
	for range 3000 {
		w := drawnWindow(r)
		l := drawnSold(r, w.High)
		units := 0
		for _, s := range l {
			if s.Class == api.Credit {
				units += s.Amount
			}
		}
		x, e := recon.Of(l, w)
		if x.Taken+x.Open+x.Lost != len(l) || x.Units[0]+x.Units[1]+x.Units[2] != units || e != api.OK {
			t.Fatalf("Of(%v, %v): %v, %v", l, w, x, e)
		}
		used, _ := window.Used(w)
		if x.Taken+x.Strange != len(used) {
			t.Fatalf("Of(%v, %v): %v; %d numbers were taken", l, w, x, len(used))
		}
	}
}

// TestTakenWithinLimits: numbers are taken in any order, now and then far ahead, whether they were sold or not; what was
// taken of what was sold is at least the one limit, and at most the other.
func TestTakenWithinLimits(t *testing.T) {
	r := rand.New(rand.NewPCG(21, 5))
	for range 1000 {
		sold := drawnSold(r, 200)
		var w api.Window
		took := make(map[int]int)
		for range r.IntN(200) {
			id := 1 + r.IntN(2+r.IntN(600))
			if next, e := window.Take(w, id); e == api.OK {
				w, took[id] = next, 1
			}
		}
		units := 0
		for _, s := range sold {
			if s.Class == api.Credit {
				units += s.Amount * took[s.Id]
			}
		}
		least, most, e := recon.Limits(sold, w)
		if units < least || units > most || e != api.OK {
			t.Fatalf("Limits(%v, %v): %d, %d, %v; %d units were taken", sold, w, least, most, e, units)
		}
	}
}

// TestLivesOfMeters: a book's tokens are keyed at a meter in drawn order, over and over; what it added lies within the
// limits, and nothing is strange till the book forgets what it sold.
func TestLivesOfMeters(t *testing.T) {
	const me = 7
	terms := api.Terms{Tariff: []api.Step{{Upto: api.MaxBought, Price: 10}}}
	r := rand.New(rand.NewPCG(21, 6))
	for range 60 {
		events := []api.Event{{Kind: api.Register, Meter: me}}
		for id := 1; id <= 100; id++ {
			v := api.Event{Kind: api.Sale, Meter: me, Tag: r.IntN(65536)}
			units := 1 + r.IntN(500)
			v.Bill = api.Bill{Id: id, Tender: 10 * units, Price: 10 * units, Units: units}
			if r.IntN(40) == 0 {
				v.Kind, v.Bill = api.Rekey, api.Bill{Id: id}
			}
			events = append(events, v)
		}
		b, _, e := book.Of(terms, events)
		if e != api.OK || len(b.Customers) != 1 || len(b.Customers[0].Sold) != 100 {
			t.Fatalf("the book of %v: %v, %v", events, b, e)
		}
		live(t, r, b.Customers[0].Sold, me)
	}
}

// live a meter's life with these tokens.
func live(t *testing.T, r *rand.Rand, sold []api.Sold, me int) {
	t.Helper()
	var tags api.Oracle
	var tokens []api.Token
	for _, s := range sold {
		k := api.Token{Class: s.Class, Id: s.Id, Amount: s.Amount}
		body, _ := token.Body(k)
		next, tag, e := oracle.Issue(tags, me, s.Rev, body, s.Tag)
		if e != api.OK {
			t.Fatalf("Issue: %v", e)
		}
		tags, k.Tag = next, tag
		tokens = append(tokens, k)
	}
	m, _ := meter.Begin(me)
	all := 0
	for range 80 {
		next, added, _ := meter.Key(m, tags, tokens[r.IntN(1+r.IntN(len(tokens)))])
		// A tick for each token, and more of them behind tries that nobody sold.
		for range 1 + next.Lock {
			next, _, _ = meter.Tick(next, r.IntN(1000))
		}
		m = next
		all += added
		least, most, e := recon.Limits(sold, m.Window)
		if all < least || all > most || e != api.OK {
			t.Fatalf("Limits(%v, %v): %d, %d, %v; %d units were added", sold, m.Window, least, most, e, all)
		}
	}
	if x, e := recon.Of(sold, m.Window); x.Strange != 0 || e != api.OK {
		t.Fatalf("Of(%v, %v): %v, %v", sold, m.Window, x, e)
	}
	used, _ := window.Used(m.Window)
	if x, e := recon.Of(nil, m.Window); x != (api.Report{Strange: len(used)}) || e != api.OK {
		t.Fatalf("Of(nil, %v): %v, %v", m.Window, x, e)
	}
}

// What holds everywhere

// TestListsStayAsTheyAre: the tokens and their spare room, which holds none.
func TestListsStayAsTheyAre(t *testing.T) {
	r := rand.New(rand.NewPCG(21, 7))
	for range 300 {
		w := drawnWindow(r)
		room := append(drawnSold(r, w.High), api.Sold{Id: -1}, api.Sold{Amount: -1}, api.Sold{Id: 1, Amount: 99})
		was := slices.Clone(room)
		for n := range len(room) - 2 {
			byRule(t, room[:n], w)
		}
		if !slices.Equal(room, was) {
			t.Fatalf("tokens and their spare room: %v; they were %v", room, was)
		}
	}
}

// TestAgainTheSame: how goroutines run is not to be seen.
func TestAgainTheSame(t *testing.T) {
	l := many(mostTokens, 1, mostUnits)
	w := api.Window{High: 100, Bits: 0xaaaa5555f0f0ff01}
	want := report(l, w)
	for range 2000 {
		answersAre(t, l, w, want, api.OK)
	}
}

// TestNoLongerLookedAt: when a call has answered, nobody looks at the tokens any more.
func TestNoLongerLookedAt(t *testing.T) {
	w := api.Window{High: 100, Bits: 1}
	l := many(mostTokens, 1, 1)
	for i := range 1000 {
		want := report(l, w)
		r, e := recon.Of(l, w)
		for at := range l {
			l[at].Amount = i + at
		}
		if r != want || e != api.OK {
			t.Fatalf("Of: %v, %v; want %v", r, e, want)
		}
	}
}

// TestManyAtOnce: nothing is kept from call to call, whoever else calls.
func TestManyAtOnce(t *testing.T) {
	shared := many(mostTokens, 1, 9)
	var group sync.WaitGroup
	for i := range 16 {
		group.Go(func() {
			r := rand.New(rand.NewPCG(21, uint64(100+i)))
			for range 100 {
				w := drawnWindow(r)
				byRule(t, drawnSold(r, w.High), w)
				byRule(t, shared, w)
				refused(t, shared, api.Window{High: -1}, api.ErrState)
			}
		})
	}
	group.Wait()
}
