package book_test

import (
	"fmt"
	"math"
	"math/big"
	"math/rand/v2"
	"slices"
	"sync"
	"testing"

	"vendmeter/account"
	"vendmeter/api"
	"vendmeter/book"
)

// ten: terms of one step, 10 cents a unit, and nothing else.
var ten = api.Terms{Tariff: []api.Step{{Upto: 10000000, Price: 10}}}

// full: terms in which nothing is 0.
var full = api.Terms{Tariff: []api.Step{{Upto: 50, Price: 10}, {Upto: 10000000, Price: 20}}, FeeFix: 3, FeeBp: 150, DebtBp: 3000, Allowance: 25}

// strange: numbers that no field may be, some of which are others of 32 bits.
var strange = []int{math.MinInt, math.MinInt + 1, math.MinInt32, -1 << 32, 1<<32 - 1, 1 << 32, 1<<32 + 1, 1<<32 + 2, 1<<32 + 3, 1<<32 + 4, 1<<32 + 5, 1 << 62, math.MaxInt - 1, math.MaxInt}

// bounds of a field, least and most.
type bounds struct{ least, most int }

// bounded: the fields of each kind, in the order of the words; those that it does not name are 0.
var bounded = map[int][13]bounds{
	1: {{1, 1}, {0, 49}},
	2: {{2, 2}, {0, 49}, {0, 2399}, {1, 1048575}, {1, 100000000}, {0, 100000000}, {0, 100000000}, {0, 100000000}, {0, 100000000}, {1, 2097151}, {0, 65535}},
	3: {{3, 3}, {0, 49}, {0, 2399}, {1, 1048575}, {}, {}, {}, {}, {}, {1, 2097151}, {0, 65535}},
	4: {{4, 4}, {0, 49}, {}, {1, 1048575}, {}, {}, {}, {}, {}, {}, {0, 65535}},
	5: {{5, 5}, {0, 49}, {}, {}, {}, {}, {}, {}, {}, {}, {}, {1, 1000000000}, {0, 10000}},
}

// The places of some fields.
const (
	atKind, atMeter, atTender, atDebt, atFee, atPrice, atChange = 0, 1, 4, 5, 6, 7, 8
)

// fields of an event, in the order of the words.
func fields(v api.Event) [13]int {
	return [13]int{v.Kind, v.Meter, v.Month, v.Bill.Id, v.Bill.Tender, v.Bill.Debt, v.Bill.Fee, v.Bill.Price, v.Bill.Change, v.Bill.Units, v.Tag, v.Debt.Owed, v.Debt.Bp}
}

// event of fields.
func event(f [13]int) api.Event {
	return api.Event{Kind: f[0], Meter: f[1], Month: f[2], Bill: api.Bill{Id: f[3], Tender: f[4], Debt: f[5], Fee: f[6], Price: f[7], Change: f[8], Units: f[9]}, Tag: f[10], Debt: api.Debt{Owed: f[11], Bp: f[12]}}
}

// mayBe, by the table; sums are of numbers of any size.
func mayBe(f [13]int) bool {
	b, ok := bounded[f[atKind]]
	if !ok {
		return false
	}
	for i, n := range f {
		if n < b[i].least || n > b[i].most {
			return false
		}
	}
	sum := new(big.Int)
	for _, n := range f[atDebt : atChange+1] {
		sum.Add(sum, big.NewInt(int64(n)))
	}
	return sum.Cmp(big.NewInt(int64(f[atTender]))) == 0
}

// right: events that may be, of each kind, with the least, the most and other numbers.
var right = []api.Event{
	{Kind: 1},
	{Kind: 1, Meter: 49},
	{Kind: 1, Meter: 7},
	{Kind: 2, Bill: api.Bill{Id: 1, Tender: 1, Debt: 1, Units: 1}},
	{Kind: 2, Bill: api.Bill{Id: 1, Tender: 1, Fee: 1, Units: 1}},
	{Kind: 2, Bill: api.Bill{Id: 1, Tender: 1, Price: 1, Units: 1}},
	{Kind: 2, Bill: api.Bill{Id: 1, Tender: 1, Change: 1, Units: 1}},
	{Kind: 2, Meter: 49, Month: 2399, Bill: api.Bill{Id: 1048575, Tender: 100000000, Debt: 100000000, Units: 2097151}, Tag: 65535},
	{Kind: 2, Meter: 49, Month: 2399, Bill: api.Bill{Id: 1048575, Tender: 100000000, Fee: 100000000, Units: 2097151}, Tag: 65535},
	{Kind: 2, Meter: 49, Month: 2399, Bill: api.Bill{Id: 1048575, Tender: 100000000, Price: 100000000, Units: 2097151}, Tag: 65535},
	{Kind: 2, Meter: 49, Month: 2399, Bill: api.Bill{Id: 1048575, Tender: 100000000, Change: 100000000, Units: 2097151}, Tag: 65535},
	{Kind: 2, Meter: 3, Month: 4, Bill: api.Bill{Id: 5, Tender: 1000, Debt: 100, Fee: 200, Price: 300, Change: 400, Units: 6}, Tag: 7},
	{Kind: 2, Meter: 3, Month: 4, Bill: api.Bill{Id: 5, Tender: 100000000, Debt: 25000000, Fee: 25000000, Price: 25000000, Change: 25000000, Units: 6}},
	{Kind: 3, Bill: api.Bill{Id: 1, Units: 1}},
	{Kind: 3, Meter: 49, Month: 2399, Bill: api.Bill{Id: 1048575, Units: 2097151}, Tag: 65535},
	{Kind: 3, Meter: 3, Month: 4, Bill: api.Bill{Id: 5, Units: 6}, Tag: 7},
	{Kind: 4, Bill: api.Bill{Id: 1}},
	{Kind: 4, Meter: 49, Bill: api.Bill{Id: 1048575}, Tag: 65535},
	{Kind: 4, Meter: 3, Bill: api.Bill{Id: 5}, Tag: 7},
	{Kind: 5, Debt: api.Debt{Owed: 1}},
	{Kind: 5, Meter: 49, Debt: api.Debt{Owed: 1000000000, Bp: 10000}},
	{Kind: 5, Meter: 3, Debt: api.Debt{Owed: 500, Bp: 250}},
}

// isEvent: do words tell the event, and the event the words?
func isEvent(t *testing.T, v api.Event) {
	t.Helper()
	f := fields(v)
	want := make([]uint32, 13)
	for i, n := range f {
		want[i] = uint32(n)
	}
	if l, e := book.Encode(v); !slices.Equal(l, want) || e != api.OK {
		t.Fatalf("Encode(%v): %v, %v, want %v", v, l, e, want)
	}
	if got, e := book.Decode(want); got != v || e != api.OK {
		t.Fatalf("Decode(%v): %v, %v, want %v", want, got, e, v)
	}
}

// isNone: an event that may not be, in all three calls; in its words, too, if its numbers are words.
func isNone(t *testing.T, v api.Event) {
	t.Helper()
	if l, e := book.Encode(v); len(l) != 0 || e != api.ErrState {
		t.Fatalf("Encode(%v): %v, %v, want %v", v, l, e, api.ErrState)
	}
	words := make([]uint32, 13)
	for i, n := range fields(v) {
		words[i] = uint32(n)
		if n != int(words[i]) {
			words = nil
			break
		}
	}
	if words != nil {
		if got, e := book.Decode(words); got != (api.Event{}) || e != api.ErrState {
			t.Fatalf("Decode(%v): %v, %v, want %v", words, got, e, api.ErrState)
		}
	}
	refuses(t, ten, []api.Event{v}, 0, api.ErrState)
	refuses(t, ten, []api.Event{{Kind: 1, Meter: 2}, {Kind: 1, Meter: 3}, v}, 2, api.ErrState)
}

// refuses: no book of these events.
func refuses(t *testing.T, terms api.Terms, l []api.Event, at int, want api.Errno) {
	t.Helper()
	if b, n, e := book.Of(terms, l); len(b.Customers) != 0 || n != at || e != want {
		t.Fatalf("Of(%v, %v): %v, %d, %v, want %v at %d", terms, l, b, n, e, want, at)
	}
}

// tells: the book of these events.
func tells(t *testing.T, terms api.Terms, l []api.Event, want ...api.Customer) {
	t.Helper()
	b, at, e := book.Of(terms, l)
	if at != 0 || e != api.OK || !sameBook(b, api.Book{Customers: want}) {
		t.Fatalf("Of(%v, %v): %v, %d, %v, want %v", terms, l, b, at, e, want)
	}
}

func sameBook(a, b api.Book) bool {
	return slices.EqualFunc(a.Customers, b.Customers, func(x, y api.Customer) bool {
		return sameAccount(x.Account, y.Account) && slices.Equal(x.Sold, y.Sold)
	})
}

func sameAccount(a, b api.Account) bool {
	return a.Meter == b.Meter && a.Rev == b.Rev && a.Next == b.Next && a.Month == b.Month && a.Bought == b.Bought && a.Free == b.Free && slices.Equal(a.Debts, b.Debts)
}

// P18.1 to P18.3

func TestEventsThatMayBe(t *testing.T) {
	for _, v := range right {
		if !mayBe(fields(v)) {
			t.Fatalf("%v: the table says that it may not be", v)
		}
		isEvent(t, v)
	}
}

// TestEachField: each field of each event at its bounds, beyond them, and at numbers far away.
func TestEachField(t *testing.T) {
	for _, v := range right {
		f := fields(v)
		for i := range f {
			b := bounded[v.Kind][i]
			for _, n := range append([]int{-1, 0, 1, 2, b.least - 1, b.least, b.most, b.most + 1, b.most + 2}, strange...) {
				g := f
				g[i] = n
				if mayBe(g) {
					isEvent(t, event(g))
				} else {
					isNone(t, event(g))
				}
			}
		}
	}
}

// TestEveryKind: which kinds there are.
func TestEveryKind(t *testing.T) {
	for kind := -20; kind <= 300; kind++ {
		for _, v := range append([]api.Event{{}}, right...) {
			v.Kind = kind
			if mayBe(fields(v)) {
				isEvent(t, v)
			} else {
				isNone(t, v)
			}
		}
	}
}

func TestEveryMeter(t *testing.T) {
	for meter := -60; meter <= 110; meter++ {
		for _, v := range right {
			v.Meter = meter
			if meter >= 0 && meter < 50 {
				isEvent(t, v)
			} else {
				isNone(t, v)
			}
		}
	}
}

// TestMoney: what is handed over goes to the four, to the cent, and none of them is below 0.
func TestMoney(t *testing.T) {
	for _, parts := range [][4]int{
		{-1, 1, 50, 50}, {50, -1, 1, 50}, {50, 50, -1, 1}, {1, 50, 50, -1}, {-100, 200, 0, 0}, {0, 0, 200, -100},
		{100, 100, -100, 0}, {math.MinInt, math.MaxInt, 101, 0}, {0, math.MinInt, math.MaxInt, 101},
		{math.MaxInt, math.MaxInt, 102, 0}, {102, 0, math.MaxInt, math.MaxInt}, {math.MaxInt, 102, math.MaxInt, 0},
		{1 << 62, 1 << 62, 1 << 62, 1<<62 + 100}, {1<<62 + 25, 1<<62 + 25, 1<<62 + 25, 1<<62 + 25}, {1 << 62, 1<<62 + 100, 0, math.MinInt},
		{1 << 32, 100, 0, 0}, {1<<32 + 100, 0, 0, 0}, {1 << 31, 1 << 31, 100, 0}, {0, 1<<32 - 1, 0, 101}, {1 << 30, 1 << 30, 1 << 30, 1<<30 + 100},
		{0, 0, 0, 0}, {100, 0, 0, 1}, {0, 100, 1, 0}, {99, 0, 0, 0}, {25, 25, 25, 24}, {25, 25, 25, 26}, {100, 100, 100, 100},
	} {
		isNone(t, api.Event{Kind: 2, Bill: api.Bill{Id: 1, Tender: 100, Debt: parts[0], Fee: parts[1], Price: parts[2], Change: parts[3], Units: 1}})
	}
	for debt := range 6 {
		for fee := range 6 {
			for price := range 6 {
				for tender := range 20 {
					b := api.Bill{Id: 1, Tender: tender, Debt: debt, Fee: fee, Price: price, Change: 3, Units: 1}
					if debt+fee+price+3 == tender {
						isEvent(t, api.Event{Kind: 2, Bill: b})
					} else {
						isNone(t, api.Event{Kind: 2, Bill: b})
					}
				}
			}
		}
	}
	// More may not be handed over, though all of it goes somewhere.
	isNone(t, api.Event{Kind: 2, Bill: api.Bill{Id: 1, Tender: 100000001, Debt: 100000000, Fee: 1, Units: 1}})
	isNone(t, api.Event{Kind: 2, Bill: api.Bill{Id: 1, Tender: 200000000, Price: 100000000, Change: 100000000, Units: 1}})
	isNone(t, api.Event{Kind: 2, Bill: api.Bill{Id: 1, Units: 1}})
	isNone(t, api.Event{Kind: 2, Bill: api.Bill{Id: 1, Tender: -4, Debt: -1, Fee: -1, Price: -1, Change: -1, Units: 1}})
}

// drawnEvent: a kind, and numbers of which most are within its bounds; seldom others.
func drawnEvent(r *rand.Rand) api.Event {
	var f [13]int
	kind := 1 + r.IntN(5)
	for i, b := range bounded[kind] {
		f[i] = b.least + r.IntN(b.most-b.least+1)
	}
	if kind == 2 {
		left := f[atTender]
		for i := atDebt; i < atChange; i++ {
			f[i] = r.IntN(left + 1)
			left -= f[i]
		}
		f[atChange] = left
	}
	for r.IntN(3) == 0 {
		f[r.IntN(13)] += r.IntN(5) - 2
	}
	return event(f)
}

func TestDrawnEvents(t *testing.T) {
	r := rand.New(rand.NewPCG(18, 1))
	may := 0
	for range 20000 {
		v := drawnEvent(r)
		if mayBe(fields(v)) {
			may++
			isEvent(t, v)
		} else {
			isNone(t, v)
		}
	}
	if may < 8000 || may > 18000 {
		t.Errorf("the drawn events are too much alike: %d of 20000 may be", may)
	}
}

// TestDrawnWords: any words, most of them small.
func TestDrawnWords(t *testing.T) {
	r := rand.New(rand.NewPCG(18, 2))
	for range 20000 {
		l := make([]uint32, 13)
		var f [13]int
		for i := range l {
			l[i] = uint32(r.Uint64()) >> (r.IntN(2) * 16) >> (r.IntN(2) * 14) >> (r.IntN(2) * 31)
			f[i] = int(l[i])
		}
		v, e := book.Decode(l)
		if mayBe(f) {
			if v != event(f) || e != api.OK {
				t.Fatalf("Decode(%v): %v, %v", l, v, e)
			}
		} else if v != (api.Event{}) || e != api.ErrState {
			t.Fatalf("Decode(%v): %v, %v, want %v", l, v, e, api.ErrState)
		}
	}
}

func TestDecodeRefusesSizes(t *testing.T) {
	for n := range 200 {
		if n == 13 {
			continue
		}
		for _, v := range right {
			l := make([]uint32, max(n, 13))
			words, _ := book.Encode(v)
			copy(l, words)
			if got, e := book.Decode(l[:n]); got != (api.Event{}) || e != api.ErrSize {
				t.Fatalf("Decode of %d words: %v, %v, want %v", n, got, e, api.ErrSize)
			}
		}
		if got, e := book.Decode(slices.Repeat([]uint32{math.MaxUint32}, n)); got != (api.Event{}) || e != api.ErrSize {
			t.Fatalf("Decode of %d great words: %v, %v, want %v", n, got, e, api.ErrSize)
		}
	}
	if got, e := book.Decode(nil); got != (api.Event{}) || e != api.ErrSize {
		t.Errorf("Decode(nil): %v, %v, want %v", got, e, api.ErrSize)
	}
	if got, e := book.Decode(make([]uint32, 100000)); got != (api.Event{}) || e != api.ErrSize {
		t.Errorf("Decode of 100000 words: %v, %v, want %v", got, e, api.ErrSize)
	}
}

// P18.4

func TestOfNothing(t *testing.T) {
	tells(t, ten, nil)
	tells(t, full, []api.Event{})
}

// wrongTerms: terms that are not right, and why.
var wrongTerms = []struct {
	t    api.Terms
	want api.Errno
}{
	{api.Terms{}, api.ErrSize},
	{api.Terms{Tariff: make([]api.Step, 9)}, api.ErrSize},
	{api.Terms{Tariff: []api.Step{{Upto: 10000000}}}, api.ErrRange},
	{api.Terms{Tariff: []api.Step{{Upto: 9999999, Price: 1}}}, api.ErrForm},
	{api.Terms{Tariff: ten.Tariff, FeeFix: -1}, api.ErrRange},
	{api.Terms{Tariff: ten.Tariff, FeeFix: 100001}, api.ErrRange},
	{api.Terms{Tariff: ten.Tariff, FeeBp: 10001}, api.ErrRange},
	{api.Terms{Tariff: ten.Tariff, DebtBp: -1}, api.ErrRange},
	{api.Terms{Tariff: ten.Tariff, Allowance: 2097152}, api.ErrRange},
}

// TestOfWrongTerms: whatever the events are, also where none is there, or too many are.
func TestOfWrongTerms(t *testing.T) {
	for _, c := range wrongTerms {
		for _, l := range [][]api.Event{nil, {{Kind: 1}}, {{Kind: 1}, {Kind: 1}}, {{Kind: 1}, {}}, make([]api.Event, 120), make([]api.Event, 121), make([]api.Event, 5000)} {
			refuses(t, c.t, l, 0, c.want)
		}
	}
}

func TestOfTooMany(t *testing.T) {
	// Each of these events happens.
	l := []api.Event{{Kind: 1, Meter: 3}}
	for n := 1; n <= 200; n++ {
		l = append(l, api.Event{Kind: 2, Meter: 3, Bill: api.Bill{Id: n, Tender: 10, Price: 10, Units: 1}})
	}
	b, at, e := book.Of(ten, l[:120])
	if e != api.OK || at != 0 || len(b.Customers) != 1 || len(b.Customers[0].Sold) != 119 || b.Customers[0].Account.Next != 120 {
		t.Errorf("Of 120 events: %v, %d, %v", b, at, e)
	}
	for n := 121; n <= 201; n++ {
		refuses(t, ten, l[:n], 0, api.ErrSize)
	}
	// Ahead of what is wrong with the events themselves.
	refuses(t, ten, make([]api.Event, 121), 0, api.ErrSize)
	refuses(t, ten, append([]api.Event{{Kind: 1}, {Kind: 1}}, make([]api.Event, 119)...), 0, api.ErrSize)
	refuses(t, ten, make([]api.Event, 120), 0, api.ErrState)
}

// TestOfAt: the first event that does not happen is told, wherever it stands.
func TestOfAt(t *testing.T) {
	var l []api.Event
	for meter := range 50 {
		l = append(l, api.Event{Kind: 1, Meter: meter})
	}
	for n := range 70 {
		l = append(l, api.Event{Kind: 5, Meter: n % 50, Debt: api.Debt{Owed: 1 + n}})
	}
	if _, at, e := book.Of(ten, l); at != 0 || e != api.OK {
		t.Fatalf("Of: %d, %v", at, e)
	}
	for at := range l {
		wrong := slices.Clone(l)
		wrong[at].Tag = 1
		refuses(t, ten, wrong, at, api.ErrState)
		for behind := at + 1; behind < len(l); behind += 7 {
			// A second wrong one, behind it, changes nothing.
			wrong[behind].Meter = 99
		}
		refuses(t, ten, wrong, at, api.ErrState)
		if at > 0 {
			wrong[at] = l[0]
			refuses(t, ten, wrong, at, api.ErrTwice)
		}
	}
}

// TestOfOrder: a customer is there from their event on, not ahead of it.
func TestOfOrder(t *testing.T) {
	charge := api.Event{Kind: 5, Meter: 4, Debt: api.Debt{Owed: 7, Bp: 8}}
	register := api.Event{Kind: 1, Meter: 4}
	tells(t, ten, []api.Event{register, charge}, api.Customer{Account: api.Account{Meter: 4, Next: 1, Free: -1, Debts: []api.Debt{{Owed: 7, Bp: 8}}}})
	refuses(t, ten, []api.Event{charge, register}, 0, api.ErrNoMeter)
	refuses(t, ten, []api.Event{{Kind: 1, Meter: 3}, charge, register}, 1, api.ErrNoMeter)
}

// P18.5

func TestRegister(t *testing.T) {
	for meter := range 50 {
		tells(t, full, []api.Event{{Kind: 1, Meter: meter}}, api.Customer{Account: api.Account{Meter: meter, Next: 1, Free: -1}})
	}
	// Behind the others, in the order in which they come.
	var l []api.Event
	var want []api.Customer
	for n := range 50 {
		meter := n * 7 % 50
		l = append(l, api.Event{Kind: 1, Meter: meter})
		want = append(want, api.Customer{Account: api.Account{Meter: meter, Next: 1, Free: -1}})
		tells(t, full, l, want...)
	}
	for meter := range 50 {
		refuses(t, full, append(slices.Clone(l), api.Event{Kind: 1, Meter: meter}), 50, api.ErrTwice)
	}
}

func TestRegisterTwice(t *testing.T) {
	refuses(t, ten, []api.Event{{Kind: 1, Meter: 1}, {Kind: 1, Meter: 1}}, 1, api.ErrTwice)
	refuses(t, ten, []api.Event{{Kind: 1}, {Kind: 1}}, 1, api.ErrTwice)
	refuses(t, ten, []api.Event{{Kind: 1}, {Kind: 1, Meter: 1}, {Kind: 1, Meter: 2}, {Kind: 1, Meter: 1}}, 3, api.ErrTwice)
	refuses(t, ten, []api.Event{{Kind: 1}, {Kind: 4, Bill: api.Bill{Id: 1}}, {Kind: 1}}, 2, api.ErrTwice)
	// What may not be is told first.
	refuses(t, ten, []api.Event{{Kind: 1}, {Kind: 1, Tag: 1}}, 1, api.ErrState)
}

// TestNoMeter: of all kinds but Register, whatever else is wrong with them.
func TestNoMeter(t *testing.T) {
	for _, v := range right {
		if v.Kind == 1 {
			continue
		}
		refuses(t, ten, []api.Event{v}, 0, api.ErrNoMeter)
		refuses(t, full, []api.Event{{Kind: 1, Meter: 5}, {Kind: 1, Meter: 6}, v}, 2, api.ErrNoMeter)
		v.Debt.Bp += 10001
		refuses(t, full, []api.Event{v}, 0, api.ErrState)
	}
}

func TestCharge(t *testing.T) {
	l := []api.Event{{Kind: 1, Meter: 8}, {Kind: 1, Meter: 2}}
	other := api.Customer{Account: api.Account{Meter: 8, Next: 1, Free: -1}}
	want := api.Customer{Account: api.Account{Meter: 2, Next: 1, Free: -1}}
	for n := range 8 {
		d := api.Debt{Owed: 1 + 100*n, Bp: n}
		l = append(l, api.Event{Kind: 5, Meter: 2, Debt: d})
		want.Account.Debts = append(want.Account.Debts, d)
		tells(t, ten, l, other, want)
	}
	refuses(t, ten, append(l, api.Event{Kind: 5, Meter: 2, Debt: api.Debt{Owed: 1}}), 10, api.ErrFull)
	if _, at, e := book.Of(ten, append(l, api.Event{Kind: 5, Meter: 8, Debt: api.Debt{Owed: 1}})); at != 0 || e != api.OK {
		t.Errorf("a debt of the other customer: %d, %v", at, e)
	}
}

func TestSale(t *testing.T) {
	owed := api.Debt{Owed: 1000, Bp: 250}
	l := []api.Event{
		{Kind: 1, Meter: 3},
		{Kind: 1, Meter: 1},
		{Kind: 5, Meter: 1, Debt: owed},
		// 300 to debts, 18 as fees, of 682 50 units for 500 and 9 for 180.
		{Kind: 2, Meter: 1, Bill: api.Bill{Id: 1, Tender: 1000, Debt: 300, Fee: 18, Price: 680, Change: 2, Units: 59}, Tag: 65535},
		// Units are counted on in the month.
		{Kind: 2, Meter: 1, Bill: api.Bill{Id: 2, Tender: 100, Debt: 30, Fee: 4, Price: 60, Change: 6, Units: 3}},
		// Two months later 670 have grown to 686 and 703.
		{Kind: 2, Meter: 1, Month: 2, Bill: api.Bill{Id: 3, Tender: 100, Debt: 30, Fee: 4, Price: 60, Change: 6, Units: 6}, Tag: 9},
		{Kind: 2, Meter: 3, Month: 1, Bill: api.Bill{Id: 1, Tender: 13, Fee: 3, Price: 10, Units: 1}, Tag: 8},
	}
	tells(t, full, l,
		api.Customer{Account: api.Account{Meter: 3, Next: 2, Month: 1, Bought: 1, Free: -1}, Sold: []api.Sold{{Id: 1, Amount: 1, Tag: 8}}},
		api.Customer{
			Account: api.Account{Meter: 1, Next: 4, Month: 2, Bought: 6, Free: -1, Debts: []api.Debt{{Owed: 673, Bp: 250}}},
			Sold:    []api.Sold{{Id: 1, Amount: 59, Tag: 65535}, {Id: 2, Amount: 3}, {Id: 3, Amount: 6, Tag: 9}},
		},
	)
}

func TestSaleRefused(t *testing.T) {
	begun := []api.Event{{Kind: 1, Meter: 1}, {Kind: 2, Meter: 1, Month: 5, Bill: api.Bill{Id: 1, Tender: 13, Fee: 3, Price: 10, Units: 1}}}
	if _, at, e := book.Of(full, begun); at != 0 || e != api.OK {
		t.Fatalf("Of(%v): %d, %v", begun, at, e)
	}
	for _, c := range []struct {
		month, tender int
		want          api.Errno
	}{
		{4, 13, api.ErrEarly}, {0, 1, api.ErrEarly}, {5, 1, api.ErrTender}, {5, 3, api.ErrTender}, {5, 12, api.ErrTender}, {6, 12, api.ErrTender}, {2399, 2, api.ErrTender},
	} {
		// The bill is not the account's either: that is told last.
		v := api.Event{Kind: 2, Meter: 1, Month: c.month, Bill: api.Bill{Id: 77, Tender: c.tender, Change: c.tender, Units: 99}}
		refuses(t, full, append(begun, v), 2, c.want)
		v.Bill = api.Bill{Id: 2, Tender: c.tender, Change: c.tender, Units: 1}
		refuses(t, full, append(begun, v), 2, c.want)
	}
}

// TestSaleOfAnotherBill: each number of the bill counts.
func TestSaleOfAnotherBill(t *testing.T) {
	owed := []api.Event{{Kind: 1, Meter: 1}, {Kind: 5, Meter: 1, Debt: api.Debt{Owed: 1000, Bp: 250}}}
	v := api.Event{Kind: 2, Meter: 1, Bill: api.Bill{Id: 1, Tender: 1000, Debt: 300, Fee: 18, Price: 680, Change: 2, Units: 59}, Tag: 5}
	if _, at, e := book.Of(full, append(owed, v)); at != 0 || e != api.OK {
		t.Fatalf("Of: %d, %v", at, e)
	}
	for _, b := range []api.Bill{
		{Id: 2, Tender: 1000, Debt: 300, Fee: 18, Price: 680, Change: 2, Units: 59},
		{Id: 1048575, Tender: 1000, Debt: 300, Fee: 18, Price: 680, Change: 2, Units: 59},
		{Id: 1, Tender: 1001, Debt: 300, Fee: 18, Price: 680, Change: 3, Units: 58},
		{Id: 1, Tender: 999, Debt: 300, Fee: 18, Price: 680, Change: 1, Units: 59},
		{Id: 1, Tender: 1000, Debt: 301, Fee: 17, Price: 680, Change: 2, Units: 59},
		{Id: 1, Tender: 1000, Debt: 299, Fee: 18, Price: 680, Change: 3, Units: 59},
		{Id: 1, Tender: 1000, Debt: 300, Fee: 19, Price: 679, Change: 2, Units: 59},
		{Id: 1, Tender: 1000, Debt: 300, Fee: 18, Price: 682, Change: 0, Units: 59},
		{Id: 1, Tender: 1000, Debt: 300, Fee: 18, Price: 660, Change: 22, Units: 58},
		{Id: 1, Tender: 1000, Debt: 300, Fee: 18, Price: 680, Change: 2, Units: 58},
		{Id: 1, Tender: 1000, Debt: 300, Fee: 18, Price: 680, Change: 2, Units: 60},
	} {
		v.Bill = b
		refuses(t, full, append(owed, v), 2, api.ErrCheck)
	}
	refuses(t, ten, []api.Event{{Kind: 1, Meter: 1}, {Kind: 2, Meter: 1, Bill: api.Bill{Id: 1, Tender: 100, Price: 90, Change: 10, Units: 9}}}, 1, api.ErrCheck)
	// The month counts in what is bought already.
	l := []api.Event{{Kind: 1}, {Kind: 2, Bill: api.Bill{Id: 1, Tender: 503, Fee: 10, Price: 490, Change: 3, Units: 49}}}
	l = append(l, api.Event{Kind: 2, Month: 1, Bill: api.Bill{Id: 2, Tender: 23, Fee: 3, Price: 20, Units: 2}})
	if _, at, e := book.Of(full, l); at != 0 || e != api.OK {
		t.Errorf("Of(%v): %d, %v", l, at, e)
	}
	l[2].Month = 0
	refuses(t, full, l, 2, api.ErrCheck)
}

func TestGrant(t *testing.T) {
	l := []api.Event{
		{Kind: 1, Meter: 6},
		{Kind: 3, Meter: 6, Bill: api.Bill{Id: 1, Units: 25}, Tag: 1},
		{Kind: 2, Meter: 6, Bill: api.Bill{Id: 2, Tender: 13, Fee: 3, Price: 10, Units: 1}},
		{Kind: 3, Meter: 6, Month: 2399, Bill: api.Bill{Id: 3, Units: 25}, Tag: 65535},
	}
	tells(t, full, l[:2], api.Customer{Account: api.Account{Meter: 6, Next: 2}, Sold: []api.Sold{{Id: 1, Amount: 25, Tag: 1}}})
	tells(t, full, l, api.Customer{Account: api.Account{Meter: 6, Next: 4, Month: 2399, Free: 2399}, Sold: []api.Sold{{Id: 1, Amount: 25, Tag: 1}, {Id: 2, Amount: 1}, {Id: 3, Amount: 25, Tag: 65535}}})
	for _, b := range []api.Bill{{Id: 4, Units: 25}, {Id: 4, Units: 26}, {Id: 3, Units: 25}, {Id: 1, Units: 1}} {
		refuses(t, full, append(slices.Clone(l), api.Event{Kind: 3, Meter: 6, Month: 2399, Bill: b}), 4, api.ErrTwice)
		refuses(t, full, append(slices.Clone(l), api.Event{Kind: 3, Meter: 6, Month: 2398, Bill: b}), 4, api.ErrEarly)
		refuses(t, ten, []api.Event{{Kind: 1, Meter: 6}, {Kind: 3, Meter: 6, Bill: b}}, 1, api.ErrNone)
	}
	for _, b := range []api.Bill{{Id: 2, Units: 25}, {Id: 1, Units: 24}, {Id: 1, Units: 26}, {Id: 1048575, Units: 25}, {Id: 1, Units: 2097151}} {
		refuses(t, full, []api.Event{{Kind: 1, Meter: 6}, {Kind: 3, Meter: 6, Month: 7, Bill: b}}, 1, api.ErrCheck)
	}
}

func TestRekey(t *testing.T) {
	l := []api.Event{{Kind: 1, Meter: 6}, {Kind: 1, Meter: 7}}
	other := api.Customer{Account: api.Account{Meter: 6, Next: 1, Free: -1}}
	want := api.Customer{Account: api.Account{Meter: 7, Next: 1, Free: -1}}
	for rev := range 15 {
		// What is sold is sold under the key from before; from then on it is the new one.
		id := 1 + 2*rev
		l = append(l,
			api.Event{Kind: 4, Meter: 7, Bill: api.Bill{Id: id}, Tag: 100 + rev},
			api.Event{Kind: 2, Meter: 7, Month: rev, Bill: api.Bill{Id: id + 1, Tender: 20, Price: 20, Units: 2}, Tag: rev})
		want.Account.Rev, want.Account.Next, want.Account.Month, want.Account.Bought = rev+1, id+2, rev, 2
		want.Sold = append(want.Sold, api.Sold{Id: id, Class: 2, Amount: rev + 1, Tag: 100 + rev, Rev: rev}, api.Sold{Id: id + 1, Class: 0, Amount: 2, Tag: rev, Rev: rev + 1})
		tells(t, ten, l, other, want)
	}
	refuses(t, ten, append(l, api.Event{Kind: 4, Meter: 7, Bill: api.Bill{Id: 31}}), len(l), api.ErrKey)
	refuses(t, ten, append(l, api.Event{Kind: 4, Meter: 7, Bill: api.Bill{Id: 30}}), len(l), api.ErrKey)
	refuses(t, ten, append(l, api.Event{Kind: 4, Meter: 6, Bill: api.Bill{Id: 2}}), len(l), api.ErrCheck)
	refuses(t, ten, append(l, api.Event{Kind: 4, Meter: 6, Bill: api.Bill{Id: 1048575}}), len(l), api.ErrCheck)
	// It has no month of its own: the account stays in its one.
	refuses(t, ten, append(l, api.Event{Kind: 4, Meter: 6, Month: 1, Bill: api.Bill{Id: 1}}), len(l), api.ErrState)
}

// asked: what somebody may ask of a server, with the bill that the account tells; whether it is refused.
func asked(r *rand.Rand, terms api.Terms, a api.Account, month int) (api.Event, api.Errno) {
	v := api.Event{Meter: a.Meter, Tag: r.IntN(65536)}
	var e api.Errno
	switch r.IntN(6) {
	case 0:
		v.Kind, v.Month = 3, month
		_, v.Bill, e = account.Grant(a, terms, month)
	case 1:
		v = api.Event{Kind: 5, Meter: a.Meter, Debt: api.Debt{Owed: 1 + r.IntN(900), Bp: r.IntN(300)}}
		_, e = account.Owe(a, v.Debt)
	case 2:
		v.Kind = 4
		_, v.Bill, e = account.Rekey(a)
	default:
		v.Kind, v.Month = 2, month
		_, v.Bill, e = account.Sell(a, terms, 1+r.IntN(3000), month)
	}
	return v, e
}

// slowly: what an event does to customers, in the chapter's words.
func slowly(terms api.Terms, l []api.Customer, v api.Event) ([]api.Customer, api.Errno) {
	if !mayBe(fields(v)) {
		return nil, api.ErrState
	}
	at := slices.IndexFunc(l, func(c api.Customer) bool { return c.Account.Meter == v.Meter })
	if v.Kind == 1 {
		if at >= 0 {
			return nil, api.ErrTwice
		}
		a, _ := account.Open(v.Meter)
		return append(l, api.Customer{Account: a}), api.OK
	}
	if at < 0 {
		return nil, api.ErrNoMeter
	}
	ahead := l[at].Account
	var behind api.Account
	var bill api.Bill
	var e api.Errno
	sold := api.Sold{Id: v.Bill.Id, Class: api.Credit, Amount: v.Bill.Units, Tag: v.Tag, Rev: ahead.Rev}
	switch v.Kind {
	case 2:
		behind, bill, e = account.Sell(ahead, terms, v.Bill.Tender, v.Month)
	case 3:
		behind, bill, e = account.Grant(ahead, terms, v.Month)
	case 4:
		behind, bill, e = account.Rekey(ahead)
		sold.Class, sold.Amount = api.Change, ahead.Rev+1
	case 5:
		behind, e = account.Owe(ahead, v.Debt)
	}
	if e != api.OK {
		return nil, e
	}
	if bill != v.Bill {
		return nil, api.ErrCheck
	}
	l[at].Account = behind
	if v.Kind != 5 {
		l[at].Sold = append(l[at].Sold, sold)
	}
	return l, api.OK
}

// allSlowly: the book of events, or where it ends, and why.
func allSlowly(terms api.Terms, l []api.Event) (api.Book, int, api.Errno) {
	var customers []api.Customer
	var e api.Errno
	for at, v := range l {
		if customers, e = slowly(terms, customers, v); e != api.OK {
			return api.Book{}, at, e
		}
	}
	return api.Book{Customers: customers}, 0, api.OK
}

// drawnEvents: most of which happen.
func drawnEvents(r *rand.Rand, terms api.Terms, n int) []api.Event {
	var l []api.Event
	var customers []api.Customer
	month := r.IntN(2000)
	for len(l) < n {
		month += r.IntN(4) / 3
		v := api.Event{Kind: 1, Meter: r.IntN(50)}
		e := api.OK
		if len(customers) > 0 && r.IntN(8) > 0 {
			v, e = asked(r, terms, customers[r.IntN(len(customers))].Account, month)
		}
		if e != api.OK {
			continue
		}
		now, e := slowly(terms, slices.Clone(customers), v)
		if e != api.OK {
			continue
		}
		customers = now
		l = append(l, v)
	}
	return l
}

func TestDrawnBooks(t *testing.T) {
	r := rand.New(rand.NewPCG(18, 5))
	counts := map[api.Errno]int{}
	for range 400 {
		terms := full
		terms.Allowance, terms.DebtBp = r.IntN(2)*30, r.IntN(10001)
		terms.FeeFix = r.IntN(20)
		l := drawnEvents(r, terms, r.IntN(121))
		want, _, e := allSlowly(terms, l)
		if e != api.OK {
			t.Fatalf("the drawn events do not happen: %v", e)
		}
		tells(t, terms, l, want.Customers...)
		for range min(len(l), 12) {
			// One of them goes wrong, by a little; or two change places; or one comes twice.
			wrong := slices.Clone(l)
			at := r.IntN(len(l))
			f := fields(wrong[at])
			f[r.IntN(13)] += r.IntN(3) - 1
			wrong[at] = event(f)
			other := r.IntN(len(l))
			switch r.IntN(4) {
			case 0:
				wrong[at], wrong[other] = l[other], l[at]
			case 1:
				wrong[at] = l[other]
			}
			book1, at1, e1 := allSlowly(terms, wrong)
			book2, at2, e2 := book.Of(terms, wrong)
			if at1 != at2 || e1 != e2 || !sameBook(book1, book2) {
				t.Fatalf("Of(%v, %v): %v, %d, %v, want %v, %d, %v", terms, wrong, book2, at2, e2, book1, at1, e1)
			}
			counts[e1]++
		}
	}
	for _, e := range []api.Errno{api.OK, api.ErrState, api.ErrTwice, api.ErrNoMeter, api.ErrCheck, api.ErrEarly} {
		if counts[e] < 10 {
			t.Errorf("the drawn books are too much alike: %v", counts)
		}
	}
}

// P18.6

func TestFind(t *testing.T) {
	found := func(b api.Book, meter, want int) {
		t.Helper()
		if at, e := book.Find(b, meter); at != want || e != api.OK {
			t.Errorf("Find(%v, %d): %d, %v, want %d", b, meter, at, e, want)
		}
	}
	lost := func(b api.Book, meter int) {
		t.Helper()
		if at, e := book.Find(b, meter); at != 0 || e != api.ErrNoMeter {
			t.Errorf("Find(%v, %d): %d, %v, want %v", b, meter, at, e, api.ErrNoMeter)
		}
	}
	of := func(meters ...int) (b api.Book) {
		for _, m := range meters {
			b.Customers = append(b.Customers, api.Customer{Account: api.Account{Meter: m}})
		}
		return b
	}
	found(of(5, 3, 9), 5, 0)
	found(of(5, 3, 9), 3, 1)
	found(of(5, 3, 9), 9, 2)
	// Of several the first one.
	found(of(5, 3, 9, 3, 5, 9), 9, 2)
	found(of(3, 3, 3), 3, 0)
	found(of(1, 0, 0), 0, 1)
	// A book that was not made by Of has what it has.
	found(of(-1, 77, math.MinInt, math.MaxInt), -1, 0)
	found(of(-1, 77, math.MinInt, math.MaxInt), 77, 1)
	found(of(-1, 77, math.MinInt, math.MaxInt), math.MinInt, 2)
	found(of(-1, 77, math.MinInt, math.MaxInt), math.MaxInt, 3)
	for _, meter := range append([]int{0, 1, 2, 4, 10, 49, 50, -1, -3}, strange...) {
		lost(of(), meter)
		lost(api.Book{Customers: []api.Customer{}}, meter)
		lost(of(5, 3, 9), meter)
	}
	lost(of(1<<32+5), 5)
	lost(of(5), 1<<32+5)
	// Spare room behind the customers is none of the book's.
	b := of(5, 3, 9)
	b.Customers = b.Customers[:2]
	lost(b, 9)
}

func TestFindInBooks(t *testing.T) {
	r := rand.New(rand.NewPCG(18, 6))
	for range 100 {
		b, _, _ := book.Of(full, drawnEvents(r, full, 60))
		for meter := -5; meter < 60; meter++ {
			at, e := book.Find(b, meter)
			want := slices.IndexFunc(b.Customers, func(c api.Customer) bool { return c.Account.Meter == meter })
			if want < 0 && (at != 0 || e != api.ErrNoMeter) || want >= 0 && (at != want || e != api.OK) {
				t.Fatalf("Find(%v, %d): %d, %v", b, meter, at, e)
			}
		}
	}
}

// What comes of it.

// TestWordsTellEvents: events go to words and back, and the book is the same.
func TestWordsTellEvents(t *testing.T) {
	r := rand.New(rand.NewPCG(18, 7))
	for range 100 {
		l := drawnEvents(r, full, 120)
		var back []api.Event
		for _, v := range l {
			words, _ := book.Encode(v)
			v, _ := book.Decode(words)
			back = append(back, v)
		}
		if !slices.Equal(l, back) {
			t.Fatalf("events %v came back as %v", l, back)
		}
		first, _, _ := book.Of(full, l)
		second, _, _ := book.Of(full, back)
		if !sameBook(first, second) {
			t.Fatalf("books of the same events: %v, %v", first, second)
		}
	}
}

// TestNumberedOneByOne: the tokens of each customer.
func TestNumberedOneByOne(t *testing.T) {
	r := rand.New(rand.NewPCG(18, 8))
	for range 100 {
		b, _, _ := book.Of(full, drawnEvents(r, full, 120))
		for _, c := range b.Customers {
			for i, s := range c.Sold {
				if s.Id != i+1 {
					t.Fatalf("the token %d of %v has the number %d", i, c, s.Id)
				}
			}
			if c.Account.Next != len(c.Sold)+1 {
				t.Fatalf("the next token of %v", c)
			}
		}
	}
}

// Lists that are handed in stay; what comes out is new.

// TestListsStay: the spare room too.
func TestListsStay(t *testing.T) {
	r := rand.New(rand.NewPCG(18, 9))
	spare := api.Event{Kind: 77, Tag: 78}
	steps := append(slices.Clone(full.Tariff), api.Step{Upto: 7, Price: 8}, api.Step{Upto: 9})
	terms := full
	terms.Tariff = steps[:2]
	for n := range 60 {
		l := append(drawnEvents(r, full, n), spare, spare, spare)
		was := slices.Clone(l)
		stays := func(handed int) {
			t.Helper()
			book.Of(terms, l[:handed])
			if !slices.Equal(l, was) || !slices.Equal(steps, append(slices.Clone(full.Tariff), api.Step{Upto: 7, Price: 8}, api.Step{Upto: 9})) {
				t.Fatalf("events %v became %v, or the steps became %v", was, l, steps)
			}
		}
		stays(n)
		stays(n + 1)
	}
	for _, v := range right {
		words, _ := book.Encode(v)
		l := append(words, 7, 8, 9)
		was := slices.Clone(l)
		for n := range l {
			book.Decode(l[:n])
		}
		if !slices.Equal(l, was) {
			t.Fatalf("words %v became %v", was, l)
		}
	}
	b, _, _ := book.Of(full, drawnEvents(r, full, 60))
	was := fmt.Sprint(b.Customers[:cap(b.Customers)])
	for meter := range 50 {
		book.Find(b, meter)
	}
	if now := fmt.Sprint(b.Customers[:cap(b.Customers)]); now != was {
		t.Errorf("the book %v became %v", was, now)
	}
}

// spoil a list with its spare room.
func spoil[T any](l []T, with T) {
	l = l[:cap(l)]
	for i := range l {
		l[i] = with
	}
}

// TestNewMemory: what is done to one answer changes no other, and no other list of the same answer.
func TestNewMemory(t *testing.T) {
	r := rand.New(rand.NewPCG(18, 10))
	for range 50 {
		l := drawnEvents(r, full, 120)
		first, _, _ := book.Of(full, l)
		want := fmt.Sprint(first)
		other, _, _ := book.Of(full, l)
		for i := range other.Customers {
			c := other.Customers[i]
			rest := fmt.Sprint(other.Customers[i+1:])
			debts := fmt.Sprint(c.Account.Debts)
			spoil(c.Sold, api.Sold{Id: -1})
			if fmt.Sprint(c.Account.Debts) != debts {
				t.Fatal("what was sold shares memory with debts")
			}
			spoil(c.Account.Debts, api.Debt{Owed: -1})
			if fmt.Sprint(other.Customers[i+1:]) != rest {
				t.Fatal("customers share memory")
			}
		}
		spoil(other.Customers, api.Customer{})
		third, _, _ := book.Of(full, l)
		if fmt.Sprint(first) != want || fmt.Sprint(third) != want {
			t.Fatal("books share memory")
		}
	}
	for _, v := range right {
		first, _ := book.Encode(v)
		want := slices.Clone(first)
		second, _ := book.Encode(v)
		spoil(second, 99)
		third, _ := book.Encode(v)
		if !slices.Equal(first, want) || !slices.Equal(third, want) {
			t.Fatalf("words of %v share memory", v)
		}
	}
}

func TestManyAtOnce(t *testing.T) {
	r := rand.New(rand.NewPCG(18, 11))
	l := drawnEvents(r, full, 120)
	wrong := append(slices.Clone(l[:80]), api.Event{Kind: 9})
	want, _, _ := book.Of(full, l)
	words, _ := book.Encode(right[11])
	var all sync.WaitGroup
	for range 16 {
		all.Go(func() {
			for range 50 {
				if b, at, e := book.Of(full, l); !sameBook(b, want) || at != 0 || e != api.OK {
					t.Errorf("Of: %v, %d, %v", b, at, e)
				}
				if b, at, e := book.Of(full, wrong); len(b.Customers) != 0 || at != 80 || e != api.ErrState {
					t.Errorf("Of: %v, %d, %v", b, at, e)
				}
				if v, e := book.Decode(words); v != right[11] || e != api.OK {
					t.Errorf("Decode: %v, %v", v, e)
				}
			}
		})
	}
	all.Wait()
}
