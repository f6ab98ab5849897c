package account_test

import (
	"fmt"
	"math"
	"math/rand/v2"
	"slices"
	"sync"
	"testing"

	"vendmeter/account"
	"vendmeter/api"
)

// ten: the tariff of the chapter's examples.
var ten = []api.Step{{Upto: 10000000, Price: 10}}

// three: a tariff that rises.
var three = []api.Step{{Upto: 50, Price: 10}, {Upto: 200, Price: 15}, {Upto: 10000000, Price: 20}}

// full: terms in which nothing is 0.
var full = api.Terms{Tariff: three, FeeFix: 3, FeeBp: 150, DebtBp: 3000, Allowance: 25}

// wrongNumbers: what no field of an account or of terms may be.
var wrongNumbers = []int{math.MinInt, math.MinInt + 1, math.MinInt32, -2, 1 << 31, 1 << 32, 1<<32 + 1, 1 << 62, math.MaxInt - 1, math.MaxInt}

// rights: accounts that may be, from the least numbers to the most.
var rights = []api.Account{
	fresh(),
	{Next: 1},
	{Meter: 49, Rev: 15, Next: 1048576, Month: 2399, Bought: 10000000, Free: 2399, Debts: slices.Repeat([]api.Debt{{Owed: 1000000000, Bp: 10000}}, 8)},
	{Meter: 49, Rev: 15, Next: 1048575, Month: 2399, Bought: 9999999, Free: -1, Debts: []api.Debt{}},
	{Meter: 7, Rev: 3, Next: 12, Month: 40, Bought: 49, Free: 39, Debts: []api.Debt{{Owed: 300, Bp: 100}, {Owed: 500, Bp: 250}}},
	{Meter: 8, Rev: 0, Next: 2, Month: 40, Bought: 0, Free: 0, Debts: []api.Debt{{}, {Bp: 10000}, {Owed: 1}}},
	{Meter: 9, Next: 5, Month: 1, Bought: 200, Free: 1, Debts: make([]api.Debt, 8)},
}

// wrongs: accounts that may not be.
var wrongs = wrongAccounts()

// wrongAccounts: of one that may be with one number that may not, and others.
func wrongAccounts() []api.Account {
	l := []api.Account{{}, {Free: -1}, {Next: 1, Free: 1}, {Next: 1, Month: 5, Free: 6}, {Next: 1, Month: 2399, Free: 2400}}
	for _, c := range []struct {
		field func(*api.Account) *int
		more  []int
	}{
		{func(a *api.Account) *int { return &a.Meter }, []int{-1, 50, 51}},
		{func(a *api.Account) *int { return &a.Rev }, []int{-1, 16, 17}},
		{func(a *api.Account) *int { return &a.Next }, []int{-1, 0, 1048577, 1048578}},
		{func(a *api.Account) *int { return &a.Month }, []int{-1, 2400, 2401}},
		{func(a *api.Account) *int { return &a.Bought }, []int{-1, 10000001, 10000002}},
		{func(a *api.Account) *int { return &a.Free }, []int{41, 42, 2399}},
	} {
		for _, n := range append(c.more, wrongNumbers...) {
			a := copyOf(rights[4])
			*c.field(&a) = n
			l = append(l, a)
		}
	}
	// A Free that fits a Month does not make up for a Month that may not be.
	l = append(l, api.Account{Next: 1, Month: -1, Free: -1}, api.Account{Next: 1, Month: -2, Free: -2}, api.Account{Next: 1, Month: 2400, Free: -1}, api.Account{Next: 1, Month: 2400, Free: 2400})
	for _, debts := range [][]api.Debt{
		make([]api.Debt, 9), slices.Repeat([]api.Debt{{Owed: 5, Bp: 5}}, 9), make([]api.Debt, 1000),
		{{Owed: -1}}, {{Owed: 1000000001}}, {{Owed: math.MinInt}}, {{Owed: math.MaxInt}}, {{Owed: 1<<32 + 1}},
		{{Owed: 1, Bp: -1}}, {{Owed: 1, Bp: 10001}}, {{Owed: 1, Bp: math.MinInt}}, {{Owed: 1, Bp: math.MaxInt}}, {{Bp: 10001}},
		{{Owed: 1}, {Owed: 2}, {Owed: -1}}, append(make([]api.Debt, 7), api.Debt{Bp: 10001}),
	} {
		a := copyOf(rights[4])
		a.Debts = debts
		l = append(l, a)
	}
	return l
}

// wrongTerms: terms that are not right, and why; of several reasons the first one.
var wrongTerms = termsNotRight()

type refusedTerms struct {
	t    api.Terms
	want api.Errno
}

// termsNotRight: with a tariff that is not right, whatever else, or with one that is and one number that is not.
func termsNotRight() []refusedTerms {
	var l []refusedTerms
	for _, c := range []struct {
		tariff []api.Step
		want   api.Errno
	}{
		{nil, api.ErrSize}, {[]api.Step{}, api.ErrSize}, {make([]api.Step, 9), api.ErrSize}, {three[:0], api.ErrSize},
		{[]api.Step{{Upto: 10000000}}, api.ErrRange}, {[]api.Step{{Upto: 10000001, Price: 1}}, api.ErrRange}, {[]api.Step{{Upto: 10000000, Price: 100001}}, api.ErrRange}, {[]api.Step{{Upto: 0, Price: 1}, {Upto: 10000000, Price: 1}}, api.ErrRange},
		{three[:2], api.ErrForm}, {[]api.Step{{Upto: 9999999, Price: 1}}, api.ErrForm}, {[]api.Step{{Upto: 10000000, Price: 1}, {Upto: 10000000, Price: 2}}, api.ErrForm}, {[]api.Step{{Upto: 60, Price: 1}, {Upto: 50, Price: 1}, {Upto: 10000000, Price: 1}}, api.ErrForm},
	} {
		l = append(l, refusedTerms{api.Terms{Tariff: c.tariff}, c.want})
		l = append(l, refusedTerms{api.Terms{Tariff: c.tariff, FeeFix: 3, FeeBp: 150, DebtBp: 3000, Allowance: 25}, c.want})
		l = append(l, refusedTerms{api.Terms{Tariff: c.tariff, FeeFix: -1, FeeBp: -1, DebtBp: -1, Allowance: -1}, c.want})
	}
	for _, c := range []struct {
		field func(*api.Terms) *int
		over  int
	}{
		{func(t *api.Terms) *int { return &t.FeeFix }, 100001},
		{func(t *api.Terms) *int { return &t.FeeBp }, 10001},
		{func(t *api.Terms) *int { return &t.DebtBp }, 10001},
		{func(t *api.Terms) *int { return &t.Allowance }, 2097152},
	} {
		for _, n := range append([]int{-1, c.over, c.over + 1}, wrongNumbers...) {
			for _, t := range []api.Terms{{Tariff: ten}, full} {
				*c.field(&t) = n
				l = append(l, refusedTerms{t, api.ErrRange})
			}
		}
	}
	return l
}

// fresh: an account of the meter 0 that was opened just now, with debts.
func fresh(debts ...api.Debt) api.Account {
	return api.Account{Next: 1, Free: -1, Debts: debts}
}

// copyOf an account, with debts of its own.
func copyOf(a api.Account) api.Account {
	a.Debts = slices.Clone(a.Debts)
	return a
}

// alike: are two accounts the same, debt by debt?
func alike(a, b api.Account) bool {
	return a.Meter == b.Meter && a.Rev == b.Rev && a.Next == b.Next && a.Month == b.Month &&
		a.Bought == b.Bought && a.Free == b.Free && slices.Equal(a.Debts, b.Debts)
}

// outcome of a call: of one that has no bill, the bill is empty.
type outcome struct {
	a api.Account
	b api.Bill
	e api.Errno
}

func rolled(a api.Account, month int) outcome {
	next, e := account.Roll(a, month)
	return outcome{next, api.Bill{}, e}
}

func sold(a api.Account, t api.Terms, tender, month int) outcome {
	next, b, e := account.Sell(a, t, tender, month)
	return outcome{next, b, e}
}

func granted(a api.Account, t api.Terms, month int) outcome {
	next, b, e := account.Grant(a, t, month)
	return outcome{next, b, e}
}

func owing(a api.Account, d api.Debt) outcome {
	next, e := account.Owe(a, d)
	return outcome{next, api.Bill{}, e}
}

func rekeyed(a api.Account) outcome {
	next, b, e := account.Rekey(a)
	return outcome{next, b, e}
}

// is: is the outcome as it is wanted?
func (o outcome) is(t *testing.T, want outcome, call string, args ...any) {
	t.Helper()
	if !alike(o.a, want.a) || o.b != want.b || o.e != want.e {
		t.Errorf("%s(%v): %v, %v, %v; want %v, %v, %v", call, args, o.a, o.b, o.e, want.a, want.b, want.e)
	}
}

// refused: is it this error, and nothing beside it?
func (o outcome) refused(t *testing.T, want api.Errno, call string, args ...any) {
	t.Helper()
	o.is(t, outcome{e: want}, call, args...)
}

// monthByMonth: debts after so many months, each of them gone through.
func monthByMonth(l []api.Debt, months int) []api.Debt {
	aged := slices.Clone(l)
	for i := range aged {
		for range months {
			aged[i].Owed = min(1000000000, aged[i].Owed+aged[i].Owed*aged[i].Bp/10000)
		}
	}
	return aged
}

// priceOf the n-th unit of a month.
func priceOf(t []api.Step, n int) int {
	i := slices.IndexFunc(t, func(s api.Step) bool { return s.Upto >= n })
	return t[i].Price
}

// soldSlowly: the promise by its words, cent by cent to the debts and then unit by unit, for terms and months that are right.
func soldSlowly(a api.Account, t api.Terms, tender, month int) outcome {
	a = copyOf(a)
	if month > a.Month {
		a.Debts, a.Month, a.Bought = monthByMonth(a.Debts, month-a.Month), month, 0
	}
	b := api.Bill{Id: a.Next, Tender: tender, Fee: t.FeeFix + tender*t.FeeBp/10000}
	for range tender * t.DebtBp / 10000 {
		i := slices.IndexFunc(a.Debts, func(d api.Debt) bool { return d.Owed > 0 })
		if i < 0 {
			break
		}
		a.Debts[i].Owed--
		b.Debt++
	}
	a.Debts = slices.DeleteFunc(a.Debts, func(d api.Debt) bool { return d.Owed == 0 })
	b.Change = tender - b.Debt - b.Fee
	for b.Units < 2097151 && a.Bought < 10000000 && priceOf(t.Tariff, a.Bought+1) <= b.Change {
		a.Bought++
		b.Units++
		b.Price += priceOf(t.Tariff, a.Bought)
		b.Change -= priceOf(t.Tariff, a.Bought)
	}
	switch {
	case b.Units == 0:
		return outcome{e: api.ErrTender}
	case a.Next > 1048575:
		return outcome{e: api.ErrIdsSpent}
	}
	a.Next++
	return outcome{a, b, api.OK}
}

// drawnAccount: one that may be, in one of the first months.
func drawnAccount(r *rand.Rand) api.Account {
	a := api.Account{Meter: r.IntN(50), Rev: r.IntN(16), Next: 1 + r.IntN(1048576), Month: r.IntN(60), Bought: r.IntN(300)}
	a.Free = r.IntN(a.Month+2) - 1
	if r.IntN(6) == 0 {
		a.Bought = 10000000 - r.IntN(30)
	}
	for range r.IntN(9) {
		a.Debts = append(a.Debts, api.Debt{Owed: max(0, r.IntN(400)-100), Bp: r.IntN(10001) >> r.IntN(14)})
	}
	return a
}

// drawnTerms: ones that are right, with cheap units.
func drawnTerms(r *rand.Rand) api.Terms {
	t := api.Terms{FeeFix: r.IntN(60) >> r.IntN(7), FeeBp: r.IntN(10001) >> r.IntN(14), DebtBp: r.IntN(10001) >> r.IntN(14), Allowance: r.IntN(2097152) >> r.IntN(22)}
	for upto := 1 + r.IntN(80); len(t.Tariff) < r.IntN(8); upto += 1 + r.IntN(80) {
		t.Tariff = append(t.Tariff, api.Step{Upto: upto, Price: 1 + r.IntN(30)})
	}
	t.Tariff = append(t.Tariff, api.Step{Upto: 10000000, Price: 1 + r.IntN(30)})
	return t
}

// P15.1

func TestAccountsThatMayBe(t *testing.T) {
	for _, a := range rights {
		for _, o := range []outcome{rolled(a, 2399), sold(a, full, 1000, 2399), granted(a, full, 2399), owing(a, api.Debt{Owed: 5}), rekeyed(a)} {
			if o.e == api.ErrState {
				t.Errorf("%v: refused as one that may not be", a)
			}
		}
		rolled(a, a.Month).is(t, outcome{a, api.Bill{}, api.OK}, "Roll", a, a.Month)
	}
}

// TestNumbersAtTheirBounds: each one alone, at its least and its greatest.
func TestNumbersAtTheirBounds(t *testing.T) {
	for _, a := range []api.Account{
		{Meter: 49, Next: 1}, {Rev: 15, Next: 1}, {Next: 1048576}, {Next: 1, Month: 2399}, {Next: 1, Bought: 10000000}, {Next: 1, Free: -1},
		{Next: 1, Month: 40, Free: 40}, {Next: 1, Month: 2399, Free: 2399}, {Next: 1, Debts: make([]api.Debt, 8)}, {Next: 1, Debts: []api.Debt{{Owed: 1000000000, Bp: 10000}}},
	} {
		rolled(a, a.Month).is(t, outcome{a, api.Bill{}, api.OK}, "Roll", a, a.Month)
	}
}

// TestAccountsThatMayNotBe: ahead of all else that may be wrong.
func TestAccountsThatMayNotBe(t *testing.T) {
	for _, a := range wrongs {
		rekeyed(a).refused(t, api.ErrState, "Rekey", a)
		for _, month := range []int{0, 40, 41, 2399, -1, 2400, math.MinInt, math.MaxInt} {
			rolled(a, month).refused(t, api.ErrState, "Roll", a, month)
			for _, terms := range []api.Terms{full, {}, {Tariff: three, FeeBp: -1}} {
				granted(a, terms, month).refused(t, api.ErrState, "Grant", a, terms, month)
				for _, tender := range []int{0, 1, 1000, 100000001, math.MinInt, math.MaxInt} {
					sold(a, terms, tender, month).refused(t, api.ErrState, "Sell", a, terms, tender, month)
				}
			}
		}
		for _, d := range []api.Debt{{Owed: 5}, {}, {Owed: -1}, {Owed: 1, Bp: 10001}} {
			owing(a, d).refused(t, api.ErrState, "Owe", a, d)
		}
	}
}

// P15.2

func TestCheck(t *testing.T) {
	for _, c := range []api.Terms{
		{Tariff: ten}, {Tariff: three}, full,
		{Tariff: ten, FeeFix: 100000}, {Tariff: ten, FeeBp: 10000}, {Tariff: ten, DebtBp: 10000}, {Tariff: ten, Allowance: 2097151},
		{Tariff: ten, FeeFix: 1, FeeBp: 1, DebtBp: 1, Allowance: 1},
		{Tariff: ten, FeeFix: 100000, FeeBp: 10000, DebtBp: 10000, Allowance: 2097151},
	} {
		if e := account.Check(c); e != api.OK {
			t.Errorf("Check(%v): %v", c, e)
		}
	}
}

func TestCheckOfWrongTerms(t *testing.T) {
	for _, c := range wrongTerms {
		if e := account.Check(c.t); e != c.want {
			t.Errorf("Check(%v): %v, want %v", c.t, e, c.want)
		}
	}
}

// P15.3

func TestOpen(t *testing.T) {
	for meter := range 50 {
		a, e := account.Open(meter)
		want := api.Account{Meter: meter, Next: 1, Free: -1}
		if !alike(a, want) || e != api.OK {
			t.Errorf("Open(%d): %v, %v, want %v", meter, a, e, want)
		}
	}
	for _, meter := range append([]int{-1, 50, 51, 100}, wrongNumbers...) {
		if a, e := account.Open(meter); !alike(a, api.Account{}) || e != api.ErrRange {
			t.Errorf("Open(%d): %v, %v, want %v", meter, a, e, api.ErrRange)
		}
	}
}

// TestOpenIsNew: what is owed by one account is not owed by another.
func TestOpenIsNew(t *testing.T) {
	first, _ := account.Open(3)
	first.Debts = append(first.Debts, api.Debt{Owed: 5})
	if second, e := account.Open(3); len(second.Debts) != 0 || e != api.OK {
		t.Errorf("Open(3): %v, %v", second, e)
	}
}

// P15.4

func TestRoll(t *testing.T) {
	a := api.Account{Meter: 7, Rev: 3, Next: 12, Month: 40, Bought: 49, Free: 40, Debts: []api.Debt{{Owed: 1000, Bp: 250}, {}, {Owed: 39, Bp: 250}, {Owed: 900000000, Bp: 5000}}}
	for _, c := range []struct {
		month, bought int
		debts         []api.Debt
	}{
		{40, 49, a.Debts},
		{41, 0, []api.Debt{{Owed: 1025, Bp: 250}, {}, {Owed: 39, Bp: 250}, {Owed: 1000000000, Bp: 5000}}},
		{42, 0, []api.Debt{{Owed: 1050, Bp: 250}, {}, {Owed: 39, Bp: 250}, {Owed: 1000000000, Bp: 5000}}},
		{43, 0, []api.Debt{{Owed: 1076, Bp: 250}, {}, {Owed: 39, Bp: 250}, {Owed: 1000000000, Bp: 5000}}},
		{2399, 0, []api.Debt{{Owed: 1000000000, Bp: 250}, {}, {Owed: 39, Bp: 250}, {Owed: 1000000000, Bp: 5000}}},
	} {
		want := api.Account{Meter: 7, Rev: 3, Next: 12, Month: c.month, Bought: c.bought, Free: 40, Debts: c.debts}
		rolled(a, c.month).is(t, outcome{want, api.Bill{}, api.OK}, "Roll", a, c.month)
	}
}

// TestRollOverAllMonths: from the first one to the last.
func TestRollOverAllMonths(t *testing.T) {
	a := fresh(api.Debt{Owed: 10000, Bp: 1})
	want := api.Account{Next: 1, Month: 2399, Free: -1, Debts: []api.Debt{{Owed: 12399, Bp: 1}}}
	rolled(a, 2399).is(t, outcome{want, api.Bill{}, api.OK}, "Roll", a, 2399)
	rolled(want, 2399).is(t, outcome{want, api.Bill{}, api.OK}, "Roll", want, 2399)
}

func TestRollDrawn(t *testing.T) {
	r := rand.New(rand.NewPCG(15, 4))
	for range 2000 {
		a := drawnAccount(r)
		month := a.Month + r.IntN(2400-a.Month)>>r.IntN(12)
		want := copyOf(a)
		if month > a.Month {
			want.Debts, want.Month, want.Bought = monthByMonth(a.Debts, month-a.Month), month, 0
		}
		rolled(a, month).is(t, outcome{want, api.Bill{}, api.OK}, "Roll", a, month)
	}
}

func TestRollOfWrongMonths(t *testing.T) {
	for _, a := range rights {
		for _, month := range append([]int{-1, 2400, 2401}, wrongNumbers...) {
			rolled(a, month).refused(t, api.ErrRange, "Roll", a, month)
		}
		for month := range a.Month {
			rolled(a, month).refused(t, api.ErrEarly, "Roll", a, month)
		}
	}
}

// P15.5

func TestSell(t *testing.T) {
	owed := []api.Debt{{Owed: 300, Bp: 100}, {Owed: 500, Bp: 250}}
	for _, c := range []struct {
		a             api.Account
		t             api.Terms
		tender, month int
		bill          api.Bill
		bought        int
		debts         []api.Debt
	}{
		{fresh(), api.Terms{Tariff: ten, FeeFix: 5}, 100, 0, api.Bill{Id: 1, Tender: 100, Fee: 5, Price: 90, Change: 5, Units: 9}, 9, nil},
		{fresh(api.Debt{Owed: 40}), api.Terms{Tariff: ten, FeeFix: 5, DebtBp: 5000}, 100, 0, api.Bill{Id: 1, Tender: 100, Debt: 40, Fee: 5, Price: 50, Change: 5, Units: 5}, 5, nil},
		{fresh(), api.Terms{Tariff: ten}, 100, 0, api.Bill{Id: 1, Tender: 100, Price: 100, Units: 10}, 10, nil},
		{fresh(), api.Terms{Tariff: ten}, 10, 0, api.Bill{Id: 1, Tender: 10, Price: 10, Units: 1}, 1, nil},
		{fresh(), api.Terms{Tariff: ten}, 109, 0, api.Bill{Id: 1, Tender: 109, Price: 100, Change: 9, Units: 10}, 10, nil},
		// The share of debts and the fee are of the tender, not of what is left of it; both are rounded down.
		{fresh(owed...), api.Terms{Tariff: ten, FeeFix: 7, FeeBp: 1000, DebtBp: 4000}, 999, 0, api.Bill{Id: 1, Tender: 999, Debt: 399, Fee: 106, Price: 490, Change: 4, Units: 49}, 49, []api.Debt{{Owed: 401, Bp: 250}}},
		{fresh(owed...), api.Terms{Tariff: ten, FeeBp: 1}, 9999, 0, api.Bill{Id: 1, Tender: 9999, Price: 9990, Change: 9, Units: 999}, 999, owed},
		{fresh(owed...), api.Terms{Tariff: ten, FeeBp: 1, DebtBp: 1}, 10000, 0, api.Bill{Id: 1, Tender: 10000, Debt: 1, Fee: 1, Price: 9990, Change: 8, Units: 999}, 999, []api.Debt{{Owed: 299, Bp: 100}, {Owed: 500, Bp: 250}}},
		// Debts of nothing go, also where nothing is paid.
		{fresh(api.Debt{}, api.Debt{Owed: 5, Bp: 1}, api.Debt{Bp: 9}), api.Terms{Tariff: ten}, 100, 0, api.Bill{Id: 1, Tender: 100, Price: 100, Units: 10}, 10, []api.Debt{{Owed: 5, Bp: 1}}},
		// Units are counted on in the month; a later one begins anew, with debts that have grown.
		{api.Account{Next: 1, Bought: 40, Free: -1}, api.Terms{Tariff: three}, 260, 0, api.Bill{Id: 1, Tender: 260, Price: 250, Change: 10, Units: 20}, 60, nil},
		{api.Account{Next: 1, Bought: 40, Free: -1}, api.Terms{Tariff: three}, 260, 1, api.Bill{Id: 1, Tender: 260, Price: 260, Units: 26}, 26, nil},
		{api.Account{Next: 9, Month: 5, Bought: 40, Free: 5, Debts: []api.Debt{{Owed: 1000, Bp: 250}}}, api.Terms{Tariff: three, DebtBp: 10000}, 1060, 7, api.Bill{Id: 9, Tender: 1060, Debt: 1050, Price: 10, Units: 1}, 1, nil},
		{api.Account{Next: 9, Month: 5, Bought: 40, Free: 5, Debts: []api.Debt{{Owed: 1000, Bp: 250}}}, api.Terms{Tariff: three, DebtBp: 5000}, 1000, 5, api.Bill{Id: 9, Tender: 1000, Debt: 500, Price: 490, Change: 10, Units: 36}, 76, []api.Debt{{Owed: 500, Bp: 250}}},
		// The most of all: units at once, units of a month, cents, numbers.
		{fresh(), api.Terms{Tariff: []api.Step{{Upto: 10000000, Price: 1}}}, 100000000, 0, api.Bill{Id: 1, Tender: 100000000, Price: 2097151, Change: 97902849, Units: 2097151}, 2097151, nil},
		{api.Account{Next: 1048575, Bought: 9999997, Free: -1}, api.Terms{Tariff: ten}, 100, 0, api.Bill{Id: 1048575, Tender: 100, Price: 30, Change: 70, Units: 3}, 10000000, nil},
		{api.Account{Next: 1, Bought: 10000000, Free: -1}, api.Terms{Tariff: ten}, 100, 2399, api.Bill{Id: 1, Tender: 100, Price: 100, Units: 10}, 10, nil},
		{fresh(), api.Terms{Tariff: ten, FeeFix: 100000, FeeBp: 9989}, 100000000, 0, api.Bill{Id: 1, Tender: 100000000, Fee: 99990000, Price: 10000, Units: 1000}, 1000, nil},
		{fresh(), api.Terms{Tariff: []api.Step{{Upto: 10000000, Price: 100000}}}, 100000, 0, api.Bill{Id: 1, Tender: 100000, Price: 100000, Units: 1}, 1, nil},
		{fresh(), api.Terms{Tariff: []api.Step{{Upto: 10000000, Price: 1}}}, 1, 0, api.Bill{Id: 1, Tender: 1, Price: 1, Units: 1}, 1, nil},
	} {
		want := c.a
		want.Month, want.Next, want.Bought, want.Debts = c.month, c.a.Next+1, c.bought, c.debts
		sold(c.a, c.t, c.tender, c.month).is(t, outcome{want, c.bill, api.OK}, "Sell", c.a, c.t, c.tender, c.month)
	}
}

// TestSellKeepsTheRest: whose meter it is, its key and the last allowance are none of a sale's.
func TestSellKeepsTheRest(t *testing.T) {
	a := api.Account{Meter: 7, Rev: 3, Next: 12, Month: 40, Bought: 49, Free: 38}
	want := api.Account{Meter: 7, Rev: 3, Next: 13, Month: 41, Bought: 9, Free: 38}
	sold(a, api.Terms{Tariff: ten, FeeFix: 5, Allowance: 3}, 100, 41).is(t, outcome{want, api.Bill{Id: 12, Tender: 100, Fee: 5, Price: 90, Change: 5, Units: 9}, api.OK}, "Sell", a)
}

func TestSellSlowly(t *testing.T) {
	r := rand.New(rand.NewPCG(15, 5))
	counts := map[api.Errno]int{}
	for range 6000 {
		a, terms := drawnAccount(r), drawnTerms(r)
		if r.IntN(20) == 0 {
			a.Next = 1048576
		}
		tender, month := 1+r.IntN(2000)>>r.IntN(10), a.Month+r.IntN(3)
		want := soldSlowly(a, terms, tender, month)
		counts[want.e]++
		sold(a, terms, tender, month).is(t, want, "Sell", a, terms, tender, month)
	}
	if counts[api.OK] < 2000 || counts[api.ErrTender] < 500 || counts[api.ErrIdsSpent] < 50 {
		t.Errorf("the drawn sales are too much alike: %v", counts)
	}
}

// TestSellRefusesInOrder: terms, then the month, then the tender, then numbers.
func TestSellRefusesInOrder(t *testing.T) {
	spent := api.Account{Next: 1048576, Month: 5, Free: -1}
	for _, c := range wrongTerms {
		for _, month := range []int{5, 6, 4, -1, 2400, math.MinInt, math.MaxInt} {
			for _, tender := range []int{1000, 0, -1, math.MinInt, math.MaxInt} {
				sold(spent, c.t, tender, month).refused(t, c.want, "Sell", spent, c.t, tender, month)
			}
		}
	}
	for _, tender := range []int{1000, 1, 0, -1, 100000001, math.MinInt, math.MaxInt} {
		for _, month := range append([]int{-1, 2400}, wrongNumbers...) {
			sold(spent, full, tender, month).refused(t, api.ErrRange, "Sell", spent, full, tender, month)
		}
		for month := range 5 {
			sold(spent, full, tender, month).refused(t, api.ErrEarly, "Sell", spent, full, tender, month)
		}
	}
	for _, month := range []int{5, 6, 2399} {
		for _, tender := range append([]int{-1, 0, 1, 100000001}, wrongNumbers...) {
			sold(spent, full, tender, month).refused(t, api.ErrTender, "Sell", spent, full, tender, month)
		}
		sold(spent, full, 1000, month).refused(t, api.ErrIdsSpent, "Sell", spent, full, 1000, month)
	}
}

func TestSellOfWrongTenders(t *testing.T) {
	for _, a := range []api.Account{fresh(), fresh(api.Debt{Owed: 40}), {Next: 1048575, Bought: 10000000, Free: -1}} {
		for _, tender := range append([]int{-1, 0, 100000001, 100000002, 1000000000000}, wrongNumbers...) {
			for _, terms := range []api.Terms{{Tariff: ten}, full, {Tariff: ten, FeeBp: 10000, DebtBp: 10000}} {
				sold(a, terms, tender, 0).refused(t, api.ErrTender, "Sell", a, terms, tender, 0)
			}
		}
	}
}

// TestSellTooLittle: what is left for units buys none, by a cent; with the cent more it does.
func TestSellTooLittle(t *testing.T) {
	for _, c := range []struct {
		a     api.Account
		t     api.Terms
		least int
	}{
		{fresh(), api.Terms{Tariff: ten}, 10},
		{fresh(), api.Terms{Tariff: three}, 10},
		{api.Account{Next: 1, Bought: 50, Free: -1}, api.Terms{Tariff: three}, 15},
		{api.Account{Next: 1, Bought: 200, Free: -1}, api.Terms{Tariff: three}, 20},
		{fresh(), api.Terms{Tariff: ten, FeeFix: 5}, 15},
		{fresh(), api.Terms{Tariff: ten, FeeFix: 100000}, 100010},
		{fresh(), api.Terms{Tariff: ten, FeeBp: 5000}, 19},
		{fresh(api.Debt{Owed: 40}), api.Terms{Tariff: ten, DebtBp: 10000}, 50},
		{fresh(api.Debt{Owed: 40}), api.Terms{Tariff: ten, FeeFix: 5, DebtBp: 10000}, 55},
		{fresh(api.Debt{Owed: 1000}), api.Terms{Tariff: ten, FeeFix: 5, DebtBp: 5000}, 29},
		{fresh(), api.Terms{Tariff: []api.Step{{Upto: 10000000, Price: 100000}}}, 100000},
	} {
		for tender := 1; tender < c.least; tender++ {
			sold(c.a, c.t, tender, 0).refused(t, api.ErrTender, "Sell", c.a, c.t, tender, 0)
		}
		if o := sold(c.a, c.t, c.least, 0); o.e != api.OK || o.b.Units != 1 {
			t.Errorf("Sell(%v, %v, %d, 0): %v, %v, want one unit", c.a, c.t, c.least, o.b, o.e)
		}
	}
}

// TestSellLeavesNothing: fees and debts take all or more, or there is nothing more to buy.
func TestSellLeavesNothing(t *testing.T) {
	owed := fresh(api.Debt{Owed: 1000000000})
	for _, tender := range []int{1, 2, 100, 9999, 10000, 10001, 99999999, 100000000} {
		for _, terms := range []api.Terms{
			{Tariff: ten, FeeBp: 10000}, {Tariff: ten, DebtBp: 10000}, {Tariff: ten, FeeFix: 100000, FeeBp: 10000}, {Tariff: ten, FeeBp: 10000, DebtBp: 10000},
			{Tariff: ten, FeeFix: 1, DebtBp: 10000}, {Tariff: ten, FeeFix: 100000, FeeBp: 10000, DebtBp: 10000, Allowance: 2097151},
		} {
			sold(owed, terms, tender, 0).refused(t, api.ErrTender, "Sell", owed, terms, tender, 0)
		}
		all := api.Account{Next: 1, Bought: 10000000, Free: -1}
		sold(all, api.Terms{Tariff: ten}, tender, 0).refused(t, api.ErrTender, "Sell", all, tender)
	}
}

// P15.6

func TestGrant(t *testing.T) {
	for _, c := range []struct {
		a         api.Account
		allowance int
		month     int
		want      api.Account
	}{
		{api.Account{Next: 7, Free: -1}, 50, 3, api.Account{Next: 8, Month: 3, Free: 3}},
		{fresh(), 1, 0, api.Account{Next: 2, Free: 0}},
		{fresh(), 2097151, 2399, api.Account{Next: 2, Month: 2399, Free: 2399}},
		// It does not count as bought; a later month begins anew.
		{api.Account{Meter: 7, Rev: 3, Next: 12, Month: 40, Bought: 49, Free: 39}, 50, 40, api.Account{Meter: 7, Rev: 3, Next: 13, Month: 40, Bought: 49, Free: 40}},
		{api.Account{Meter: 7, Rev: 3, Next: 12, Month: 40, Bought: 49, Free: 40}, 50, 41, api.Account{Meter: 7, Rev: 3, Next: 13, Month: 41, Free: 41}},
		{api.Account{Next: 1048575, Month: 40, Bought: 10000000, Free: 0}, 50, 40, api.Account{Next: 1048576, Month: 40, Bought: 10000000, Free: 40}},
		// Debts grow, but nothing is paid, and none is dropped.
		{api.Account{Next: 1, Month: 40, Free: 40, Debts: []api.Debt{{}, {Owed: 1000, Bp: 250}, {Bp: 7}}}, 50, 42, api.Account{Next: 2, Month: 42, Free: 42, Debts: []api.Debt{{}, {Owed: 1050, Bp: 250}, {Bp: 7}}}},
		{api.Account{Next: 1, Month: 40, Free: 39, Debts: []api.Debt{{}, {Owed: 1000, Bp: 250}, {Bp: 7}}}, 50, 40, api.Account{Next: 2, Month: 40, Free: 40, Debts: []api.Debt{{}, {Owed: 1000, Bp: 250}, {Bp: 7}}}},
	} {
		terms := full
		terms.Allowance = c.allowance
		want := outcome{c.want, api.Bill{Id: c.a.Next, Units: c.allowance}, api.OK}
		granted(c.a, terms, c.month).is(t, want, "Grant", c.a, terms, c.month)
	}
}

// TestGrantRefusesInOrder: terms, then the month, then that there is none, then that it was had, then numbers.
func TestGrantRefusesInOrder(t *testing.T) {
	spent := api.Account{Next: 1048576, Month: 5, Free: 5}
	none := full
	none.Allowance = 0
	for _, c := range wrongTerms {
		for _, month := range []int{5, 6, 4, -1, 2400, math.MinInt, math.MaxInt} {
			granted(spent, c.t, month).refused(t, c.want, "Grant", spent, c.t, month)
		}
	}
	for _, terms := range []api.Terms{full, none} {
		for _, month := range append([]int{-1, 2400}, wrongNumbers...) {
			granted(spent, terms, month).refused(t, api.ErrRange, "Grant", spent, terms, month)
		}
		for month := range 5 {
			granted(spent, terms, month).refused(t, api.ErrEarly, "Grant", spent, terms, month)
		}
	}
	for _, a := range []api.Account{spent, {Next: 1, Month: 5, Free: 5}, {Next: 1, Month: 5, Free: -1}, {Next: 1048576, Month: 5, Free: -1}} {
		for _, month := range []int{5, 6, 2399} {
			granted(a, none, month).refused(t, api.ErrNone, "Grant", a, none, month)
		}
	}
	granted(spent, full, 5).refused(t, api.ErrTwice, "Grant", spent, full, 5)
	granted(spent, full, 6).refused(t, api.ErrIdsSpent, "Grant", spent, full, 6)
	spent.Free = 4
	granted(spent, full, 5).refused(t, api.ErrIdsSpent, "Grant", spent, full, 5)
}

// TestGrantTwice: in the first month too, of which nothing but Free tells that it was had.
func TestGrantTwice(t *testing.T) {
	for _, month := range []int{0, 1, 40, 2399} {
		a := api.Account{Next: 2, Month: month, Free: month}
		granted(a, full, month).refused(t, api.ErrTwice, "Grant", a, full, month)
		a.Free = month - 1
		if o := granted(a, full, month); o.e != api.OK {
			t.Errorf("Grant(%v, %d): %v", a, month, o.e)
		}
	}
}

// P15.7

func TestOwe(t *testing.T) {
	for _, d := range []api.Debt{{Owed: 3, Bp: 2}, {Owed: 1}, {Owed: 1, Bp: 10000}, {Owed: 1000000000}, {Owed: 1000000000, Bp: 10000}} {
		a := api.Account{Meter: 7, Rev: 3, Next: 1048576, Month: 40, Bought: 49, Free: 39}
		for n := range 8 {
			want := copyOf(a)
			want.Debts = append(want.Debts, d)
			owing(a, d).is(t, outcome{want, api.Bill{}, api.OK}, "Owe", a, d)
			// The others are unlike it, so that its place is told.
			a.Debts = append(a.Debts, api.Debt{Owed: 100 * n, Bp: n})
		}
	}
}

func TestOweRefuses(t *testing.T) {
	eight := slices.Repeat([]api.Debt{{Owed: 5, Bp: 5}}, 8)
	for _, a := range []api.Account{fresh(), fresh(api.Debt{}), fresh(eight[:7]...), fresh(eight...), fresh(make([]api.Debt, 8)...)} {
		for _, n := range append([]int{-1, 0, 1000000001}, wrongNumbers...) {
			owing(a, api.Debt{Owed: n}).refused(t, api.ErrRange, "Owe", a, n)
			owing(a, api.Debt{Owed: n, Bp: 10000}).refused(t, api.ErrRange, "Owe", a, n)
		}
		for _, n := range append([]int{-1, 10001}, wrongNumbers...) {
			owing(a, api.Debt{Owed: 1, Bp: n}).refused(t, api.ErrRange, "Owe", a, n)
			owing(a, api.Debt{Bp: n}).refused(t, api.ErrRange, "Owe", a, n)
		}
		want := api.OK
		if len(a.Debts) == 8 {
			want = api.ErrFull
		}
		for _, d := range []api.Debt{{Owed: 1}, {Owed: 1000000000, Bp: 10000}} {
			if o := owing(a, d); o.e != want {
				t.Errorf("Owe(%v, %v): %v, want %v", a, d, o.e, want)
			}
		}
	}
	owing(fresh(eight...), api.Debt{Owed: 1}).refused(t, api.ErrFull, "Owe", eight)
	// Of eight nothing may be left: they are eight.
	owing(fresh(make([]api.Debt, 8)...), api.Debt{Owed: 1}).refused(t, api.ErrFull, "Owe of none")
}

// P15.8

func TestRekey(t *testing.T) {
	for rev := range 15 {
		for _, next := range []int{1, 2, 700, 1048574, 1048575} {
			a := api.Account{Meter: 7, Rev: rev, Next: next, Month: 40, Bought: 49, Free: 39, Debts: []api.Debt{{}, {Owed: 1000, Bp: 250}}}
			want := copyOf(a)
			want.Rev, want.Next = rev+1, next+1
			rekeyed(a).is(t, outcome{want, api.Bill{Id: next}, api.OK}, "Rekey", a)
		}
		spent := api.Account{Rev: rev, Next: 1048576}
		rekeyed(spent).refused(t, api.ErrIdsSpent, "Rekey", spent)
	}
	for _, next := range []int{1, 1048575, 1048576} {
		last := api.Account{Rev: 15, Next: next}
		rekeyed(last).refused(t, api.ErrKey, "Rekey", last)
	}
}

// What comes of it.

// step: something drawn that is done to an account, and what it was.
func step(r *rand.Rand, a api.Account, t api.Terms, month int) (outcome, string) {
	switch r.IntN(8) {
	case 0:
		return granted(a, t, month), "Grant"
	case 1:
		return owing(a, api.Debt{Owed: r.IntN(900), Bp: r.IntN(300)}), "Owe"
	case 2:
		return rekeyed(a), "Rekey"
	case 3:
		return rolled(a, month), "Roll"
	}
	return sold(a, t, r.IntN(4000), month), "Sell"
}

// TestToTheCent: where the money goes, with one unit more costing more than is left.
func TestToTheCent(t *testing.T) {
	r := rand.New(rand.NewPCG(15, 9))
	sales := 0
	for range 4000 {
		a, terms := drawnAccount(r), drawnTerms(r)
		tender, month := 1+r.IntN(100000000)>>r.IntN(27), a.Month+r.IntN(3)
		o := sold(a, terms, tender, month)
		if o.e != api.OK {
			continue
		}
		sales++
		b := o.b
		if b.Tender != tender || b.Debt+b.Fee+b.Price+b.Change != tender || min(b.Debt, b.Fee, b.Price, b.Change) < 0 {
			t.Fatalf("Sell(%v, %v, %d, %d): %v does not add up", a, terms, tender, month, b)
		}
		if b.Units < 2097151 && o.a.Bought < 10000000 && priceOf(terms.Tariff, o.a.Bought+1) <= b.Change {
			t.Fatalf("Sell(%v, %v, %d, %d): %v: another unit could be bought", a, terms, tender, month, b)
		}
	}
	if sales < 1000 {
		t.Errorf("%d sales are too few", sales)
	}
}

// TestNumbersRiseOneByOne: whatever is done, a token's number is the one behind that of the last; an allowance is had once a month; and what comes out may always be handed in again.
func TestNumbersRiseOneByOne(t *testing.T) {
	r := rand.New(rand.NewPCG(15, 10))
	for meter := range 50 {
		a, _ := account.Open(meter)
		terms := drawnTerms(r)
		terms.Allowance = 1 + r.IntN(2097151)
		last, had, month := 0, map[int]int{}, 0
		for range 300 {
			month = min(2399, month+r.IntN(5)/4)
			o, what := step(r, a, terms, month)
			if o.e == api.ErrState {
				t.Fatalf("%s(%v): what came out may not be", what, a)
			}
			if o.e != api.OK {
				continue
			}
			a = o.a
			if what == "Grant" {
				had[month]++
			}
			if what == "Owe" || what == "Roll" {
				continue
			}
			if last++; o.b.Id != last || a.Next != last+1 {
				t.Fatalf("%s: the number %d with %v, behind %d tokens", what, o.b.Id, a, last-1)
			}
		}
		for m, n := range had {
			if n != 1 {
				t.Errorf("%d allowances in the month %d", n, m)
			}
		}
		if last < 20 || len(had) < 5 {
			t.Errorf("%d tokens and %d allowances are too few", last, len(had))
		}
	}
}

// What holds everywhere.

// TestListsStayAsTheyAre: debts, steps and their spare room, with which nothing that comes out is shared.
func TestListsStayAsTheyAre(t *testing.T) {
	room := []api.Debt{{Owed: 1000, Bp: 250}, {Owed: 500, Bp: 100}, {Owed: 30}, {Owed: 7, Bp: 8}, {Owed: 9, Bp: 10}}
	steps := append(slices.Clone(three), api.Step{Upto: 7, Price: 7})
	wereDebts, wereSteps := slices.Clone(room), slices.Clone(steps)
	answers := func() []outcome {
		a := api.Account{Meter: 7, Next: 12, Month: 40, Free: 39, Debts: room[:3]}
		terms := full
		terms.Tariff = steps[:3]
		return []outcome{
			rolled(a, 40), rolled(a, 42), sold(a, terms, 1000, 40), sold(a, terms, 3500, 41),
			granted(a, terms, 40), granted(a, terms, 41), owing(a, api.Debt{Owed: 3}), rekeyed(a),
		}
	}
	first := answers()
	var want []outcome
	for _, o := range first {
		if o.e != api.OK || len(o.a.Debts) == 0 {
			t.Fatalf("%v: that is too little to look at", o)
		}
		want = append(want, outcome{copyOf(o.a), o.b, o.e})
	}
	same := func(a, b outcome) bool { return alike(a.a, b.a) && a.b == b.b && a.e == b.e }
	for _, o := range answers() {
		for i := range o.a.Debts[:cap(o.a.Debts)] {
			o.a.Debts[:cap(o.a.Debts)][i] = api.Debt{Owed: -1, Bp: -1}
		}
	}
	if !slices.Equal(room, wereDebts) || !slices.Equal(steps, wereSteps) {
		t.Errorf("debts and steps with their spare room: %v, %v; they were %v, %v", room, steps, wereDebts, wereSteps)
	}
	if !slices.EqualFunc(first, want, same) {
		t.Errorf("answers became %v when others were written over; they were %v", first, want)
	}
	clear(room)
	clear(steps)
	if !slices.EqualFunc(first, want, same) {
		t.Errorf("answers became %v when the lists were written over; they were %v", first, want)
	}
}

// TestSpareRoomHoldsNothing: what lies behind the lists is none of them.
func TestSpareRoomHoldsNothing(t *testing.T) {
	a := fresh([]api.Debt{{Owed: 40}, {Owed: -1}, {Bp: -1}}[:1]...)
	terms := api.Terms{Tariff: []api.Step{{Upto: 10000000, Price: 10}, {}}[:1], FeeFix: 5, DebtBp: 5000}
	want := api.Account{Next: 2, Bought: 5, Free: -1}
	sold(a, terms, 100, 0).is(t, outcome{want, api.Bill{Id: 1, Tender: 100, Debt: 40, Fee: 5, Price: 50, Change: 5, Units: 5}, api.OK}, "Sell", a)
}

// TestRefusalsChangeNothing: where a call is refused halfway, what was handed in is what it was.
func TestRefusalsChangeNothing(t *testing.T) {
	a := api.Account{Next: 1048576, Month: 40, Bought: 7, Free: 39, Debts: []api.Debt{{Owed: 1000, Bp: 250}, {}, {Owed: 30}}}
	was := copyOf(a)
	sold(a, full, 1000, 42).refused(t, api.ErrIdsSpent, "Sell", a)
	sold(a, full, 1, 42).refused(t, api.ErrTender, "Sell", a)
	granted(a, full, 42).refused(t, api.ErrIdsSpent, "Grant", a)
	rekeyed(a).refused(t, api.ErrIdsSpent, "Rekey", a)
	owing(a, api.Debt{}).refused(t, api.ErrRange, "Owe", a)
	if !alike(a, was) {
		t.Errorf("the account is %v; it was %v", a, was)
	}
}

// TestNothingIsKept: calls from many sides answer what one alone answers.
func TestNothingIsKept(t *testing.T) {
	shared := []api.Debt{{Owed: 300, Bp: 100}, {Owed: 500, Bp: 250}}
	walk := func(seed uint64) string {
		r := rand.New(rand.NewPCG(15, seed))
		a := fresh(shared...)
		told, month := "", 0
		for range 200 {
			month += r.IntN(5) / 4
			o, what := step(r, a, full, month)
			told += fmt.Sprintln(what, o)
			if o.e == api.OK {
				a = o.a
			}
		}
		return told
	}
	want := []string{walk(0), walk(1)}
	var all sync.WaitGroup
	for i := range 8 {
		all.Go(func() {
			if walk(uint64(i%2)) != want[i%2] {
				t.Errorf("calls beside others answer something else")
			}
		})
	}
	all.Wait()
}
