package vend_test

import (
	"fmt"
	"math"
	"math/big"
	"math/rand/v2"
	"slices"
	"strings"
	"sync"
	"testing"

	"vendmeter/account"
	"vendmeter/api"
	"vendmeter/book"
	"vendmeter/cell"
	"vendmeter/disk"
	"vendmeter/oracle"
	"vendmeter/pocket"
	"vendmeter/receipt"
	"vendmeter/vend"
)

// ten: terms of one step, 10 cents a unit, and nothing else.
var ten = api.Terms{Tariff: []api.Step{{Upto: 10000000, Price: 10}}}

// full: terms in which nothing is 0.
var full = api.Terms{Tariff: []api.Step{{Upto: 50, Price: 10}, {Upto: 10000000, Price: 20}}, FeeFix: 3, FeeBp: 150, DebtBp: 3000, Allowance: 25}

// plain: full, without fees and higher prices: what the terms ten sell, these sell for the same.
var plain = api.Terms{Tariff: ten.Tariff, DebtBp: 3000, Allowance: 25}

// strange: numbers that are no meter, no month and no draw, some of which are others of 32 bits.
var strange = []int{math.MinInt, math.MinInt + 1, math.MinInt32, -1 << 32, -50, -2, -1, 1 << 31, 1<<32 - 1, 1 << 32, 1<<32 + 1, 1<<32 + 2, 1 << 62, math.MaxInt - 1, math.MaxInt}

// question: what somebody asks of a server.
type question struct {
	call                           string
	meter, tender, month, draw, id int
	debt                           api.Debt
}

// answer: what a server answers; fields that the call has not are 0.
type answer struct {
	Book   api.Book
	Writes []api.Write
	Tags   api.Oracle
	Slip   api.Receipt
	Text   string
	Code   int
}

// calls: their names.
var calls = []string{"load", "register", "charge", "sell", "grant", "rekey", "reprint"}

// ask a server.
func ask(terms api.Terms, c []uint32, o api.Oracle, q question) answer {
	var a answer
	var e api.Errno
	switch q.call {
	case "load":
		a.Book, e = vend.Load(terms, c)
	case "register":
		a.Writes, e = vend.Register(terms, c, q.meter)
	case "charge":
		a.Writes, e = vend.Charge(terms, c, q.meter, q.debt)
	case "sell":
		a.Writes, a.Tags, a.Slip, e = vend.Sell(terms, c, o, q.meter, q.tender, q.month, q.draw)
	case "grant":
		a.Writes, a.Tags, a.Slip, e = vend.Grant(terms, c, o, q.meter, q.month, q.draw)
	case "rekey":
		a.Writes, a.Tags, a.Slip, e = vend.Rekey(terms, c, o, q.meter, q.draw)
	case "reprint":
		a.Text, e = vend.Reprint(terms, c, q.meter, q.id)
	}
	a.Code = int(e)
	return a
}

// same answers? An empty list may be nil or not.
func same(a, b answer) bool { return fmt.Sprint(a) == fmt.Sprint(b) }

// answers: is a question answered so?
func answers(t *testing.T, terms api.Terms, c []uint32, o api.Oracle, q question, want answer) {
	t.Helper()
	if got := ask(terms, c, o, q); !same(got, want) {
		t.Fatalf("%+v, with %v, %v and %v: %+v, want %+v", q, terms, c, o, got, want)
	}
}

// refuses: is a question refused so, with nothing else told?
func refuses(t *testing.T, terms api.Terms, c []uint32, o api.Oracle, q question, want api.Errno) {
	t.Helper()
	answers(t, terms, c, o, q, answer{Code: int(want)})
}

// wordsOf an event, by the chapter's list of them.
func wordsOf(v api.Event) []uint32 {
	var l []uint32
	for _, n := range []int{v.Kind, v.Meter, v.Month, v.Bill.Id, v.Bill.Tender, v.Bill.Debt, v.Bill.Fee, v.Bill.Price, v.Bill.Change, v.Bill.Units, v.Tag, v.Debt.Owed, v.Debt.Bp} {
		l = append(l, uint32(n))
	}
	return l
}

// lay records on a disk of so many words.
func lay(size int, records ...[]uint32) []uint32 {
	c := make([]uint32, 0, size)
	for _, rec := range records {
		c = append(append(c, uint32(len(rec))), rec...)
	}
	return append(c, make([]uint32, size-len(c))...)
}

// layEvents on a disk of so many words.
func layEvents(size int, l ...api.Event) []uint32 {
	var records [][]uint32
	for _, v := range l {
		records = append(records, wordsOf(v))
	}
	return lay(size, records...)
}

// registered: a disk with customers of these meters, and room for more.
func registered(meters ...int) []uint32 {
	var l []api.Event
	for _, m := range meters {
		l = append(l, api.Event{Kind: 1, Meter: m})
	}
	return layEvents(1000, l...)
}

// writesOf an event that is kept on a disk of so many words, which ends there.
func writesOf(size, end int, v api.Event) []api.Write {
	var l []api.Write
	for i, word := range wordsOf(v) {
		l = append(l, api.Write{At: end + 1 + i, Word: word})
	}
	if end+14 < size {
		l = append(l, api.Write{At: end + 14, Word: 0})
	}
	return append(l, api.Write{At: end, Word: 13})
}

// digitsOf a token, in numbers of any size.
func digitsOf(class, id, amount, tag int) string {
	n := new(big.Int).Lsh(big.NewInt(int64(class)), 41)
	n.Add(n, new(big.Int).Lsh(big.NewInt(int64(id)), 21))
	n.Add(n, big.NewInt(int64(amount)))
	n.Lsh(n, 16)
	n.Add(n, big.NewInt(int64(tag)))
	return fmt.Sprintf("%020s", n.Mul(n, big.NewInt(97)).String())
}

func bodyOf(class, id, amount int) int { return class<<41 + id<<21 + amount }

// done: a disk behind all writes of an answer.
func done(c []uint32, l []api.Write) []uint32 {
	c = slices.Clone(c)
	for _, w := range l {
		c[w.At] = w.Word
	}
	return c
}

// slowly: what a server answers, in the chapter's words, one after the other.
func slowly(terms api.Terms, c []uint32, o api.Oracle, q question) answer {
	refused := func(e api.Errno) answer { return answer{Code: int(e)} }
	records, end, e := disk.Replay(c)
	if e != api.OK {
		return refused(e)
	}
	var events []api.Event
	for _, rec := range records {
		v, e := book.Decode(rec)
		if e != api.OK {
			return refused(e)
		}
		events = append(events, v)
	}
	b, _, e := book.Of(terms, events)
	if e != api.OK {
		return refused(e)
	}
	if q.call == "load" {
		return answer{Book: b}
	}
	var buyer *api.Customer
	for i := range b.Customers {
		if b.Customers[i].Account.Meter == q.meter {
			buyer = &b.Customers[i]
		}
	}
	v := api.Event{Meter: q.meter}
	keep := func() ([]api.Write, api.Errno) {
		if len(events) >= 120 || len(c)-end < 14 {
			return nil, api.ErrFull
		}
		return writesOf(len(c), end, v), api.OK
	}
	if q.call == "register" {
		switch {
		case q.meter < 0 || q.meter > 49:
			return refused(api.ErrRange)
		case buyer != nil:
			return refused(api.ErrTwice)
		}
		v.Kind = 1
		l, e := keep()
		return answer{Writes: l, Code: int(e)}
	}
	if buyer == nil {
		return refused(api.ErrNoMeter)
	}
	ahead := buyer.Account
	class := 0
	switch q.call {
	case "reprint":
		for _, s := range buyer.Sold {
			if s.Id == q.id {
				return answer{Text: digitsOf(s.Class, s.Id, s.Amount, s.Tag)}
			}
		}
		return refused(api.ErrNone)
	case "charge":
		if _, e := account.Owe(ahead, q.debt); e != api.OK {
			return refused(e)
		}
		v.Kind, v.Debt = 5, q.debt
		l, e := keep()
		return answer{Writes: l, Code: int(e)}
	case "sell":
		v.Kind, v.Month = 2, q.month
		_, v.Bill, e = account.Sell(ahead, terms, q.tender, q.month)
	case "grant":
		v.Kind, v.Month = 3, q.month
		_, v.Bill, e = account.Grant(ahead, terms, q.month)
	case "rekey":
		v.Kind, class = 4, 2
		_, v.Bill, e = account.Rekey(ahead)
	}
	if e != api.OK {
		return refused(e)
	}
	amount := v.Bill.Units
	if q.call == "rekey" {
		amount = ahead.Rev + 1
	}
	tags, tag, e := oracle.Issue(o, q.meter, ahead.Rev, bodyOf(class, v.Bill.Id, amount), q.draw)
	if e != api.OK {
		return refused(e)
	}
	v.Tag = tag
	l, e := keep()
	if e != api.OK {
		return refused(e)
	}
	return answer{Writes: l, Tags: tags, Slip: api.Receipt{Meter: q.meter, Bill: v.Bill, Token: digitsOf(class, v.Bill.Id, amount, tag)}}
}

// The chapter's examples.

func TestExamples(t *testing.T) {
	want := []api.Write{{At: 1, Word: 1}, {At: 2, Word: 2}}
	for at := 3; at <= 14; at++ {
		want = append(want, api.Write{At: at})
	}
	want = append(want, api.Write{At: 0, Word: 13})
	c := make([]uint32, 100)
	answers(t, ten, c, api.Oracle{}, question{call: "register", meter: 2}, answer{Writes: want})
	refuses(t, ten, c, api.Oracle{}, question{call: "sell", meter: 2, tender: 100}, api.ErrNoMeter)
}

// TestWhole: the document's example of the whole, as far as the server goes.
func TestWhole(t *testing.T) {
	c := make([]uint32, 200)
	c = done(c, ask(ten, c, api.Oracle{}, question{call: "register", meter: 1}).Writes)
	sold := ask(ten, c, api.Oracle{}, question{call: "sell", meter: 1, tender: 100, draw: 7})
	if sold.Code != 0 || sold.Slip != (api.Receipt{Meter: 1, Bill: api.Bill{Id: 1, Tender: 100, Price: 100, Units: 10}, Token: digitsOf(0, 1, 10, 7)}) {
		t.Fatalf("sold: %+v", sold)
	}
	// The power goes behind three writes: the book is as it was, and the same sale has the same digits.
	cut, _ := cell.Apply(c, sold.Writes, 3)
	was, _ := vend.Load(ten, c)
	answers(t, ten, cut, sold.Tags, question{call: "load"}, answer{Book: was})
	answers(t, ten, cut, sold.Tags, question{call: "sell", meter: 1, tender: 100, draw: 8}, sold)
	c = done(c, sold.Writes)
	key := ask(ten, c, sold.Tags, question{call: "rekey", meter: 1, draw: 9})
	if key.Code != 0 || key.Slip != (api.Receipt{Meter: 1, Bill: api.Bill{Id: 2}, Token: digitsOf(2, 2, 1, 9)}) {
		t.Fatalf("a new key: %+v", key)
	}
}

// P19.1

// broken: disks that Replay refuses.
func broken() map[api.Errno][][]uint32 {
	big := registered(1)
	big[14] = 65
	beyond := layEvents(28, api.Event{Kind: 1, Meter: 1})
	beyond[14] = 14
	most := layEvents(2049, api.Event{Kind: 1, Meter: 1})
	// A record that Decode refuses stands ahead of the length that Replay refuses.
	both := lay(100, []uint32{1, 2, 3})
	both[4] = 1 << 31
	return map[api.Errno][][]uint32{
		api.ErrSize: {nil, {}, most, make([]uint32, 2049), make([]uint32, 5000)},
		api.ErrForm: {big, beyond, both, {65}, {1}, {2, 1}, {math.MaxUint32, 0, 0}},
	}
}

// wrongRecords: disks of which Decode refuses a record.
func wrongRecords() map[api.Errno][][]uint32 {
	none := api.Event{Kind: 6, Meter: 1}
	short := wordsOf(api.Event{Kind: 1, Meter: 1})[:12]
	long := append(wordsOf(api.Event{Kind: 1, Meter: 1}), 0)
	one := wordsOf(api.Event{Kind: 1, Meter: 1})
	return map[api.Errno][][]uint32{
		api.ErrSize: {lay(500, short), lay(500, long), lay(500, one, short), lay(500, one, []uint32{1}), lay(500, make([]uint32, 64)),
			// Of two the first one is told; what does not happen is none of Decode's.
			lay(500, short, wordsOf(none)), lay(500, long, wordsOf(none), wordsOf(none)), lay(500, one, one, long), lay(500, one, one, one, short)},
		api.ErrState: {layEvents(500, none), lay(500, wordsOf(none), short), lay(500, one, wordsOf(none), long), layEvents(500, api.Event{Kind: 1, Meter: 50}),
			layEvents(500, api.Event{}), layEvents(500, api.Event{Kind: 1, Tag: 1}), lay(500, one, one, wordsOf(none)),
			lay(500, wordsOf(api.Event{Kind: 4, Meter: 9, Bill: api.Bill{Id: 3}}), wordsOf(none))},
	}
}

// manyEvents: so many that happen, on a disk of so many words.
func manyEvents(size, n int) []uint32 {
	l := []api.Event{{Kind: 1, Meter: 1}, {Kind: 1, Meter: 2}}
	for i := 2; i < n; i++ {
		l = append(l, api.Event{Kind: 2, Meter: 1, Bill: api.Bill{Id: i - 1, Tender: 10, Price: 10, Units: 1}, Tag: i})
	}
	return layEvents(size, l[:n]...)
}

// notHappening: disks whose events do not happen, by the terms ten.
func notHappening() map[api.Errno][][]uint32 {
	one := api.Event{Kind: 1, Meter: 1}
	return map[api.Errno][][]uint32{
		api.ErrSize:    {manyEvents(2048, 121), manyEvents(2048, 146)},
		api.ErrTwice:   {layEvents(500, one, one), layEvents(500, one, one, api.Event{Kind: 4, Meter: 2, Bill: api.Bill{Id: 1}})},
		api.ErrNoMeter: {layEvents(500, api.Event{Kind: 4, Meter: 2, Bill: api.Bill{Id: 1}}, one, one)},
		api.ErrCheck:   {layEvents(500, one, api.Event{Kind: 2, Meter: 1, Bill: api.Bill{Id: 1, Tender: 100, Price: 90, Change: 10, Units: 9}})},
		api.ErrTender:  {layEvents(500, one, api.Event{Kind: 2, Meter: 1, Bill: api.Bill{Id: 1, Tender: 9, Change: 9, Units: 1}})},
		api.ErrNone:    {layEvents(500, one, api.Event{Kind: 3, Meter: 1, Bill: api.Bill{Id: 1, Units: 5}})},
	}
}

// wrongTerms: terms that Check refuses.
var wrongTerms = map[api.Errno][]api.Terms{
	api.ErrSize:  {{}, {Tariff: make([]api.Step, 9)}},
	api.ErrRange: {{Tariff: []api.Step{{Upto: 10000000, Price: 0}}}, {Tariff: ten.Tariff, FeeFix: -1}, {Tariff: ten.Tariff, DebtBp: 10001}, {Tariff: ten.Tariff, Allowance: 2097152}},
	api.ErrForm:  {{Tariff: []api.Step{{Upto: 9999999, Price: 1}}}},
}

// anyQuestions of a call: some that would be answered, and some in which all else is wrong.
func anyQuestions(call string) []question {
	return []question{
		{call: call, meter: 1, tender: 100, id: 1, debt: api.Debt{Owed: 1}},
		{call: call, meter: 3, tender: 100, id: 1, debt: api.Debt{Owed: 1}},
		{call: call, meter: -1, tender: -1, month: -1, draw: -1, id: -1, debt: api.Debt{Owed: -1}},
		{call: call, meter: 1, tender: math.MaxInt, month: math.MaxInt, draw: math.MaxInt, id: math.MinInt, debt: api.Debt{Bp: -1}},
	}
}

// anyOracles: some that may be, some that may not.
var anyOracles = []api.Oracle{{}, {Pairs: []api.Pair{{Meter: 1, Body: 5, Tag: 6}}}, {Pairs: []api.Pair{{Meter: -1}}}, {Pairs: make([]api.Pair, 501)}}

// refusesAll: do all calls refuse a disk and terms so, ahead of all else?
func refusesAll(t *testing.T, terms api.Terms, c []uint32, want api.Errno) {
	t.Helper()
	for _, call := range calls {
		for _, q := range anyQuestions(call) {
			for _, o := range anyOracles {
				refuses(t, terms, c, o, q, want)
			}
		}
	}
}

func TestRefusedAheadOfAll(t *testing.T) {
	each := func(disks map[api.Errno][][]uint32, terms api.Terms) {
		t.Helper()
		for want, l := range disks {
			for _, c := range l {
				refusesAll(t, terms, c, want)
			}
		}
	}
	each(broken(), ten)
	each(wrongRecords(), ten)
	each(notHappening(), ten)
	for want, l := range wrongTerms {
		for _, terms := range l {
			// What the disk's records are comes ahead of the terms.
			each(broken(), terms)
			each(wrongRecords(), terms)
			// The terms come ahead of events that do not happen, and of too many.
			for _, c := range [][]uint32{make([]uint32, 1), make([]uint32, 2048), registered(), registered(1, 2), manyEvents(2048, 121)} {
				refusesAll(t, terms, c, want)
			}
			for _, l := range notHappening() {
				for _, c := range l {
					refusesAll(t, terms, c, want)
				}
			}
		}
	}
}

func TestLoad(t *testing.T) {
	loads := func(terms api.Terms, c []uint32, want ...api.Customer) {
		t.Helper()
		answers(t, terms, c, api.Oracle{}, question{call: "load"}, answer{Book: api.Book{Customers: want}})
	}
	first := func(meter int) api.Customer {
		return api.Customer{Account: api.Account{Meter: meter, Next: 1, Free: -1}}
	}
	loads(ten, make([]uint32, 1))
	loads(ten, make([]uint32, 2048))
	loads(full, registered(7), first(7))
	// In the order in which they came, not in that of their numbers.
	loads(full, registered(7, 0, 49, 3), first(7), first(0), first(49), first(3))
	// On a disk without a word behind the records.
	loads(full, layEvents(14, api.Event{Kind: 1, Meter: 5}), first(5))
	loads(ten, layEvents(500,
		api.Event{Kind: 1, Meter: 5},
		api.Event{Kind: 5, Meter: 5, Debt: api.Debt{Owed: 40, Bp: 250}},
		api.Event{Kind: 2, Meter: 5, Bill: api.Bill{Id: 1, Tender: 105, Price: 100, Change: 5, Units: 10}, Tag: 77},
		api.Event{Kind: 1, Meter: 2},
		api.Event{Kind: 4, Meter: 5, Bill: api.Bill{Id: 2}, Tag: 78}),
		api.Customer{Account: api.Account{Meter: 5, Rev: 1, Next: 3, Bought: 10, Free: -1, Debts: []api.Debt{{Owed: 40, Bp: 250}}}, Sold: []api.Sold{{Id: 1, Amount: 10, Tag: 77}, {Id: 2, Class: 2, Amount: 1, Tag: 78}}},
		first(2))
	// What stands behind the end means nothing.
	c := registered(7, 8)
	for i := 29; i < len(c); i++ {
		c[i] = 12345678
	}
	loads(ten, c, first(7), first(8))
	// As many events as there may be.
	b, e := vend.Load(ten, manyEvents(2048, 120))
	if e != api.OK || len(b.Customers) != 2 || len(b.Customers[0].Sold) != 118 {
		t.Errorf("Load of 120 events: %v, %v", b, e)
	}
}

// P19.2

// keeping: a question of each call that keeps an event, and the event, on a disk where 1 and 2 are
// registered, by the terms full.
var keeping = []struct {
	question
	event api.Event
}{
	{question{call: "register", meter: 3}, api.Event{Kind: 1, Meter: 3}},
	{question{call: "charge", meter: 2, debt: api.Debt{Owed: 40, Bp: 250}}, api.Event{Kind: 5, Meter: 2, Debt: api.Debt{Owed: 40, Bp: 250}}},
	{question{call: "sell", meter: 2, tender: 1000, month: 12, draw: 77}, api.Event{Kind: 2, Meter: 2, Month: 12, Bill: api.Bill{Id: 1, Tender: 1000, Fee: 18, Price: 980, Change: 2, Units: 74}, Tag: 77}},
	{question{call: "grant", meter: 2, month: 12, draw: 78}, api.Event{Kind: 3, Meter: 2, Month: 12, Bill: api.Bill{Id: 1, Units: 25}, Tag: 78}},
	{question{call: "rekey", meter: 2, draw: 79}, api.Event{Kind: 4, Meter: 2, Bill: api.Bill{Id: 1}, Tag: 79}},
}

func TestKept(t *testing.T) {
	two := []api.Event{{Kind: 1, Meter: 1}, {Kind: 1, Meter: 2}}
	for _, k := range keeping {
		// 28 words are there: 14 more are enough, behind which there is no word that has to be 0.
		for _, size := range []int{42, 43, 44, 100, 2047, 2048} {
			c := layEvents(size, two...)
			got := ask(full, c, api.Oracle{}, k.question)
			want := writesOf(size, 28, k.event)
			if len(want) != min(size-28, 15) && size < 44 || got.Code != 0 || !slices.Equal(got.Writes, want) {
				t.Fatalf("%+v on %d words: %+v, want %v", k.question, size, got, want)
			}
			// Behind all of them the disk tells one event more.
			records, end, _ := disk.Replay(done(c, got.Writes))
			if end != 42 || len(records) != 3 || !slices.Equal(records[2], wordsOf(k.event)) {
				t.Fatalf("%+v: the disk has %v", k.question, records)
			}
		}
		for size := 28; size < 42; size++ {
			refuses(t, full, layEvents(size, two...), api.Oracle{}, k.question, api.ErrFull)
		}
	}
}

// TestKeptBehindWhatIsLeft: a word behind the end may be anything, and is 0 when the record is there.
func TestKeptBehindWhatIsLeft(t *testing.T) {
	for _, k := range keeping {
		c := registered(1, 2)
		for i := 29; i < len(c); i++ {
			c[i] = math.MaxUint32 - uint32(i)
		}
		got := ask(full, c, api.Oracle{}, k.question)
		if got.Code != 0 || !slices.Equal(got.Writes, writesOf(1000, 28, k.event)) {
			t.Fatalf("%+v: %+v", k.question, got)
		}
		if _, e := vend.Load(full, done(c, got.Writes)); e != api.OK {
			t.Fatalf("%+v: behind it: %v", k.question, e)
		}
	}
}

func TestMaxEvents(t *testing.T) {
	for _, k := range keeping {
		for n := 116; n <= 119; n++ {
			if got := ask(plain, manyEvents(2048, n), api.Oracle{}, k.question); got.Code != 0 || len(got.Writes) != 15 {
				t.Errorf("%+v behind %d events: %+v", k.question, n, got)
			}
		}
		refuses(t, plain, manyEvents(2048, 120), api.Oracle{}, k.question, api.ErrFull)
		refuses(t, plain, manyEvents(1680, 120), api.Oracle{}, k.question, api.ErrFull)
		refuses(t, plain, manyEvents(1666, 119), api.Oracle{}, k.question, api.ErrFull)
	}
	// What is asked only is answered.
	answers(t, plain, manyEvents(2048, 120), api.Oracle{}, question{call: "reprint", meter: 1, id: 118}, answer{Text: digitsOf(0, 118, 1, 119)})
}

// P19.3

func TestRegister(t *testing.T) {
	for _, there := range [][]int{{}, {1}, {2, 1}, {0, 49, 7}} {
		c := registered(there...)
		for meter := -60; meter < 120; meter++ {
			q := question{call: "register", meter: meter}
			switch {
			case meter < 0 || meter > 49:
				refuses(t, ten, c, api.Oracle{}, q, api.ErrRange)
			case slices.Contains(there, meter):
				refuses(t, ten, c, api.Oracle{}, q, api.ErrTwice)
			default:
				answers(t, ten, c, api.Oracle{}, q, answer{Writes: writesOf(1000, 14*len(there), api.Event{Kind: 1, Meter: meter})})
			}
		}
		for _, meter := range strange {
			refuses(t, ten, c, api.Oracle{}, question{call: "register", meter: meter}, api.ErrRange)
		}
	}
	// Ahead of what is kept.
	for _, c := range [][]uint32{layEvents(28, api.Event{Kind: 1, Meter: 1}, api.Event{Kind: 1, Meter: 2}), manyEvents(2048, 120)} {
		refuses(t, ten, c, api.Oracle{}, question{call: "register", meter: 50}, api.ErrRange)
		refuses(t, ten, c, api.Oracle{}, question{call: "register", meter: 1}, api.ErrTwice)
		refuses(t, ten, c, api.Oracle{}, question{call: "register", meter: 3}, api.ErrFull)
	}
}

// TestAllMeters: each one once.
func TestAllMeters(t *testing.T) {
	c := make([]uint32, 2048)
	for _, meter := range rand.New(rand.NewPCG(19, 1)).Perm(50) {
		q := question{call: "register", meter: meter}
		got := ask(ten, c, api.Oracle{}, q)
		if got.Code != 0 {
			t.Fatalf("%+v: %+v", q, got)
		}
		c = done(c, got.Writes)
		refuses(t, ten, c, api.Oracle{}, q, api.ErrTwice)
	}
	if b, e := vend.Load(ten, c); e != api.OK || len(b.Customers) != 50 {
		t.Errorf("%v, %v", b, e)
	}
}

// P19.4

// noMeters: numbers of meters of which no customer is there, on a disk where 1 and 2 are registered.
func noMeters() []int { return append([]int{0, 3, 49, 50, 1000}, strange...) }

func TestCharge(t *testing.T) {
	c := registered(1, 2)
	for _, d := range []api.Debt{{Owed: 1}, {Owed: 1000000000, Bp: 10000}, {Owed: 500, Bp: 250}} {
		for meter := 1; meter <= 2; meter++ {
			answers(t, ten, c, api.Oracle{}, question{call: "charge", meter: meter, debt: d}, answer{Writes: writesOf(1000, 28, api.Event{Kind: 5, Meter: meter, Debt: d})})
		}
		for _, meter := range noMeters() {
			refuses(t, ten, c, api.Oracle{}, question{call: "charge", meter: meter, debt: d}, api.ErrNoMeter)
			refuses(t, ten, c[:28], api.Oracle{}, question{call: "charge", meter: meter, debt: d}, api.ErrNoMeter)
		}
	}
	for _, d := range []api.Debt{{}, {Owed: -1}, {Owed: 1000000001}, {Owed: 1, Bp: -1}, {Owed: 1, Bp: 10001}, {Owed: math.MinInt, Bp: math.MaxInt}, {Owed: 1<<32 + 1}, {Owed: 1, Bp: 1 << 32}, {Owed: math.MaxInt}} {
		refuses(t, ten, c, api.Oracle{}, question{call: "charge", meter: 1, debt: d}, api.ErrRange)
		refuses(t, ten, c, api.Oracle{}, question{call: "charge", meter: 3, debt: d}, api.ErrNoMeter)
		// What Owe refuses comes ahead of what is kept.
		refuses(t, ten, c[:28], api.Oracle{}, question{call: "charge", meter: 1, debt: d}, api.ErrRange)
		refuses(t, ten, manyEvents(2048, 120), api.Oracle{}, question{call: "charge", meter: 1, debt: d}, api.ErrRange)
	}
}

// TestChargeTillFull: a customer has so many debts, and another one none of them.
func TestChargeTillFull(t *testing.T) {
	c := registered(1, 2)
	for i := range 8 {
		got := ask(ten, c, api.Oracle{}, question{call: "charge", meter: 1, debt: api.Debt{Owed: 10 + i, Bp: i}})
		c = done(c, got.Writes)
	}
	b, _ := vend.Load(ten, c)
	if got := b.Customers[0].Account.Debts; len(got) != 8 || got[7] != (api.Debt{Owed: 17, Bp: 7}) || len(b.Customers[1].Account.Debts) != 0 {
		t.Fatalf("%v", b)
	}
	refuses(t, ten, c, api.Oracle{}, question{call: "charge", meter: 1, debt: api.Debt{Owed: 1}}, api.ErrFull)
	refuses(t, ten, c, api.Oracle{}, question{call: "charge", meter: 1}, api.ErrRange)
	if got := ask(ten, c, api.Oracle{}, question{call: "charge", meter: 2, debt: api.Debt{Owed: 1}}); got.Code != 0 {
		t.Errorf("%+v", got)
	}
}

// P19.5

func TestSell(t *testing.T) {
	c := registered(1, 2)
	var o api.Oracle
	// By the terms full: debts, the fee and units; the tags under the key from then.
	c = done(c, ask(full, c, o, question{call: "charge", meter: 2, debt: api.Debt{Owed: 400, Bp: 250}}).Writes)
	bill := api.Bill{Id: 1, Tender: 1000, Debt: 300, Fee: 18, Price: 680, Change: 2, Units: 59}
	first := answer{
		Writes: writesOf(1000, 42, api.Event{Kind: 2, Meter: 2, Bill: bill, Tag: 65535}),
		Tags:   api.Oracle{Pairs: []api.Pair{{Meter: 2, Rev: 0, Body: 1<<21 + 59, Tag: 65535}}},
		Slip:   api.Receipt{Meter: 2, Bill: bill, Token: digitsOf(0, 1, 59, 65535)},
	}
	answers(t, full, c, o, question{call: "sell", meter: 2, tender: 1000, draw: 65535}, first)
	c, o = done(c, first.Writes), first.Tags
	// A month later the debt has grown, and no units are bought yet.
	bill = api.Bill{Id: 2, Tender: 700, Debt: 102, Fee: 13, Price: 580, Change: 5, Units: 54}
	second := answer{
		Writes: writesOf(1000, 56, api.Event{Kind: 2, Meter: 2, Month: 1, Bill: bill, Tag: 0}),
		Tags:   api.Oracle{Pairs: append(slices.Clone(o.Pairs), api.Pair{Meter: 2, Body: 2<<21 + 54})},
		Slip:   api.Receipt{Meter: 2, Bill: bill, Token: digitsOf(0, 2, 54, 0)},
	}
	answers(t, full, c, o, question{call: "sell", meter: 2, tender: 700, month: 1}, second)
	c, o = done(c, second.Writes), second.Tags
	refuses(t, full, c, o, question{call: "sell", meter: 2, tender: 700}, api.ErrEarly)
	// Another customer's numbers are their own.
	if got := ask(full, c, o, question{call: "sell", meter: 1, tender: 700, draw: 9}); got.Code != 0 || got.Slip.Bill.Id != 1 || len(got.Tags.Pairs) != 3 || got.Tags.Pairs[2].Meter != 1 {
		t.Errorf("%+v", got)
	}
}

// TestSellMost: what is handed over at most, and units at most.
func TestSellMost(t *testing.T) {
	cheap := api.Terms{Tariff: []api.Step{{Upto: 10000000, Price: 1}}}
	bill := api.Bill{Id: 1, Tender: 100000000, Price: 2097151, Change: 97902849, Units: 2097151}
	answers(t, cheap, registered(49), api.Oracle{}, question{call: "sell", meter: 49, tender: 100000000, month: 2399, draw: 5}, answer{
		Writes: writesOf(1000, 14, api.Event{Kind: 2, Meter: 49, Month: 2399, Bill: bill, Tag: 5}),
		Tags:   api.Oracle{Pairs: []api.Pair{{Meter: 49, Body: 1<<21 + 2097151, Tag: 5}}},
		Slip:   api.Receipt{Meter: 49, Bill: bill, Token: digitsOf(0, 1, 2097151, 5)},
	})
}

// TestTagStays: what was tagged already keeps its tag, whatever is drawn.
func TestTagStays(t *testing.T) {
	c := registered(1, 2)
	known := api.Oracle{Pairs: []api.Pair{
		{Meter: 1, Rev: 0, Body: 1<<21 + 10, Tag: 44},
		{Meter: 2, Rev: 1, Body: 1<<21 + 10, Tag: 45},
		{Meter: 2, Rev: 0, Body: 2<<21 + 10, Tag: 46},
		{Meter: 2, Rev: 0, Body: 1<<21 + 11, Tag: 47},
		{Meter: 2, Rev: 0, Body: 2<<41 + 1<<21 + 1, Tag: 48},
	}}
	for draw := range 3 {
		got := ask(ten, c, known, question{call: "sell", meter: 1, tender: 100, draw: draw})
		if got.Slip.Token != digitsOf(0, 1, 10, 44) || len(got.Tags.Pairs) != 5 || got.Writes[10].Word != 44 {
			t.Errorf("draw %d: %+v", draw, got)
		}
		got = ask(ten, c, known, question{call: "sell", meter: 2, tender: 100, draw: draw})
		if got.Slip.Token != digitsOf(0, 1, 10, draw) || len(got.Tags.Pairs) != 6 || got.Writes[10].Word != uint32(draw) {
			t.Errorf("draw %d: %+v", draw, got)
		}
		got = ask(ten, c, known, question{call: "rekey", meter: 2, draw: draw})
		if got.Slip.Token != digitsOf(2, 1, 1, 48) || len(got.Tags.Pairs) != 5 || got.Writes[10].Word != 48 {
			t.Errorf("draw %d: %+v", draw, got)
		}
	}
}

// selling: questions of the three calls that sell, answered where 1 is registered, by the terms full.
var selling = []question{{call: "sell", meter: 1, tender: 1000, month: 3}, {call: "grant", meter: 1, month: 3}, {call: "rekey", meter: 1}}

// pairs: so many, of other meters.
func pairs(n int) api.Oracle {
	var o api.Oracle
	for i := range n {
		o.Pairs = append(o.Pairs, api.Pair{Meter: 40, Body: i, Tag: i})
	}
	return o
}

// wrongOracles: that may not be.
var wrongOracles = []api.Oracle{pairs(501), {Pairs: []api.Pair{{Meter: 50}}}, {Pairs: []api.Pair{{Tag: 1}, {Tag: 2}}}, {Pairs: []api.Pair{{Tag: -1}}}}

func TestWhatIssueRefuses(t *testing.T) {
	for _, q := range selling {
		// Room for one event more, too few words for one, and too many events for one.
		roomy, tight := layEvents(28, api.Event{Kind: 1, Meter: 1}), layEvents(27, api.Event{Kind: 1, Meter: 1})
		for _, c := range [][]uint32{roomy, tight, manyEvents(2048, 120)} {
			for _, o := range wrongOracles {
				refuses(t, plain, c, o, q, api.ErrState)
			}
			for _, draw := range append([]int{65536, 65537, 1 << 17}, strange...) {
				q := q
				q.draw = draw
				refuses(t, plain, c, api.Oracle{}, q, api.ErrRange)
				refuses(t, plain, c, pairs(500), q, api.ErrRange)
				refuses(t, plain, c, wrongOracles[0], q, api.ErrState)
			}
			refuses(t, plain, c, pairs(500), q, api.ErrFull)
		}
		for _, draw := range []int{0, 1, 65534, 65535} {
			q := q
			q.draw = draw
			got := ask(full, roomy, pairs(499), q)
			if got.Code != 0 || len(got.Tags.Pairs) != 500 || got.Tags.Pairs[499].Tag != draw || got.Tags.Pairs[499].Meter != 1 {
				t.Errorf("%+v: %+v", q, got)
			}
			refuses(t, full, tight, pairs(499), q, api.ErrFull)
		}
		// A full oracle that knows the token already.
		got := ask(full, roomy, api.Oracle{}, q)
		o := pairs(499)
		o.Pairs = append(o.Pairs, got.Tags.Pairs...)
		if again := ask(full, roomy, o, q); again.Code != 0 || again.Slip != got.Slip || !slices.Equal(again.Tags.Pairs, o.Pairs) {
			t.Errorf("%+v: %+v", q, again)
		}
	}
}

// TestOrderOfSelling: no customer, then what the account refuses, then who tags, then what is kept.
func TestOrderOfSelling(t *testing.T) {
	tight := layEvents(14, api.Event{Kind: 1, Meter: 1})
	for _, q := range selling {
		for _, o := range []api.Oracle{{}, wrongOracles[0], pairs(500)} {
			for _, c := range [][]uint32{tight, registered(1), manyEvents(2048, 120)} {
				// By the terms ten, by which all of these disks were written.
				for _, meter := range noMeters() {
					refuses(t, ten, c, o, question{call: q.call, meter: meter, month: -1, draw: -1}, api.ErrNoMeter)
				}
				if q.call == "rekey" {
					continue
				}
				refuses(t, ten, c, o, question{call: q.call, meter: 1, month: -1, draw: -1}, api.ErrRange)
				refuses(t, ten, c, o, question{call: q.call, meter: 1, month: 2400, draw: -1}, api.ErrRange)
				want := api.ErrTender
				if q.call == "grant" {
					want = api.ErrNone
				}
				for _, tender := range []int{0, 9, -1, 100000001, math.MinInt, math.MaxInt} {
					refuses(t, ten, c, o, question{call: q.call, meter: 1, tender: tender, draw: -1}, want)
				}
			}
		}
	}
}

// P19.6

func TestGrant(t *testing.T) {
	c := registered(2, 1)
	refuses(t, ten, c, api.Oracle{}, question{call: "grant", meter: 1}, api.ErrNone)
	got := ask(full, c, api.Oracle{}, question{call: "grant", meter: 1, month: 2399, draw: 6})
	want := answer{
		Writes: writesOf(1000, 28, api.Event{Kind: 3, Meter: 1, Month: 2399, Bill: api.Bill{Id: 1, Units: 25}, Tag: 6}),
		Tags:   api.Oracle{Pairs: []api.Pair{{Meter: 1, Body: 1<<21 + 25, Tag: 6}}},
		Slip:   api.Receipt{Meter: 1, Bill: api.Bill{Id: 1, Units: 25}, Token: digitsOf(0, 1, 25, 6)},
	}
	if !same(got, want) {
		t.Fatalf("%+v, want %+v", got, want)
	}
	c = done(c, got.Writes)
	for _, o := range anyOracles {
		refuses(t, full, c, o, question{call: "grant", meter: 1, month: 2399, draw: -1}, api.ErrTwice)
		refuses(t, full, c, o, question{call: "grant", meter: 1, month: 2398, draw: -1}, api.ErrEarly)
		refuses(t, full, c, o, question{call: "grant", meter: 1, month: 2400, draw: -1}, api.ErrRange)
		refuses(t, full, c[:42], o, question{call: "grant", meter: 1, month: 2399, draw: -1}, api.ErrTwice)
	}
	if other := ask(full, c, got.Tags, question{call: "grant", meter: 2, month: 1}); other.Code != 0 || other.Slip.Bill.Id != 1 {
		t.Errorf("%+v", other)
	}
	most := full
	most.Allowance = 2097151
	if got := ask(most, registered(1), api.Oracle{}, question{call: "grant", meter: 1, draw: 3}); got.Slip.Token != digitsOf(0, 1, 2097151, 3) {
		t.Errorf("%+v", got)
	}
}

// TestGrantIsNotBought: units of an allowance do not count for the steps.
func TestGrantIsNotBought(t *testing.T) {
	c := registered(1)
	got := ask(full, c, api.Oracle{}, question{call: "grant", meter: 1})
	c = done(c, got.Writes)
	sold := ask(full, c, got.Tags, question{call: "sell", meter: 1, tender: 509})
	if sold.Slip.Bill != (api.Bill{Id: 2, Tender: 509, Fee: 10, Price: 490, Change: 9, Units: 49}) {
		t.Errorf("%+v", sold)
	}
}

// P19.7

// TestRekey: each key once, each tagged under the one ahead of it; and what is sold behind it under the new one.
func TestRekey(t *testing.T) {
	c, o := registered(1, 2), api.Oracle{}
	for rev := range 15 {
		id := 1 + 2*rev
		bill := api.Bill{Id: id}
		got := ask(ten, c, o, question{call: "rekey", meter: 2, draw: 100 + rev})
		want := answer{
			Writes: writesOf(1000, 28*(1+rev), api.Event{Kind: 4, Meter: 2, Month: 0, Bill: bill, Tag: 100 + rev}),
			Tags:   api.Oracle{Pairs: append(slices.Clone(o.Pairs), api.Pair{Meter: 2, Rev: rev, Body: 2<<41 + id<<21 + rev + 1, Tag: 100 + rev})},
			Slip:   api.Receipt{Meter: 2, Bill: bill, Token: digitsOf(2, id, rev+1, 100+rev)},
		}
		if !same(got, want) {
			t.Fatalf("key %d: %+v, want %+v", rev+1, got, want)
		}
		c, o = done(c, got.Writes), got.Tags
		// In a later month, so that a rekey comes when the account's month is not 0.
		sold := ask(ten, c, o, question{call: "sell", meter: 2, tender: 10, month: 5 + rev, draw: 7})
		c, o = done(c, sold.Writes), sold.Tags
		if last := o.Pairs[len(o.Pairs)-1]; sold.Code != 0 || last != (api.Pair{Meter: 2, Rev: rev + 1, Body: (id+1)<<21 + 1, Tag: 7}) {
			t.Fatalf("sold under the key %d: %+v", rev+1, sold)
		}
	}
	for _, tags := range append(slices.Clone(anyOracles), o) {
		refuses(t, ten, c, tags, question{call: "rekey", meter: 2, draw: -1}, api.ErrKey)
		refuses(t, ten, c[:448], tags, question{call: "rekey", meter: 2}, api.ErrKey)
	}
	if got := ask(ten, c, o, question{call: "rekey", meter: 1}); got.Code != 0 || got.Slip.Token != digitsOf(2, 1, 1, 0) {
		t.Errorf("another meter: %+v", got)
	}
	for _, meter := range noMeters() {
		refuses(t, ten, c, o, question{call: "rekey", meter: meter}, api.ErrNoMeter)
	}
}

// P19.8

func TestReprint(t *testing.T) {
	c, o := registered(1, 2), api.Oracle{}
	var slips []api.Receipt
	for _, q := range []question{
		{call: "sell", meter: 1, tender: 300, draw: 11}, {call: "grant", meter: 2, draw: 12}, {call: "rekey", meter: 1, draw: 13},
		{call: "charge", meter: 1, debt: api.Debt{Owed: 5}}, {call: "sell", meter: 1, tender: 400, month: 2, draw: 14},
		{call: "grant", meter: 1, month: 2, draw: 15}, {call: "rekey", meter: 2, draw: 16}, {call: "rekey", meter: 2, draw: 65535}, {call: "sell", meter: 2, tender: 77, draw: 0},
	} {
		got := ask(full, c, o, q)
		if got.Code != 0 {
			t.Fatalf("%+v: %+v", q, got)
		}
		c = done(c, got.Writes)
		if q.call != "charge" {
			o = got.Tags
			slips = append(slips, got.Slip)
		}
		for _, s := range slips {
			answers(t, full, c, api.Oracle{}, question{call: "reprint", meter: s.Meter, id: s.Bill.Id}, answer{Text: s.Token})
		}
	}
	for _, id := range append([]int{0, 5, 6, 1048575, 1048576}, strange...) {
		for meter := 1; meter <= 2; meter++ {
			refuses(t, full, c, api.Oracle{}, question{call: "reprint", meter: meter, id: id}, api.ErrNone)
		}
	}
	for _, meter := range noMeters() {
		for _, id := range []int{-1, 0, 1, 2, math.MaxInt} {
			refuses(t, full, c, api.Oracle{}, question{call: "reprint", meter: meter, id: id}, api.ErrNoMeter)
		}
	}
	// To whom nothing was sold.
	refuses(t, full, registered(1), api.Oracle{}, question{call: "reprint", meter: 1, id: 1}, api.ErrNone)
	refuses(t, full, registered(1), api.Oracle{}, question{call: "reprint", meter: 1, id: 0}, api.ErrNone)
}

// Drawn servers, held against the chapter's words.

// drawnTerms that are right.
func drawnTerms(r *rand.Rand) api.Terms {
	terms := full
	terms.Allowance, terms.DebtBp = r.IntN(2)*30, r.IntN(10001)
	terms.FeeFix, terms.FeeBp = r.IntN(20), r.IntN(300)
	return terms
}

// drawnQuestion: most of which are answered.
func drawnQuestion(r *rand.Rand, month int) question {
	q := question{call: calls[r.IntN(len(calls))], meter: r.IntN(6), tender: 1 + r.IntN(3000), month: month, draw: r.IntN(65536), id: r.IntN(9)}
	q.debt = api.Debt{Owed: 1 + r.IntN(900), Bp: r.IntN(300)}
	if r.IntN(3) == 0 {
		q.call = "sell"
	}
	if r.IntN(10) > 0 {
		return q
	}
	wrong := strange[r.IntN(len(strange))]
	switch r.IntN(8) {
	case 7:
		q.month -= r.IntN(5)
	case 0:
		q.meter = wrong
	case 1:
		q.tender = wrong
	case 2:
		q.month = wrong
	case 3:
		q.draw = wrong
	case 4:
		q.debt.Owed = wrong
	case 5:
		q.debt.Bp = wrong
	case 6:
		q.tender = r.IntN(20)
	}
	return q
}

// sellsTokens: is it one of the calls that do?
func sellsTokens(q question) bool { return q.call == "sell" || q.call == "grant" || q.call == "rekey" }

// TestDrawnServers: steps one behind the other, the power going as it likes.
func TestDrawnServers(t *testing.T) {
	r := rand.New(rand.NewPCG(19, 2))
	counts := map[api.Errno]int{}
	cuts := 0
	for range 120 {
		terms := drawnTerms(r)
		c := make([]uint32, 1+r.IntN(2048))
		o := api.Oracle{}
		if r.IntN(4) == 0 {
			o = pairs(480 + r.IntN(21))
		}
		month := r.IntN(2390)
		// Some have one customer, who gets one key after the other.
		one := r.IntN(4) == 0
		for range 150 {
			month += r.IntN(10) / 9
			q := drawnQuestion(r, month)
			if one && q.meter >= 0 && q.meter < 6 {
				q.meter = 5
			}
			if one && r.IntN(4) == 0 {
				q.call = "rekey"
			}
			got, want := ask(terms, c, o, q), slowly(terms, c, o, q)
			if !same(got, want) {
				t.Fatalf("%+v, with %v, %v and %v: %+v, want %+v", q, terms, c, o, got, want)
			}
			counts[api.Errno(got.Code)]++
			if got.Code != 0 {
				continue
			}
			if sellsTokens(q) {
				o = got.Tags
			}
			all := len(got.Writes)
			if r.IntN(6) == 0 && all > 0 {
				all = r.IntN(all)
				cuts++
			}
			c = done(c, got.Writes[:all])
		}
	}
	for _, e := range []api.Errno{api.OK, api.ErrRange, api.ErrFull, api.ErrNoMeter, api.ErrTender, api.ErrTwice, api.ErrNone, api.ErrKey, api.ErrEarly} {
		if counts[e] < 5 {
			t.Errorf("the drawn servers are too much alike: %v: %v", e, counts)
		}
	}
	if cuts < 100 {
		t.Errorf("the power went %d times", cuts)
	}
}

// TestDrawnWords: a word of the disk, or a number of the terms, goes wrong.
func TestDrawnWords(t *testing.T) {
	r := rand.New(rand.NewPCG(19, 3))
	counts := map[api.Errno]int{}
	for range 3000 {
		c := drawnDisk(r, full, 10+r.IntN(20))
		for range r.IntN(3) {
			c[r.IntN(len(c))] = []uint32{0, 1, 2, 13, 14, 64, 65, r.Uint32(), uint32(r.IntN(100))}[r.IntN(9)]
		}
		terms := full
		switch r.IntN(20) {
		case 0:
			terms.FeeBp = 10001
		case 1:
			terms.Tariff = nil
		case 2:
			terms.Allowance = 0
		}
		q := drawnQuestion(r, 2000+r.IntN(400))
		got, want := ask(terms, c, api.Oracle{}, q), slowly(terms, c, api.Oracle{}, q)
		if !same(got, want) {
			t.Fatalf("%+v, with %v and %v: %+v, want %+v", q, terms, c, got, want)
		}
		counts[api.Errno(got.Code)]++
	}
	for _, e := range []api.Errno{api.OK, api.ErrSize, api.ErrRange, api.ErrForm, api.ErrState, api.ErrCheck, api.ErrNoMeter, api.ErrTwice} {
		if counts[e] < 5 {
			t.Errorf("the drawn words are too much alike: %v: %v", e, counts)
		}
	}
}

// drawnDisk: one on which so many steps were asked for, most of which were done.
func drawnDisk(r *rand.Rand, terms api.Terms, steps int) []uint32 {
	c, o, month := make([]uint32, 600), api.Oracle{}, r.IntN(1000)
	for i := range steps {
		month += r.IntN(4) / 3
		q := drawnQuestion(r, month)
		if i < 4 {
			q = question{call: "register", meter: r.IntN(6)}
		}
		got := ask(terms, c, o, q)
		if sellsTokens(q) && got.Code == 0 {
			o = got.Tags
		}
		c = done(c, got.Writes)
	}
	return c
}

// What comes of it.

// TestOldOrNew: behind any number of a step's writes the book is the one from before or the one
// behind it; and the step, asked for again with whatever draw, has the same digits.
func TestOldOrNew(t *testing.T) {
	r := rand.New(rand.NewPCG(19, 4))
	steps := 0
	for range 20 {
		terms := drawnTerms(r)
		terms.Allowance = 30
		c, o, month := make([]uint32, 500+r.IntN(400)), api.Oracle{}, r.IntN(100)
		for range 60 {
			month += r.IntN(4) / 3
			q := drawnQuestion(r, month)
			got := ask(terms, c, o, q)
			if len(got.Writes) == 0 {
				continue
			}
			steps++
			if sellsTokens(q) {
				o = got.Tags
			}
			was := ask(terms, c, o, question{call: "load"})
			is := ask(terms, done(c, got.Writes), o, question{call: "load"})
			if was.Code != 0 || is.Code != 0 || same(was, is) {
				t.Fatalf("%+v: the book was %+v, and is %+v", q, was, is)
			}
			for k := range got.Writes {
				cut := done(c, got.Writes[:k])
				answers(t, terms, cut, o, question{call: "load"}, was)
				again := q
				again.draw = r.IntN(65536)
				answers(t, terms, cut, o, again, ask(terms, c, o, q))
				if told := ask(terms, cut, o, again); told.Slip != got.Slip {
					t.Fatalf("%+v: %+v behind a cut, else %+v", q, told, got)
				}
			}
			c = done(c, got.Writes)
		}
	}
	if steps < 300 {
		t.Errorf("%d steps", steps)
	}
}

// TestSlipsAreRight: what is sold is right on paper; number by number; and good at its meter, and at no other one.
func TestSlipsAreRight(t *testing.T) {
	r := rand.New(rand.NewPCG(19, 5))
	for range 20 {
		c, o := registered(0, 1, 2), api.Oracle{}
		next := [3]int{1, 1, 1}
		pockets := [3][]uint32{}
		for me := range pockets {
			pockets[me], _ = pocket.Make(me)
		}
		for range 50 {
			q := question{call: []string{"sell", "grant", "rekey"}[r.IntN(3)], meter: r.IntN(3), tender: 500 + r.IntN(500), month: r.IntN(5), draw: r.IntN(65536)}
			got := ask(full, c, o, q)
			if got.Code != 0 {
				continue
			}
			if e := receipt.Check(got.Slip); e != api.OK || got.Slip.Bill.Id != next[q.meter] {
				t.Fatalf("%+v: %+v is not right: %v", q, got.Slip, e)
			}
			next[q.meter]++
			c, o = done(c, got.Writes), got.Tags
			for me := range pockets {
				l, added, e := pocket.Keyed(pockets[me], o, got.Slip.Token)
				switch {
				case me != q.meter && e == api.OK:
					t.Fatalf("%+v is taken by the meter %d", got.Slip, me)
				case me == q.meter && (e != api.OK || added != got.Slip.Bill.Units):
					t.Fatalf("%+v adds %d: %v", got.Slip, added, e)
				case me == q.meter:
					pockets[me], _ = cell.Apply(pockets[me], l, len(l))
				}
			}
		}
	}
}

// Lists that are handed in stay; what comes out is new.

// TestListsStay: the spare room too.
func TestListsStay(t *testing.T) {
	r := rand.New(rand.NewPCG(19, 6))
	for range 200 {
		words := append(drawnDisk(r, full, 25), 7, 8, 9)
		tags := append(pairs(1+r.IntN(5)).Pairs, api.Pair{Meter: 77}, api.Pair{Meter: 78})
		steps := append(slices.Clone(full.Tariff), api.Step{Upto: 7, Price: 8}, api.Step{Upto: 9})
		terms := full
		terms.Tariff = steps[:2]
		was := fmt.Sprint(words, tags, steps)
		for _, call := range calls {
			q := drawnQuestion(r, 2000)
			q.call = call
			ask(terms, words[:len(words)-3], api.Oracle{Pairs: tags[:len(tags)-2]}, q)
			ask(terms, words, api.Oracle{Pairs: tags}, q)
			if now := fmt.Sprint(words, tags, steps); now != was {
				t.Fatalf("%+v made %s of %s", q, now, was)
			}
		}
	}
}

// spoil a list with its spare room.
func spoil[T any](l []T, with T) {
	l = l[:cap(l)]
	for i := range l {
		l[i] = with
	}
}

// spoilAnswer: all lists of it.
func spoilAnswer(a answer) {
	for _, c := range a.Book.Customers {
		spoil(c.Sold, api.Sold{Id: -1})
		spoil(c.Account.Debts, api.Debt{Owed: -1})
	}
	spoil(a.Book.Customers, api.Customer{})
	spoil(a.Writes, api.Write{At: -1})
	spoil(a.Tags.Pairs, api.Pair{Meter: -1})
}

// TestNewMemory: what is done to an answer changes nothing that was handed in, and no other answer.
func TestNewMemory(t *testing.T) {
	r := rand.New(rand.NewPCG(19, 7))
	answered := map[string]int{}
	for range 200 {
		c, o := drawnDisk(r, full, 25), pairs(r.IntN(5))
		o.Pairs = slices.Grow(o.Pairs, 10)
		for _, call := range calls {
			q := drawnQuestion(r, 2000)
			q.call = call
			first := ask(full, c, o, q)
			want := fmt.Sprint(first)
			handed := fmt.Sprint(c, o.Pairs[:cap(o.Pairs)])
			spoilAnswer(ask(full, c, o, q))
			if fmt.Sprint(first) != want || fmt.Sprint(ask(full, c, o, q)) != want || fmt.Sprint(c, o.Pairs[:cap(o.Pairs)]) != handed {
				t.Fatalf("%+v shares memory", q)
			}
			if first.Code == 0 {
				answered[call]++
			}
			// Lists of one book.
			for i, c := range first.Book.Customers {
				spoil(c.Sold, api.Sold{Id: -1})
				if rest := fmt.Sprint(c.Account.Debts, first.Book.Customers[i+1:]); strings.Contains(rest, "-1 0 0 0 0") {
					t.Fatalf("%+v: lists of a book share memory", q)
				}
			}
		}
	}
	for _, call := range calls {
		if answered[call] < 10 {
			t.Errorf("answered were %v", answered)
		}
	}
}

func TestManyAtOnce(t *testing.T) {
	r := rand.New(rand.NewPCG(19, 8))
	c, o := drawnDisk(r, full, 30), pairs(3)
	var questions []question
	var want []string
	for range 60 {
		q := drawnQuestion(r, 2000)
		questions = append(questions, q)
		want = append(want, fmt.Sprint(ask(full, c, o, q)))
	}
	var all sync.WaitGroup
	for range 16 {
		all.Go(func() {
			for i, q := range questions {
				if got := fmt.Sprint(ask(full, c, o, q)); got != want[i] {
					t.Errorf("%+v: %s, want %s", q, got, want[i])
				}
			}
		})
	}
	all.Wait()
}
