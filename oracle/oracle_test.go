package oracle_test

import (
	"fmt"
	"math"
	"math/rand/v2"
	"slices"
	"testing"

	"vendmeter/api"
	"vendmeter/oracle"
)

// field: one of a pair's, with the highest number that it may be.
type field struct {
	name string
	most int
	at   func(*api.Pair) *int
}

// fields of a pair, with the chapter's bounds in plain numbers.
var fields = []field{
	{"Meter", 49, func(p *api.Pair) *int { return &p.Meter }},
	{"Rev", 15, func(p *api.Pair) *int { return &p.Rev }},
	{"Body", 8796093022207, func(p *api.Pair) *int { return &p.Body }},
	{"Tag", 65535, func(p *api.Pair) *int { return &p.Tag }},
}

// most pairs that an oracle may have.
const most = 500

// good numbers of a field: the ends, and what is near them.
func (f field) good() []int { return []int{0, 1, 2, f.most / 2, f.most - 1, f.most} }

// wrong numbers of a field: beside the ends, at the ends of 64 bits, and those whose lower bits would be good.
func (f field) wrong() []int {
	return []int{
		-1, -2, -f.most, -f.most - 1, math.MinInt32, math.MinInt + 1, math.MinInt,
		f.most + 1, f.most + 2, 2*f.most + 1, 1 << 44, 1<<48 + 1, 1 << 62, math.MaxInt - 1, math.MaxInt,
	}
}

// pair of four numbers.
func pair(meter, rev, body, tag int) api.Pair {
	return api.Pair{Meter: meter, Rev: rev, Body: body, Tag: tag}
}

// by: the oracle with these pairs.
func by(l ...api.Pair) api.Oracle { return api.Oracle{Pairs: l} }

// many pairs that differ in their bodies alone.
func many(n int) []api.Pair {
	l := make([]api.Pair, n)
	for i := range l {
		l[i] = pair(3, 2, i, i%7)
	}
	return l
}

// issue a tag to what a pair says, with its Tag as the draw.
func issue(o api.Oracle, p api.Pair) (api.Oracle, int, api.Errno) {
	return oracle.Issue(o, p.Meter, p.Rev, p.Body, p.Tag)
}

// verify what a pair says.
func verify(o api.Oracle, p api.Pair) bool {
	return oracle.Verify(o, p.Meter, p.Rev, p.Body, p.Tag)
}

// issued: the oracle behind tagging that must be done, with this tag as the answer.
func issued(t *testing.T, o api.Oracle, p api.Pair, want int) api.Oracle {
	t.Helper()
	next, tag, e := issue(o, p)
	if tag != want || e != api.OK {
		t.Fatalf("Issue of %+v at %d pairs: the tag %d, %v; want %d, OK", p, len(o.Pairs), tag, e, want)
	}
	return next
}

// refused: what is answered with an error is empty.
func refused(t *testing.T, o api.Oracle, p api.Pair, want api.Errno) {
	t.Helper()
	next, tag, e := issue(o, p)
	if len(next.Pairs) != 0 || tag != 0 || e != want {
		t.Errorf("Issue of %+v at %d pairs: %d pairs, the tag %d, %v; want none, 0, %v", p, len(o.Pairs), len(next.Pairs), tag, e, want)
	}
}

// same: have two pairs the same Meter, Rev and Body?
func same(a, b api.Pair) bool {
	return a.Meter == b.Meter && a.Rev == b.Rev && a.Body == b.Body
}

// mayBe: by the chapter's words, each pair held against each.
func mayBe(o api.Oracle) bool {
	for i, p := range o.Pairs {
		for _, f := range fields {
			if n := *f.at(&p); n < 0 || n > f.most {
				return false
			}
		}
		for _, q := range o.Pairs[:i] {
			if same(p, q) {
				return false
			}
		}
	}
	return len(o.Pairs) <= most
}

// wrongOracles: those that may not be. Each has the pair 1 0 5 9, rightly given.
func wrongOracles() map[string]api.Oracle {
	p := pair(1, 0, 5, 9)
	l := map[string]api.Oracle{
		"one pair twice":          by(p, p),
		"one body, two tags":      by(p, pair(1, 0, 5, 8)),
		"two tags, apart":         by(pair(1, 0, 5, 8), pair(2, 0, 5, 9), p),
		"a pair too many":         by(append(many(most), p)...),
		"many pairs too many":     by(append(many(5000), p)...),
		"too many, and one wrong": by(append(many(most), p, pair(-1, 0, 0, 0))...),
	}
	for _, f := range fields {
		for _, n := range []int{-1, f.most + 1, math.MinInt, math.MaxInt} {
			wrong := pair(2, 1, 6, 7)
			*f.at(&wrong) = n
			l[fmt.Sprint("behind, ", f.name, " ", n)] = by(p, wrong)
			l[fmt.Sprint("ahead, ", f.name, " ", n)] = by(wrong, p)
		}
	}
	return l
}

// P9.1

func TestMayBe(t *testing.T) {
	for _, c := range []struct {
		what string
		o    api.Oracle
		want bool
	}{
		{"no list", api.Oracle{}, true},
		{"an empty list", api.Oracle{Pairs: []api.Pair{}}, true},
		{"noughts", by(pair(0, 0, 0, 0)), true},
		{"all at their ends", by(pair(49, 15, 8796093022207, 65535)), true},
		{"both ends", by(pair(0, 0, 0, 0), pair(49, 15, 8796093022207, 65535)), true},
		{"another meter", by(pair(1, 2, 3, 4), pair(2, 2, 3, 4)), true},
		{"another revision", by(pair(1, 2, 3, 4), pair(1, 1, 3, 4)), true},
		{"another body", by(pair(1, 2, 3, 4), pair(1, 2, 4, 4)), true},
		{"another tag alone", by(pair(1, 2, 3, 4), pair(1, 2, 3, 5)), false},
		{"one pair twice", by(pair(1, 2, 3, 4), pair(1, 2, 3, 4)), false},
		{"noughts twice", by(pair(0, 0, 0, 0), pair(0, 0, 0, 0)), false},
		{"the first and the last", by(pair(1, 2, 3, 4), pair(2, 2, 3, 4), pair(1, 2, 3, 9)), false},
		{"numbers that changed places", by(pair(1, 2, 3, 4), pair(2, 1, 3, 4), pair(1, 3, 2, 4), pair(3, 2, 1, 4), pair(2, 3, 1, 4)), true},
		{"sums that are the same", by(pair(1, 0, 5, 0), pair(0, 1, 5, 0), pair(0, 0, 6, 0)), true},
	} {
		if got := oracle.May(c.o); got != c.want {
			t.Errorf("%s: %v", c.what, got)
		}
	}
}

func TestMayBeFieldByField(t *testing.T) {
	for _, f := range fields {
		for _, n := range append(f.good(), f.wrong()...) {
			for at := range 3 {
				o := by(pair(2, 0, 0, 0), pair(2, 0, 1, 0), pair(2, 0, 3, 0))
				*f.at(&o.Pairs[at]) = n
				if got, want := oracle.May(o), mayBe(o); got != want {
					t.Errorf("%s %d at the place %d: %v", f.name, n, at, got)
				}
			}
		}
	}
}

func TestMayBeSize(t *testing.T) {
	for n, want := range map[int]bool{0: true, 1: true, 499: true, 500: true, 501: false, 502: false, 1000: false, 100000: false} {
		if got := oracle.May(by(many(n)...)); got != want {
			t.Errorf("%d pairs: %v", n, got)
		}
	}
}

// TestMayBeFull: of as many pairs as there may be, one that is there already, at whatever place.
func TestMayBeFull(t *testing.T) {
	for _, at := range []int{0, 1, 250, 498} {
		l := many(most)
		l[499].Body = at
		if oracle.May(by(l...)) {
			t.Errorf("the last one is the one at the place %d, too", at)
		}
	}
}

func TestMayNotBe(t *testing.T) {
	for what, o := range wrongOracles() {
		if mayBe(o) {
			t.Fatalf("%s: this test is wrong", what)
		}
		if oracle.May(o) {
			t.Errorf("%s: may be", what)
		}
	}
}

// drawn pairs: few numbers, so that some are the same, and now and then one that is wrong.
func drawn(r *rand.Rand) api.Pair {
	p := pair(r.IntN(3), r.IntN(3), r.IntN(4), r.IntN(3))
	if r.IntN(20) == 0 {
		f := fields[r.IntN(len(fields))]
		*f.at(&p) = f.wrong()[r.IntN(len(f.wrong()))]
	}
	return p
}

func TestMayBeDrawn(t *testing.T) {
	r := rand.New(rand.NewPCG(9, 1))
	count := map[bool]int{}
	for range 20000 {
		l := make([]api.Pair, r.IntN(12))
		for i := range l {
			l[i] = drawn(r)
		}
		want := mayBe(by(l...))
		count[want]++
		if got := oracle.May(by(l...)); got != want {
			t.Fatalf("%+v: %v", l, got)
		}
	}
	if count[true] < 1000 || count[false] < 1000 {
		t.Errorf("drawn too much alike: %v", count)
	}
}

// P9.2

func TestIssueExamples(t *testing.T) {
	o := issued(t, api.Oracle{}, pair(1, 0, 5, 9), 9)
	if want := []api.Pair{pair(1, 0, 5, 9)}; !slices.Equal(o.Pairs, want) {
		t.Errorf("%+v, want %+v", o.Pairs, want)
	}
	o = issued(t, o, pair(1, 0, 5, 8), 9)
	if want := []api.Pair{pair(1, 0, 5, 9)}; !slices.Equal(o.Pairs, want) {
		t.Errorf("once more: %+v, want %+v", o.Pairs, want)
	}
	if oracle.Verify(o, 2, 0, 5, 9) || !oracle.Verify(o, 1, 0, 5, 9) {
		t.Error("it verifies for the meter 2, or not for the meter 1")
	}
}

// TestIssueBehind: pairs come behind the others, in the order in which they were given, not sorted.
func TestIssueBehind(t *testing.T) {
	l := []api.Pair{
		pair(9, 3, 7, 5), pair(1, 3, 7, 5), pair(1, 0, 7, 5), pair(1, 0, 2, 5),
		pair(49, 15, 8796093022207, 65535), pair(0, 0, 0, 0), pair(1, 0, 7, 5), pair(0, 0, 0, 1), pair(20, 0, 0, 0),
	}
	want := slices.Concat(l[:6], l[8:])
	o := api.Oracle{Pairs: []api.Pair{}}
	for i, p := range l {
		tag := p.Tag
		if i == 7 {
			tag = 0
		}
		o = issued(t, o, p, tag)
	}
	if !slices.Equal(o.Pairs, want) {
		t.Errorf("%+v, want %+v", o.Pairs, want)
	}
}

// TestIssueOneField: what differs in one field is tagged of its own.
func TestIssueOneField(t *testing.T) {
	had := pair(1, 2, 3, 4)
	for _, p := range []api.Pair{
		pair(0, 2, 3, 9), pair(2, 2, 3, 9), pair(1, 1, 3, 9), pair(1, 3, 3, 9), pair(1, 2, 2, 9), pair(1, 2, 4, 9),
		pair(2, 1, 3, 9), pair(3, 2, 1, 9), pair(1, 3, 2, 9), pair(1, 2, 3+1<<32, 9), pair(1, 2, 3+1<<16, 4),
	} {
		o := issued(t, by(had), p, p.Tag)
		if want := []api.Pair{had, p}; !slices.Equal(o.Pairs, want) {
			t.Errorf("%+v, want %+v", o.Pairs, want)
		}
	}
}

// TestIssueAgain: at whatever place a pair stands, its tag stays, whatever is drawn.
func TestIssueAgain(t *testing.T) {
	for _, n := range []int{1, 2, 7, 499, 500} {
		l := many(n)
		for _, at := range []int{0, n / 2, n - 1} {
			for _, draw := range fields[3].good() {
				p := l[at]
				p.Tag = draw
				o := issued(t, by(l...), p, at%7)
				if !slices.Equal(o.Pairs, l) {
					t.Fatalf("%d pairs, the one at the place %d again: %+v", n, at, o.Pairs)
				}
			}
		}
	}
}

// TestIssueNoughts: the tag 0 is a tag that was given.
func TestIssueNoughts(t *testing.T) {
	o := issued(t, api.Oracle{}, pair(0, 0, 0, 0), 0)
	o = issued(t, o, pair(0, 0, 0, 77), 0)
	if want := []api.Pair{pair(0, 0, 0, 0)}; !slices.Equal(o.Pairs, want) {
		t.Errorf("%+v, want %+v", o.Pairs, want)
	}
}

func TestIssueEdges(t *testing.T) {
	for _, f := range fields {
		for _, n := range f.good() {
			p := pair(7, 8, 9, 10)
			*f.at(&p) = n
			for _, had := range [][]api.Pair{nil, {pair(30, 8, 9, 4)}, many(499)} {
				o := issued(t, by(had...), p, p.Tag)
				if want := append(slices.Clone(had), p); !slices.Equal(o.Pairs, want) {
					t.Errorf("%s %d behind %d pairs: %+v", f.name, n, len(had), o.Pairs)
				}
			}
		}
	}
}

// TestIssueRange: also where the oracle is full, and, of a wrong draw, where the tag was given already.
func TestIssueRange(t *testing.T) {
	full := many(most)
	for _, f := range fields {
		for _, n := range f.wrong() {
			p := full[4]
			*f.at(&p) = n
			refused(t, api.Oracle{}, p, api.ErrRange)
			refused(t, by(full[:5]...), p, api.ErrRange)
			refused(t, by(full...), p, api.ErrRange)
		}
	}
}

func TestIssueFull(t *testing.T) {
	o := by(many(499)...)
	o = issued(t, o, pair(3, 2, 499, 1), 1)
	for _, p := range []api.Pair{
		pair(0, 0, 0, 0), pair(3, 2, 500, 1), pair(4, 2, 499, 1), pair(3, 3, 499, 1), pair(49, 15, 8796093022207, 65535),
	} {
		refused(t, o, p, api.ErrFull)
	}
	if again := issued(t, o, pair(3, 2, 499, 6), 1); !slices.Equal(again.Pairs, o.Pairs) {
		t.Errorf("a full one, the last pair again: %+v", again.Pairs)
	}
}

// TestIssueState: ahead of all else, also of a body that has its tag.
func TestIssueState(t *testing.T) {
	for what, o := range wrongOracles() {
		t.Run(what, func(t *testing.T) {
			refused(t, o, pair(1, 0, 5, 9), api.ErrState)
			refused(t, o, pair(7, 7, 7, 7), api.ErrState)
			for _, f := range fields {
				p := pair(1, 0, 5, 9)
				*f.at(&p) = f.most + 1
				refused(t, o, p, api.ErrState)
			}
		})
	}
}

// P9.3

func TestVerify(t *testing.T) {
	o := by(pair(1, 2, 3, 4), pair(2, 1, 3, 5), pair(1, 2, 4, 6), pair(0, 0, 0, 0), pair(49, 15, 8796093022207, 65535))
	for _, p := range o.Pairs {
		if !verify(o, p) {
			t.Errorf("%+v: no", p)
		}
		for _, f := range fields {
			for _, n := range append(f.good(), f.wrong()...) {
				q := p
				*f.at(&q) = n
				if got, want := verify(o, q), slices.Contains(o.Pairs, q); got != want {
					t.Errorf("%+v: %v", q, got)
				}
			}
		}
	}
}

// TestVerifyEvery: all small numbers, of an oracle that has some of them.
func TestVerifyEvery(t *testing.T) {
	r := rand.New(rand.NewPCG(9, 3))
	var o api.Oracle
	for range 40 {
		o, _, _ = issue(o, pair(r.IntN(4), r.IntN(4), r.IntN(4), r.IntN(4)))
	}
	for i := range 6 * 6 * 6 * 6 {
		p := pair(i%6-1, i/6%6-1, i/36%6-1, i/216-1)
		if got, want := verify(o, p), slices.Contains(o.Pairs, p); got != want {
			t.Errorf("%+v: %v", p, got)
		}
	}
}

func TestVerifyNothing(t *testing.T) {
	for _, o := range []api.Oracle{{}, {Pairs: []api.Pair{}}} {
		if verify(o, pair(0, 0, 0, 0)) || verify(o, pair(1, 0, 5, 9)) {
			t.Error("an oracle that tagged nothing verifies")
		}
	}
}

// TestVerifyState: an oracle that may not be verifies nothing, not even what it has.
func TestVerifyState(t *testing.T) {
	for what, o := range wrongOracles() {
		for _, p := range append(slices.Clone(o.Pairs), pair(0, 0, 0, 0)) {
			if verify(o, p) {
				t.Fatalf("%s: it verifies %+v", what, p)
			}
		}
	}
}

func TestVerifyFull(t *testing.T) {
	l := many(most)
	for at := 0; at < most; at += 71 {
		p := l[at]
		if !verify(by(l...), p) {
			t.Errorf("%+v: no", p)
		}
		p.Tag++
		if verify(by(l...), p) {
			t.Errorf("%+v: yes", p)
		}
	}
}

// What comes of it

// TestForEver: nothing verifies that was not issued; what was issued verifies for ever. Rows of drawn calls, refused
// ones among them, are held against a list of what was given, in the order in which it was.
func TestForEver(t *testing.T) {
	r := rand.New(rand.NewPCG(9, 4))
	for range 60 {
		var o api.Oracle
		var given []api.Pair
		for range 60 {
			p := drawn(r)
			next, tag, e := issue(o, p)
			at := slices.IndexFunc(given, func(q api.Pair) bool { return same(p, q) })
			switch {
			case !mayBe(by(p)):
				if e != api.ErrRange || tag != 0 || len(next.Pairs) != 0 {
					t.Fatalf("%+v: %+v, %d, %v", p, next, tag, e)
				}
				continue
			case at < 0:
				given = append(given, p)
				at = len(given) - 1
			}
			if o = next; tag != given[at].Tag || e != api.OK || !slices.Equal(o.Pairs, given) {
				t.Fatalf("%+v: %d, %v, %+v; want %+v", p, tag, e, o.Pairs, given)
			}
			q := drawn(r)
			if got, want := verify(o, q), slices.Contains(given, q); got != want {
				t.Fatalf("%+v: %v, of %+v", q, got, given)
			}
		}
		for _, p := range given {
			if !verify(o, p) {
				t.Fatalf("%+v does not verify any more", p)
			}
		}
	}
}

// TestFill: from nothing on to as many pairs as there may be.
func TestFill(t *testing.T) {
	r := rand.New(rand.NewPCG(9, 5))
	var o api.Oracle
	for i := range most {
		p := pair(r.IntN(50), r.IntN(16), i*17592186044, r.IntN(65536))
		if o = issued(t, o, p, p.Tag); len(o.Pairs) != i+1 || !oracle.May(o) || !verify(o, p) {
			t.Fatalf("%d pairs behind %d calls; may be: %v; verifies: %v", len(o.Pairs), i+1, oracle.May(o), verify(o, p))
		}
	}
	refused(t, o, pair(0, 0, 1, 0), api.ErrFull)
	for _, p := range o.Pairs {
		if !verify(o, p) {
			t.Fatalf("%+v does not verify", p)
		}
	}
}

// What holds everywhere: lists that are handed in stay as they are, answers are new memory.

// smear over a list and its spare room.
func smear(l []api.Pair) {
	l = l[:cap(l)]
	for i := range l {
		l[i] = pair(48, 14, 99, 99)
	}
}

// calls: one that adds a pair, one that finds it, and one of each sort that is refused.
var calls = []api.Pair{pair(2, 0, 5, 9), pair(1, 0, 5, 8), pair(50, 0, 5, 9), pair(-1, 0, 5, 9)}

func TestListsStay(t *testing.T) {
	for n := range 4 {
		room := []api.Pair{pair(1, 0, 5, 9), pair(1, 0, 6, 9), pair(1, 0, 7, 9), pair(7, 7, 7, 7), pair(6, 6, 6, 6), pair(5, 5, 5, 5)}
		was := slices.Clone(room)
		o := by(room[:n]...)
		for _, p := range calls {
			next, _, _ := issue(o, p)
			verify(o, p)
			oracle.May(o)
			smear(next.Pairs)
		}
		if !slices.Equal(room, was) {
			t.Errorf("%d pairs: the list and its spare room: %+v; they were %+v", n, room, was)
		}
	}
}

// TestAnswersApart: a change of one answer, or of what was handed in, is not seen in another.
func TestAnswersApart(t *testing.T) {
	for _, p := range calls[:2] {
		had := []api.Pair{pair(1, 0, 5, 9), pair(1, 0, 6, 9)}
		one, _, _ := issue(by(had...), p)
		two, _, _ := issue(by(had...), p)
		want := slices.Clone(two.Pairs)
		smear(one.Pairs)
		smear(had)
		if !slices.Equal(two.Pairs, want) {
			t.Errorf("%+v: an answer changed: %+v; it was %+v", p, two.Pairs, want)
		}
	}
}

// TestBranches: two oracles that come of one go their own ways.
func TestBranches(t *testing.T) {
	o := issued(t, by(many(5)...), pair(1, 0, 5, 9), 9)
	one, two := issued(t, o, pair(1, 0, 6, 1), 1), issued(t, o, pair(1, 0, 6, 2), 2)
	if !verify(one, pair(1, 0, 6, 1)) || verify(one, pair(1, 0, 6, 2)) || !verify(two, pair(1, 0, 6, 2)) || verify(two, pair(1, 0, 6, 1)) {
		t.Errorf("what one was told, the other knows: %+v %+v", one, two)
	}
	if len(o.Pairs) != 6 || verify(o, pair(1, 0, 6, 1)) || verify(o, pair(1, 0, 6, 2)) {
		t.Errorf("the one that they come of changed: %+v", o)
	}
}
