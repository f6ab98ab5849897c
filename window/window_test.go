package window_test

import (
	"math"
	"math/rand/v2"
	"slices"
	"testing"

	"vendmeter/api"
	"vendmeter/window"
)

// wrongIds: numbers that no token has.
var wrongIds = []int{
	0, -1, -2, -63, -64, -65, -api.MaxId, math.MinInt32, math.MinInt + 1, math.MinInt,
	api.MaxId + 1, api.MaxId + 2, api.MaxId + 63, api.MaxId + 64, api.MaxId + 65, 2 * api.MaxId,
	math.MaxInt32, 1 << 32, 1<<32 + 1, 1<<62 + 1, math.MaxInt - 1, math.MaxInt,
}

// highs: highest numbers, from the lowest one that may be to the last.
var highs = []int{
	1, 2, 3, 31, 32, 33, 62, 63, 64, 65, 66, 127, 128, 129, 1000, 65535, 65536,
	api.MaxId - 128, api.MaxId - 65, api.MaxId - 64, api.MaxId - 63, api.MaxId - 1, api.MaxId,
}

// all: the bits of a window that took every number up to high.
func all(high int) uint64 {
	bits := uint64(0)
	for i := 0; i < 64 && high-i >= 1; i++ {
		bits |= 1 << i
	}
	return bits
}

// some bits, drawn, of a window with this highest number.
func some(r *rand.Rand, high int) uint64 { return r.Uint64()&all(high) | 1 }

// told: the numbers that the bits tell, by the chapter's words.
func told(w api.Window) []int {
	var l []int
	for i := range 64 {
		if w.Bits&(1<<i) != 0 {
			l = append(l, w.High-i)
		}
	}
	slices.Reverse(l)
	return l
}

// verdict: what the chapter has for a number, once the window may be.
func verdict(w api.Window, id int) api.Errno {
	if id < 1 || id > 1048575 {
		return api.ErrRange
	}
	if id <= w.High-64 {
		return api.ErrOld
	}
	if slices.Contains(told(w), id) {
		return api.ErrUsed
	}
	return api.OK
}

// around: numbers at each edge that a highest number has, wrong ones among them.
func around(high int) []int {
	l := slices.Clone(wrongIds)
	for id := high - 130; id <= high+130; id++ {
		l = append(l, id)
	}
	return append(l, 1, 2, 63, 64, 65, 66, api.MaxId-1, api.MaxId)
}

// mustTake a number that may be taken.
func mustTake(t *testing.T, w api.Window, id int) api.Window {
	t.Helper()
	next, e := window.Take(w, id)
	if e != api.OK {
		t.Fatalf("Take(%+v, %d): %v", w, id, e)
	}
	return next
}

// mustUsed: the numbers of a window that may be.
func mustUsed(t *testing.T, w api.Window) []int {
	t.Helper()
	l, e := window.Used(w)
	if e != api.OK {
		t.Fatalf("Used(%+v): %v", w, e)
	}
	return l
}

// refused: does each call answer this for a window?
func refused(t *testing.T, w api.Window, id int, want api.Errno) {
	t.Helper()
	if e := window.Judge(w, id); e != want {
		t.Errorf("Judge(%+v, %d): %v, want %v", w, id, e, want)
	}
	if next, e := window.Take(w, id); e != want || next != (api.Window{}) {
		t.Errorf("Take(%+v, %d): %+v, %v, want nothing and %v", w, id, next, e, want)
	}
}

// stateless: does each call say that this may be no window?
func stateless(t *testing.T, w api.Window) {
	t.Helper()
	ids := append(slices.Clone(wrongIds), 1, 2, 3, 64, 65, 66, api.MaxId-1, api.MaxId)
	if w.High > math.MinInt+64 && w.High < math.MaxInt {
		ids = append(ids, w.High-64, w.High-63, w.High-1, w.High, w.High+1)
	}
	for _, id := range ids {
		refused(t, w, id, api.ErrState)
	}
	if l, e := window.Used(w); e != api.ErrState || len(l) != 0 {
		t.Errorf("Used(%+v): %v, %v, want none and ErrState", w, l, e)
	}
}

// P8.1

// TestBitsStandForNumbers: each bit alone, beside the lowest one.
func TestBitsStandForNumbers(t *testing.T) {
	for _, high := range highs {
		for i := 1; i < min(64, high); i++ {
			w := api.Window{High: high, Bits: 1<<i | 1}
			if l := mustUsed(t, w); !slices.Equal(l, []int{high - i, high}) {
				t.Errorf("Used(%+v): %v, want %d and %d", w, l, high-i, high)
			}
			if e := window.Judge(w, high-i); e != api.ErrUsed {
				t.Errorf("Judge(%+v, %d): %v, want ErrUsed", w, high-i, e)
			}
		}
	}
}

func TestWindowsThatMayBe(t *testing.T) {
	ok := []api.Window{{}, {High: 1, Bits: 1}, {High: 2, Bits: 1}, {High: 2, Bits: 3}, {High: 3, Bits: 7}}
	for _, high := range highs {
		ok = append(ok, api.Window{High: high, Bits: 1}, api.Window{High: high, Bits: all(high)})
	}
	for _, w := range ok {
		if e := window.Judge(w, 1); e == api.ErrState {
			t.Errorf("Judge(%+v, 1): %v", w, e)
		}
		if _, e := window.Take(w, 1); e == api.ErrState {
			t.Errorf("Take(%+v, 1): %v", w, e)
		}
		mustUsed(t, w)
	}
}

// TestNothingTakenYet: with the highest number 0 no bit at all may be 1.
func TestNothingTakenYet(t *testing.T) {
	for i := range 64 {
		stateless(t, api.Window{Bits: 1 << i})
		stateless(t, api.Window{Bits: 1<<i | 1})
		stateless(t, api.Window{Bits: math.MaxUint64 << i})
	}
}

func TestHighestNumberThatMayNotBe(t *testing.T) {
	for _, high := range wrongIds {
		if high == 0 {
			continue
		}
		for _, bits := range []uint64{0, 1, 2, 3, 1 << 63, 1<<63 | 1, math.MaxUint64} {
			stateless(t, api.Window{High: high, Bits: bits})
		}
	}
}

// TestHighestNumberNotTaken: the bit 0 is missing, whatever else is there.
func TestHighestNumberNotTaken(t *testing.T) {
	r := rand.New(rand.NewPCG(8, 1))
	for _, high := range highs {
		stateless(t, api.Window{High: high})
		stateless(t, api.Window{High: high, Bits: all(high) &^ 1})
		stateless(t, api.Window{High: high, Bits: some(r, high) &^ 1})
	}
}

// TestNumbersBelowOne: each bit that stands for one, at each highest number that has such bits.
func TestNumbersBelowOne(t *testing.T) {
	r := rand.New(rand.NewPCG(8, 2))
	for high := 1; high < 64; high++ {
		for i := high; i < 64; i++ {
			stateless(t, api.Window{High: high, Bits: 1 | 1<<i})
			stateless(t, api.Window{High: high, Bits: some(r, high) | 1<<i})
		}
		stateless(t, api.Window{High: high, Bits: math.MaxUint64})
	}
	for _, high := range []int{64, 65, 66, 128, 129, api.MaxId} {
		if l := mustUsed(t, api.Window{High: high, Bits: math.MaxUint64}); len(l) != 64 {
			t.Errorf("all bits with the highest number %d: %v", high, l)
		}
	}
}

// P8.2

func TestJudge(t *testing.T) {
	for _, c := range []struct {
		high int
		bits uint64
		id   int
		want api.Errno
	}{
		{0, 0, 1, api.OK},
		{0, 0, 64, api.OK},
		{0, 0, 65, api.OK},
		{0, 0, api.MaxId, api.OK},
		{0, 0, 0, api.ErrRange},
		{0, 0, -64, api.ErrRange},
		{0, 0, api.MaxId + 1, api.ErrRange},
		{1, 1, 1, api.ErrUsed},
		{1, 1, 2, api.OK},
		{3, 5, 1, api.ErrUsed},
		{3, 5, 2, api.OK},
		{3, 5, 3, api.ErrUsed},
		{3, 5, 0, api.ErrRange},
		{3, 5, -61, api.ErrRange},
		{64, 1, 1, api.OK},
		{64, 1<<63 | 1, 1, api.ErrUsed},
		{65, 1, 1, api.ErrOld},
		{65, 1, 0, api.ErrRange},
		{65, 1, 2, api.OK},
		{65, 1<<63 | 1, 1, api.ErrOld},
		{65, 1<<63 | 1, 2, api.ErrUsed},
		{65, 1, 65, api.ErrUsed},
		{65, 1, 66, api.OK},
		{65, 1, 129, api.OK},
		{api.MaxId, 1, api.MaxId, api.ErrUsed},
		{api.MaxId, 1, api.MaxId + 1, api.ErrRange},
		{api.MaxId, 1, api.MaxId - 63, api.OK},
		{api.MaxId, 1, api.MaxId - 64, api.ErrOld},
		{api.MaxId, math.MaxUint64, api.MaxId - 63, api.ErrUsed},
		{api.MaxId, math.MaxUint64, 1, api.ErrOld},
	} {
		w := api.Window{High: c.high, Bits: c.bits}
		if e := window.Judge(w, c.id); e != c.want {
			t.Errorf("Judge(%+v, %d): %v, want %v", w, c.id, e, c.want)
		}
	}
}

// TestJudgeAround: all numbers near the highest one, with no bits, all bits and drawn bits.
func TestJudgeAround(t *testing.T) {
	r := rand.New(rand.NewPCG(8, 3))
	for _, high := range highs {
		for _, bits := range []uint64{1, all(high), some(r, high), some(r, high), some(r, high)} {
			w := api.Window{High: high, Bits: bits}
			for _, id := range around(high) {
				if e, want := window.Judge(w, id), verdict(w, id); e != want {
					t.Fatalf("Judge(%+v, %d): %v, want %v", w, id, e, want)
				}
			}
		}
	}
}

// TestFirstOnesJudged: every number there is, on the window of which nothing was taken.
func TestFirstOnesJudged(t *testing.T) {
	for id := -200; id <= api.MaxId+200; id++ {
		if e, want := window.Judge(api.Window{}, id), verdict(api.Window{}, id); e != want {
			t.Fatalf("Judge of %d on the empty window: %v, want %v", id, e, want)
		}
	}
}

// P8.3

func TestTake(t *testing.T) {
	for _, c := range []struct {
		high int
		bits uint64
		id   int
		want api.Window
	}{
		{0, 0, 1, api.Window{High: 1, Bits: 1}},
		{0, 0, 3, api.Window{High: 3, Bits: 1}},
		{3, 1, 1, api.Window{High: 3, Bits: 5}},
		{3, 5, 2, api.Window{High: 3, Bits: 7}},
		{3, 5, 4, api.Window{High: 4, Bits: 11}},
		{0, 0, api.MaxId, api.Window{High: api.MaxId, Bits: 1}},
		{1, 1, 64, api.Window{High: 64, Bits: 1<<63 | 1}},
		{1, 1, 65, api.Window{High: 65, Bits: 1}},
		{1, 1, 66, api.Window{High: 66, Bits: 1}},
		{1, 1, 129, api.Window{High: 129, Bits: 1}},
		{1, 1, api.MaxId, api.Window{High: api.MaxId, Bits: 1}},
		{64, 1, 1, api.Window{High: 64, Bits: 1<<63 | 1}},
		{65, 1, 2, api.Window{High: 65, Bits: 1<<63 | 1}},
		{64, math.MaxUint64, 65, api.Window{High: 65, Bits: math.MaxUint64}},
		{64, math.MaxUint64, 66, api.Window{High: 66, Bits: math.MaxUint64 - 2}},
		{64, math.MaxUint64, 127, api.Window{High: 127, Bits: 1<<63 | 1}},
		{64, math.MaxUint64, 128, api.Window{High: 128, Bits: 1}},
		{api.MaxId, 1, api.MaxId - 63, api.Window{High: api.MaxId, Bits: 1<<63 | 1}},
		{api.MaxId - 1, 1, api.MaxId, api.Window{High: api.MaxId, Bits: 3}},
	} {
		w := api.Window{High: c.high, Bits: c.bits}
		if next, e := window.Take(w, c.id); e != api.OK || next != c.want {
			t.Errorf("Take(%+v, %d): %+v, %v, want %+v", w, c.id, next, e, c.want)
		}
	}
}

// behind taking a number that may be taken: bit by bit, from the numbers that were told ahead.
func behind(w api.Window, id int) api.Window {
	next := api.Window{High: max(w.High, id)}
	for _, n := range append(told(w), id) {
		if i := next.High - n; i < 64 {
			next.Bits |= 1 << i
		}
	}
	return next
}

// TestTakeAround: all numbers near the highest one; what is refused is refused as by Judge.
func TestTakeAround(t *testing.T) {
	r := rand.New(rand.NewPCG(8, 4))
	for _, high := range highs {
		for _, bits := range []uint64{1, all(high), some(r, high), some(r, high), some(r, high)} {
			w := api.Window{High: high, Bits: bits}
			for _, id := range around(high) {
				want, wantE := api.Window{}, verdict(w, id)
				if wantE == api.OK {
					want = behind(w, id)
				}
				if next, e := window.Take(w, id); e != wantE || next != want {
					t.Fatalf("Take(%+v, %d): %+v, %v, want %+v, %v", w, id, next, e, want, wantE)
				}
			}
		}
	}
}

// TestTakeRefuses: one of each refusal, and nothing beside it.
func TestTakeRefuses(t *testing.T) {
	for _, w := range []api.Window{{}, {High: 3, Bits: 5}, {High: 65, Bits: 3}, {High: api.MaxId, Bits: math.MaxUint64}} {
		for _, id := range wrongIds {
			refused(t, w, id, api.ErrRange)
		}
	}
	refused(t, api.Window{High: 65, Bits: 3}, 1, api.ErrOld)
	refused(t, api.Window{High: 65, Bits: 3}, 64, api.ErrUsed)
	refused(t, api.Window{High: 65, Bits: 3}, 65, api.ErrUsed)
}

// P8.4

func TestUsed(t *testing.T) {
	for _, c := range []struct {
		high int
		bits uint64
		want []int
	}{
		{0, 0, nil},
		{1, 1, []int{1}},
		{3, 5, []int{1, 3}},
		{3, 7, []int{1, 2, 3}},
		{64, 1<<63 | 1, []int{1, 64}},
		{65, 1<<63 | 1, []int{2, 65}},
		{70, 1<<63 | 1<<32 | 1<<31 | 3, []int{7, 38, 39, 69, 70}},
		{api.MaxId, 1<<63 | 1, []int{api.MaxId - 63, api.MaxId}},
	} {
		w := api.Window{High: c.high, Bits: c.bits}
		if l := mustUsed(t, w); !slices.Equal(l, c.want) {
			t.Errorf("Used(%+v): %v, want %v", w, l, c.want)
		}
	}
}

func TestUsedDrawn(t *testing.T) {
	r := rand.New(rand.NewPCG(8, 5))
	for range 3000 {
		high := 1 + r.IntN(api.MaxId)
		if r.IntN(2) == 0 {
			high = 1 + r.IntN(140)
		}
		w := api.Window{High: high, Bits: some(r, high)}
		if l, want := mustUsed(t, w), told(w); !slices.Equal(l, want) {
			t.Fatalf("Used(%+v): %v, want %v", w, l, want)
		}
	}
}

// What comes of it

// play takes numbers one behind the other, and holds each answer against all that was ever taken.
func play(t *testing.T, draw func(high int) int, steps int) {
	t.Helper()
	var w api.Window
	was := map[int]bool{}
	for range steps {
		id := draw(w.High)
		next, e := window.Take(w, id)
		switch {
		case id < 1 || id > api.MaxId:
			if e != api.ErrRange {
				t.Fatalf("Take(%+v, %d): %v, want ErrRange", w, id, e)
			}
		case id <= w.High-64:
			if e != api.ErrOld {
				t.Fatalf("Take(%+v, %d): %v, want ErrOld", w, id, e)
			}
		case was[id]:
			if e != api.ErrUsed {
				t.Fatalf("%d was taken: Take(%+v): %v, want ErrUsed", id, w, e)
			}
		case e != api.OK || next.High != max(w.High, id):
			t.Fatalf("%d was not taken: Take(%+v): %+v, %v", id, w, next, e)
		}
		if e != api.OK {
			continue
		}
		was[id], w = true, next
		var want []int
		for n := w.High - 63; n <= w.High; n++ {
			if was[n] {
				want = append(want, n)
			}
		}
		if l := mustUsed(t, w); !slices.Equal(l, want) {
			t.Fatalf("behind taking %d: Used(%+v): %v, want %v", id, w, l, want)
		}
	}
}

func TestNoneIsTakenTwice(t *testing.T) {
	r := rand.New(rand.NewPCG(8, 6))
	for _, wide := range []int{3, 10, 60, 64, 65, 70, 130, 1000} {
		play(t, func(high int) int { return high - wide + r.IntN(2*wide+1) }, 3000)
	}
	play(t, func(high int) int { return r.IntN(api.MaxId+20) - 10 }, 3000)
	play(t, func(high int) int { return api.MaxId + 5 - r.IntN(80) }, 3000)
	play(t, func(high int) int { return r.IntN(70) - 3 }, 3000)
}

// TestAnyOrder: WindowSize numbers in a row are all taken, in whatever order they come.
func TestAnyOrder(t *testing.T) {
	r := rand.New(rand.NewPCG(8, 7))
	for range 500 {
		first := 1 + r.IntN(api.MaxId-63)
		if r.IntN(3) == 0 {
			first = 1 + r.IntN(3)
		}
		var w api.Window
		for _, i := range r.Perm(64) {
			w = mustTake(t, w, first+i)
		}
		if want := (api.Window{High: first + 63, Bits: math.MaxUint64}); w != want {
			t.Fatalf("all from %d on: %+v, want %+v", first, w, want)
		}
		for i := range 64 {
			refused(t, w, first+i, api.ErrUsed)
		}
	}
}

// TestOneTooMany: of WindowSize + 1 numbers in a row the lowest is refused behind the highest.
func TestOneTooMany(t *testing.T) {
	for _, low := range []int{1, 2, 63, 64, 65, 1000, api.MaxId - 64} {
		w := mustTake(t, api.Window{}, low+64)
		refused(t, w, low, api.ErrOld)
		mustTake(t, w, low+1)
	}
}

// What holds everywhere: lists that are handed in stay as they are, answers are new memory.

func TestAnswersAreNew(t *testing.T) {
	w := api.Window{High: 3, Bits: 5}
	one, two := mustUsed(t, w), mustUsed(t, w)
	one = one[:cap(one)]
	for i := range one {
		one[i] = 99
	}
	for _, l := range [][]int{two, mustUsed(t, w)} {
		if !slices.Equal(l, []int{1, 3}) {
			t.Errorf("behind a change of another answer: %v", l)
		}
	}
}
