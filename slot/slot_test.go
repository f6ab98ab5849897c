package slot_test

import (
	"math"
	"math/rand/v2"
	"slices"
	"testing"

	"vendmeter/api"
	"vendmeter/cell"
	"vendmeter/slot"
)

// sizes of records: from the fewest words to the most.
var sizes = []int{1, 2, 3, 5, 31, 32, api.MaxRecord - 1, api.MaxRecord}

// wrongSizes: numbers of words that no record may have.
var wrongSizes = []int{
	0, -1, -2, -3, -api.MaxRecord, math.MinInt32, math.MinInt, math.MinInt + 1, math.MinInt + 2, math.MinInt + api.MaxRecord,
	api.MaxRecord + 1, api.MaxRecord + 2, 2 * api.MaxRecord, 1 << 32, 1<<32 + 1, 1 << 62, 1<<62 + 1, math.MaxInt - 1, math.MaxInt,
	// Those of which 2 (n + 1) is a small number, if it wraps round.
	math.MinInt/2 + 1, math.MinInt/2 + 3, math.MaxInt/2 + 2,
}

// badMarks: words that make no slot good.
var badMarks = []uint32{0, 4, 5, 6, 7, 255, 256, 257, 1 << 16, 1<<16 + 1, 1 << 31, 1<<31 + 1, 1<<31 + 2, 1<<31 + 3, math.MaxUint32 - 1, math.MaxUint32}

// firstCounts: of two good slots, by their marks, as the chapter's words have it.
var firstCounts = map[[2]uint32]bool{
	{1, 1}: true, {1, 2}: false, {1, 3}: true,
	{2, 1}: true, {2, 2}: true, {2, 3}: false,
	{3, 1}: false, {3, 2}: true, {3, 3}: true,
}

// next: the mark that comes behind each.
var next = map[uint32]uint32{1: 2, 2: 3, 3: 1}

// lay two slots of these marks and records.
func lay(first uint32, one []uint32, second uint32, two []uint32) []uint32 {
	return slices.Concat([]uint32{first}, one, []uint32{second}, two)
}

// drawn words, marks among them.
func drawn(r *rand.Rand, n int) []uint32 {
	l := make([]uint32, n)
	for i := range l {
		l[i] = r.Uint32()
		if r.IntN(2) == 0 {
			l[i] = uint32(r.IntN(5))
		}
	}
	return l
}

// laying: the writes that lay rec to the slot that begins at a place, with a mark at last.
func laying(at int, rec []uint32, mark uint32) []api.Write {
	l := []api.Write{{At: at, Word: 0}}
	for i := range rec {
		l = append(l, api.Write{At: at + 1 + i, Word: rec[i]})
	}
	return append(l, api.Write{At: at, Word: mark})
}

// loaded: the record of slots that must be taken.
func loaded(t *testing.T, c []uint32, n int) []uint32 {
	t.Helper()
	rec, e := slot.Load(c, n)
	if e != api.OK {
		t.Fatalf("Load(%v, %d): %v", c, n, e)
	}
	return rec
}

// stored: the writes to slots that must be taken.
func stored(t *testing.T, c, rec []uint32) []api.Write {
	t.Helper()
	l, e := slot.Store(c, rec)
	if e != api.OK {
		t.Fatalf("Store(%v, %v): %v", c, rec, e)
	}
	return l
}

// behind: slots behind the first k of the writes.
func behind(t *testing.T, c []uint32, l []api.Write, k int) []uint32 {
	t.Helper()
	after, e := cell.Apply(c, l, k)
	if e != api.OK {
		t.Fatalf("Apply(%v, %v, %d): %v", c, l, k, e)
	}
	return after
}

// fresh slots of a size that may be.
func fresh(t *testing.T, n int) []uint32 {
	t.Helper()
	c, e := slot.Fresh(n)
	if e != api.OK {
		t.Fatalf("Fresh(%d): %v", n, e)
	}
	return c
}

// P7.1

// TestWhichCounts: each pair of good marks, at each size.
func TestWhichCounts(t *testing.T) {
	r := rand.New(rand.NewPCG(7, 1))
	for _, n := range sizes {
		for marks, first := range firstCounts {
			one, two, rec := drawn(r, n), drawn(r, n), drawn(r, n)
			c := lay(marks[0], one, marks[1], two)
			want, mark, other := one, marks[0], n+1
			if !first {
				want, mark, other = two, marks[1], 0
			}
			if got := loaded(t, c, n); !slices.Equal(got, want) {
				t.Errorf("%d words, marks %v: Load %v, want %v", n, marks, got, want)
			}
			if got, l := stored(t, c, rec), laying(other, rec, next[mark]); !slices.Equal(got, l) {
				t.Errorf("%d words, marks %v: Store %v, want %v", n, marks, got, l)
			}
		}
	}
}

// TestOneGood: the good one counts, wherever it is and whatever the other's mark.
func TestOneGood(t *testing.T) {
	r := rand.New(rand.NewPCG(7, 2))
	for _, n := range sizes {
		for _, bad := range badMarks {
			for mark, then := range next {
				one, two, rec := drawn(r, n), drawn(r, n), drawn(r, n)
				ahead, back := lay(mark, one, bad, two), lay(bad, one, mark, two)
				if got := loaded(t, ahead, n); !slices.Equal(got, one) {
					t.Fatalf("%d words, marks %d %d: Load %v, want %v", n, mark, bad, got, one)
				}
				if got := loaded(t, back, n); !slices.Equal(got, two) {
					t.Fatalf("%d words, marks %d %d: Load %v, want %v", n, bad, mark, got, two)
				}
				if got, want := stored(t, ahead, rec), laying(n+1, rec, then); !slices.Equal(got, want) {
					t.Fatalf("%d words, marks %d %d: Store %v, want %v", n, mark, bad, got, want)
				}
				if got, want := stored(t, back, rec), laying(0, rec, then); !slices.Equal(got, want) {
					t.Fatalf("%d words, marks %d %d: Store %v, want %v", n, bad, mark, got, want)
				}
			}
		}
	}
}

// TestMarksComeRound: storing goes from slot to slot, and by the marks 1, 2, 3, 1.
func TestMarksComeRound(t *testing.T) {
	r := rand.New(rand.NewPCG(7, 3))
	for _, n := range sizes {
		c, mark := fresh(t, n), uint32(1)
		for i := range 13 {
			rec, other := drawn(r, n), (n+1)*((i+1)%2)
			mark = next[mark]
			l := stored(t, c, rec)
			if want := laying(other, rec, mark); !slices.Equal(l, want) {
				t.Fatalf("%d words, record %d: %v, want %v", n, i, l, want)
			}
			c = behind(t, c, l, len(l))
			if got := loaded(t, c, n); !slices.Equal(got, rec) {
				t.Fatalf("%d words, record %d: %v, want %v", n, i, got, rec)
			}
		}
	}
}

// P7.2

func TestFresh(t *testing.T) {
	for n := 1; n <= api.MaxRecord; n++ {
		c, e := slot.Fresh(n)
		want := make([]uint32, 2*(n+1))
		want[0] = 1
		if e != api.OK || !slices.Equal(c, want) {
			t.Fatalf("Fresh(%d): %v, %v, want %v", n, c, e, want)
		}
		if got := loaded(t, c, n); !slices.Equal(got, make([]uint32, n)) {
			t.Fatalf("Fresh(%d) has the record %v", n, got)
		}
	}
}

func TestFreshRefuses(t *testing.T) {
	for _, n := range wrongSizes {
		if c, e := slot.Fresh(n); e != api.ErrSize || len(c) != 0 {
			t.Errorf("Fresh(%d): %d words, %v, want ErrSize", n, len(c), e)
		}
	}
}

// P7.3

func TestLoad(t *testing.T) {
	for _, c := range []struct {
		words, want []uint32
	}{
		{[]uint32{1, 0, 0, 0}, []uint32{0}},
		{[]uint32{1, 0, 0, 9}, []uint32{0}},
		{[]uint32{1, 0, 2, 9}, []uint32{9}},
		{[]uint32{3, 5, 2, 9}, []uint32{5}},
		{[]uint32{3, 5, 1, 9}, []uint32{9}},
		{[]uint32{2, 5, 1, 9}, []uint32{5}},
		{[]uint32{2, 5, 2, 9}, []uint32{5}},
		{[]uint32{0, 5, 3, 9}, []uint32{9}},
		{[]uint32{4, 5, 3, 9}, []uint32{9}},
		{[]uint32{3, 5, 4, 9}, []uint32{5}},
		{[]uint32{1, math.MaxUint32, 0, 0}, []uint32{math.MaxUint32}},
		{[]uint32{0, 1, 1, 2}, []uint32{2}},
		// A word of a record is no mark, whatever it is.
		{[]uint32{1, 3, 2, 3, 1, 2}, []uint32{3, 2}},
		{[]uint32{0, 3, 2, 3, 1, 2}, []uint32{1, 2}},
		{[]uint32{2, 7, 8, 3, 5, 6}, []uint32{5, 6}},
		{[]uint32{1, 7, 8, 9, 3, 4, 5, 6}, []uint32{7, 8, 9}},
	} {
		n := len(c.want)
		if got := loaded(t, c.words, n); !slices.Equal(got, c.want) {
			t.Errorf("Load(%v, %d): %v, want %v", c.words, n, got, c.want)
		}
	}
}

// TestLoadSize: as many words as the record asks for, no fewer and no more, ahead of whether a slot is good.
func TestLoadSize(t *testing.T) {
	for _, n := range sizes {
		for have := 0; have <= 2*(n+1)+5; have++ {
			if have == 2*(n+1) {
				continue
			}
			for _, mark := range []uint32{0, 1, 4} {
				c := slices.Repeat([]uint32{mark}, have)
				if rec, e := slot.Load(c, n); e != api.ErrSize || len(rec) != 0 {
					t.Fatalf("Load of %d words, %d: %v, %v, want ErrSize", have, n, rec, e)
				}
			}
		}
	}
}

func TestLoadWrongSizes(t *testing.T) {
	for _, n := range wrongSizes {
		for _, mark := range []uint32{0, 1} {
			for _, have := range []int{0, 1, 2, 3, 4, 6, 8, 2 * (api.MaxRecord + 1), 2*(api.MaxRecord+1) + 2, 2*(api.MaxRecord+1) + 4, 4*api.MaxRecord + 2} {
				c := slices.Repeat([]uint32{mark}, have)
				if rec, e := slot.Load(c, n); e != api.ErrSize || len(rec) != 0 {
					t.Fatalf("Load of %d words, %d: %v, %v, want ErrSize", have, n, rec, e)
				}
			}
		}
	}
	if rec, e := slot.Load(nil, 1); e != api.ErrSize || len(rec) != 0 {
		t.Errorf("Load of nil: %v, %v, want ErrSize", rec, e)
	}
	// Spare room behind the words holds none.
	if rec, e := slot.Load([]uint32{1, 2, 3, 4}[:3], 1); e != api.ErrSize || len(rec) != 0 {
		t.Errorf("Load of three words and room: %v, %v, want ErrSize", rec, e)
	}
}

func TestBlank(t *testing.T) {
	r := rand.New(rand.NewPCG(7, 4))
	for _, n := range sizes {
		for _, first := range badMarks {
			for _, second := range badMarks {
				c := lay(first, drawn(r, n), second, drawn(r, n))
				if rec, e := slot.Load(c, n); e != api.ErrBlank || len(rec) != 0 {
					t.Fatalf("Load(%v, %d): %v, %v, want ErrBlank", c, n, rec, e)
				}
				if l, e := slot.Store(c, drawn(r, n)); e != api.ErrBlank || len(l) != 0 {
					t.Fatalf("Store(%v) of %d words: %v, %v, want ErrBlank", c, n, l, e)
				}
			}
		}
	}
}

// P7.4

func TestStore(t *testing.T) {
	for _, c := range []struct {
		words, rec []uint32
		want       []api.Write
	}{
		{[]uint32{1, 0, 0, 0}, []uint32{9}, []api.Write{{At: 2, Word: 0}, {At: 3, Word: 9}, {At: 2, Word: 2}}},
		{[]uint32{1, 0, 2, 9}, []uint32{7}, []api.Write{{At: 0, Word: 0}, {At: 1, Word: 7}, {At: 0, Word: 3}}},
		{[]uint32{3, 7, 2, 9}, []uint32{5}, []api.Write{{At: 2, Word: 0}, {At: 3, Word: 5}, {At: 2, Word: 1}}},
		{[]uint32{3, 7, 1, 5}, []uint32{5}, []api.Write{{At: 0, Word: 0}, {At: 1, Word: 5}, {At: 0, Word: 2}}},
		{[]uint32{1, 7, 1, 5}, []uint32{5}, []api.Write{{At: 2, Word: 0}, {At: 3, Word: 5}, {At: 2, Word: 2}}},
		{[]uint32{9, 7, 3, 5}, []uint32{4}, []api.Write{{At: 0, Word: 0}, {At: 1, Word: 4}, {At: 0, Word: 1}}},
		// Those that change nothing, too.
		{[]uint32{1, 0, 0, 0}, []uint32{0}, []api.Write{{At: 2, Word: 0}, {At: 3, Word: 0}, {At: 2, Word: 2}}},
		{[]uint32{1, 7, 0, 7}, []uint32{7}, []api.Write{{At: 2, Word: 0}, {At: 3, Word: 7}, {At: 2, Word: 2}}},
		{[]uint32{0, 4, 5, 1, 4, 5}, []uint32{4, 5}, []api.Write{{At: 0, Word: 0}, {At: 1, Word: 4}, {At: 2, Word: 5}, {At: 0, Word: 2}}},
		{[]uint32{1, 0, 0, 0, 0, 0}, []uint32{math.MaxUint32, 1 << 31}, []api.Write{{At: 3, Word: 0}, {At: 4, Word: math.MaxUint32}, {At: 5, Word: 1 << 31}, {At: 3, Word: 2}}},
	} {
		if got := stored(t, c.words, c.rec); !slices.Equal(got, c.want) {
			t.Errorf("Store(%v, %v): %v, want %v", c.words, c.rec, got, c.want)
		}
	}
}

// TestStoreSize: the record's words tell how many there must be, ahead of whether a slot is good.
func TestStoreSize(t *testing.T) {
	for _, n := range sizes {
		for have := 0; have <= 2*(n+1)+5; have++ {
			if have == 2*(n+1) {
				continue
			}
			for _, mark := range []uint32{0, 1, 4} {
				c := slices.Repeat([]uint32{mark}, have)
				if l, e := slot.Store(c, make([]uint32, n)); e != api.ErrSize || len(l) != 0 {
					t.Fatalf("Store to %d words, of %d: %v, %v, want ErrSize", have, n, l, e)
				}
			}
		}
	}
	for _, n := range []int{0, api.MaxRecord + 1, api.MaxRecord + 2, 1000} {
		for _, mark := range []uint32{0, 1} {
			c := slices.Repeat([]uint32{mark}, 2*(n+1))
			if l, e := slot.Store(c, make([]uint32, n)); e != api.ErrSize || len(l) != 0 {
				t.Errorf("Store of a record of %d words: %v, %v, want ErrSize", n, l, e)
			}
		}
	}
	for _, c := range [][]uint32{nil, {}, {1}, {1, 1}} {
		if l, e := slot.Store(c, nil); e != api.ErrSize || len(l) != 0 {
			t.Errorf("Store(%v, nil): %v, %v, want ErrSize", c, l, e)
		}
	}
	// Spare room behind either holds no words.
	room := []uint32{1, 2, 3, 4}
	for _, c := range []struct{ words, rec []uint32 }{{room[:3], room[:1]}, {room[:2], room[:0]}, {room, room[:2]}} {
		if l, e := slot.Store(c.words, c.rec); e != api.ErrSize || len(l) != 0 {
			t.Errorf("Store(%v, %v), with room: %v, %v, want ErrSize", c.words, c.rec, l, e)
		}
	}
}

// What comes of it

// start: slots of all kinds of which one counts.
func start(r *rand.Rand, n int) []uint32 {
	marks := [2]uint32{uint32(r.IntN(5)), uint32(r.IntN(5))}
	marks[r.IntN(2)] = uint32(1 + r.IntN(3))
	return lay(marks[0], drawn(r, n), marks[1], drawn(r, n))
}

// TestOldOrNew: the old record behind each write but the last, the new one behind that.
func TestOldOrNew(t *testing.T) {
	r := rand.New(rand.NewPCG(7, 5))
	for _, n := range sizes {
		for range 60 {
			c, rec := start(r, n), drawn(r, n)
			old, l := loaded(t, c, n), stored(t, c, rec)
			for k := range l {
				if got := loaded(t, behind(t, c, l, k), n); !slices.Equal(got, old) {
					t.Fatalf("%v, %d of %v: %v, want the old %v", c, k, l, got, old)
				}
			}
			if got := loaded(t, behind(t, c, l, len(l)), n); !slices.Equal(got, rec) {
				t.Fatalf("%v, all of %v: %v, want the new %v", c, l, got, rec)
			}
		}
	}
}

// TestBegunAgain: however often storing is cut, with whatever record, the one that was stored last is there.
func TestBegunAgain(t *testing.T) {
	r := rand.New(rand.NewPCG(7, 6))
	for _, n := range sizes {
		c := start(r, n)
		there := loaded(t, c, n)
		for range 200 {
			rec := drawn(r, n)
			l := stored(t, c, rec)
			k := r.IntN(len(l) + 1)
			if c = behind(t, c, l, k); k == len(l) {
				there = rec
			}
			if got := loaded(t, c, n); !slices.Equal(got, there) {
				t.Fatalf("%d words, %d of %d writes: %v, want %v", n, k, len(l), got, there)
			}
		}
	}
}

// TestBegunAgainIsTheSame: behind a cut, the same writes are told as ahead of it.
func TestBegunAgainIsTheSame(t *testing.T) {
	r := rand.New(rand.NewPCG(7, 7))
	for _, n := range sizes {
		for range 20 {
			c, rec := start(r, n), drawn(r, n)
			l := stored(t, c, rec)
			for k := range l {
				if again := stored(t, behind(t, c, l, k), rec); !slices.Equal(again, l) {
					t.Fatalf("%v behind %d writes: %v, want %v", c, k, again, l)
				}
			}
		}
	}
}

// TestTheCountingStays: no write goes to the slot that counts.
func TestTheCountingStays(t *testing.T) {
	r := rand.New(rand.NewPCG(7, 8))
	for _, n := range sizes {
		for marks, first := range firstCounts {
			c := lay(marks[0], drawn(r, n), marks[1], drawn(r, n))
			for _, w := range stored(t, c, drawn(r, n)) {
				if w.At < 0 || w.At >= len(c) || first == (w.At <= n) {
					t.Fatalf("%d words, marks %v: a write to the place %d", n, marks, w.At)
				}
			}
		}
	}
}

// What holds everywhere: lists that are handed in stay as they are, answers are new memory.

// smear over a list and its spare room.
func smear[T any](l []T, with T) {
	l = l[:cap(l)]
	for i := range l {
		l[i] = with
	}
}

func TestListsStay(t *testing.T) {
	room, recRoom := []uint32{1, 5, 6, 2, 7, 8, 90, 91, 92}, []uint32{3, 4, 80, 81, 82, 83, 84}
	roomWas, recWas := slices.Clone(room), slices.Clone(recRoom)
	c, rec := room[:6], recRoom[:2]
	one, two := loaded(t, c, 2), loaded(t, c, 2)
	smear(one, 99)
	if !slices.Equal(two, []uint32{7, 8}) {
		t.Errorf("another record changed: %v", two)
	}
	smear(two, 99)
	l, m := stored(t, c, rec), stored(t, c, rec)
	want := slices.Clone(m)
	smear(l, api.Write{At: 99, Word: 99})
	if !slices.Equal(m, want) {
		t.Errorf("another list of writes changed: %v; it was %v", m, want)
	}
	if !slices.Equal(room, roomWas) || !slices.Equal(recRoom, recWas) {
		t.Errorf("lists and their spare room: %v %v; they were %v %v", room, recRoom, roomWas, recWas)
	}
}

func TestFreshOnesAreNew(t *testing.T) {
	one, two := fresh(t, 2), fresh(t, 2)
	smear(one, 99)
	for _, c := range [][]uint32{two, fresh(t, 2)} {
		if !slices.Equal(c, []uint32{1, 0, 0, 0, 0, 0}) {
			t.Errorf("behind a change of another answer: %v", c)
		}
	}
}

// TestArgumentsOnly: what is changed behind a call is not seen in its answer.
func TestArgumentsOnly(t *testing.T) {
	c, rec := []uint32{1, 5, 6, 0, 7, 8}, []uint32{3, 4}
	got, l := loaded(t, c, 2), stored(t, c, rec)
	want := slices.Clone(l)
	smear(c, 99)
	smear(rec, 99)
	if !slices.Equal(got, []uint32{5, 6}) || !slices.Equal(l, want) {
		t.Errorf("answers changed with what was handed in: %v %v", got, l)
	}
}

// TestOneListTwice: slots that are handed in as the record, too.
func TestOneListTwice(t *testing.T) {
	c := []uint32{1, 5, 6, 0, 7, 8}
	if l, want := stored(t, c, c[1:3]), laying(3, []uint32{5, 6}, 2); !slices.Equal(l, want) {
		t.Errorf("the record that is there: %v, want %v", l, want)
	}
	if l, want := stored(t, c, c[3:5]), laying(3, []uint32{0, 7}, 2); !slices.Equal(l, want) {
		t.Errorf("words of the other slot: %v, want %v", l, want)
	}
}
