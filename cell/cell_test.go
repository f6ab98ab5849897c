package cell_test

import (
	"math"
	"math/rand/v2"
	"slices"
	"testing"

	"vendmeter/api"
	"vendmeter/cell"
)

// edges: words at which something may be forgotten.
var edges = []uint32{0, 1, 2, 1<<31 - 1, 1 << 31, math.MaxUint32 - 1, math.MaxUint32}

// writes: a list, each as its place and its word.
func writes(pairs ...[2]int) []api.Write {
	var l []api.Write
	for _, p := range pairs {
		l = append(l, api.Write{At: p[0], Word: uint32(p[1])})
	}
	return l
}

// many writes, each of the place 0.
func many(n int) []api.Write { return make([]api.Write, n) }

// drawn words, of which two lists have many in common.
func drawn(r *rand.Rand, n int) []uint32 {
	c := make([]uint32, n)
	for i := range c {
		c[i] = edges[r.IntN(len(edges))]
		if r.IntN(4) == 0 {
			c[i] = r.Uint32()
		}
	}
	return c
}

// drawnWrites: n of them, to places of so many words.
func drawnWrites(r *rand.Rand, n, places int) []api.Write {
	var l []api.Write
	for i, word := range drawn(r, n) {
		at := r.IntN(places)
		if i > 0 && r.IntN(4) == 0 { // once more to the same place
			at = l[i-1].At
		}
		l = append(l, api.Write{At: at, Word: word})
	}
	return l
}

// sizes of words: from the fewest to the most.
var sizes = []int{1, 2, 3, 7, 64, 65, 1000, api.MaxCells - 1, api.MaxCells}

// applied: words behind writes that must be taken.
func applied(t *testing.T, c []uint32, l []api.Write, k int) []uint32 {
	t.Helper()
	got, e := cell.Apply(c, l, k)
	if e != api.OK {
		t.Fatalf("Apply of %d words, %d writes, %d of them: %v", len(c), len(l), k, e)
	}
	return got
}

// differing: the writes between words that must be taken.
func differing(t *testing.T, a, b []uint32) []api.Write {
	t.Helper()
	l, e := cell.Diff(a, b)
	if e != api.OK {
		t.Fatalf("Diff of %d words and %d: %v", len(a), len(b), e)
	}
	return l
}

// P6.1

func TestBlank(t *testing.T) {
	for n := 1; n <= api.MaxCells; n++ {
		c, e := cell.Blank(n)
		if e != api.OK || len(c) != n || slices.Max(c) != 0 {
			t.Fatalf("Blank(%d): %d words, %v: %v", n, len(c), e, c)
		}
	}
}

func TestBlankRefuses(t *testing.T) {
	for _, n := range []int{
		0, -1, -2, -api.MaxCells, math.MinInt32, math.MinInt, math.MinInt + 1, math.MinInt + api.MaxCells,
		api.MaxCells + 1, api.MaxCells + 2, 2 * api.MaxCells, api.MaxWrites, 1 << 32, 1<<32 + 1, math.MaxInt - 1, math.MaxInt,
	} {
		if c, e := cell.Blank(n); e != api.ErrSize || len(c) != 0 {
			t.Errorf("Blank(%d): %d words, %v, want ErrSize", n, len(c), e)
		}
	}
}

// P6.2

func TestApply(t *testing.T) {
	chapter := writes([2]int{1, 7}, [2]int{2, 9}, [2]int{1, 8})
	for _, c := range []struct {
		words []uint32
		l     []api.Write
		k     int
		want  []uint32
	}{
		{[]uint32{0, 0, 0}, chapter, 0, []uint32{0, 0, 0}},
		{[]uint32{0, 0, 0}, chapter, 1, []uint32{0, 7, 0}},
		{[]uint32{0, 0, 0}, chapter, 2, []uint32{0, 7, 9}},
		{[]uint32{0, 0, 0}, chapter, 3, []uint32{0, 8, 9}},
		{[]uint32{4, 5, 6}, chapter, 2, []uint32{4, 7, 9}},
		{[]uint32{4, 5, 6}, nil, 0, []uint32{4, 5, 6}},
		{[]uint32{4, 5, 6}, []api.Write{}, 0, []uint32{4, 5, 6}},
		{[]uint32{4}, writes([2]int{0, 3}), 0, []uint32{4}},
		{[]uint32{4}, writes([2]int{0, 3}), 1, []uint32{3}},
		{[]uint32{4}, writes([2]int{0, 3}, [2]int{0, 0}), 2, []uint32{0}},
		{[]uint32{4, 5}, writes([2]int{1, math.MaxUint32}, [2]int{0, 1 << 31}), 2, []uint32{1 << 31, math.MaxUint32}},
		{[]uint32{4, 5}, writes([2]int{1, 5}, [2]int{1, 5}), 2, []uint32{4, 5}},
	} {
		if got := applied(t, c.words, c.l, c.k); !slices.Equal(got, c.want) {
			t.Errorf("Apply(%v, %v, %d): %v, want %v", c.words, c.l, c.k, got, c.want)
		}
	}
}

// TestApplyDrawn: each word is what went to its place last, among the first k.
func TestApplyDrawn(t *testing.T) {
	r := rand.New(rand.NewPCG(6, 2))
	for _, n := range sizes {
		for _, size := range []int{0, 1, 2, 5, 40, api.MaxWrites - 1, api.MaxWrites} {
			c, l := drawn(r, n), drawnWrites(r, size, n)
			for _, k := range []int{0, size / 3, size / 2, size} {
				got := applied(t, c, l, k)
				if len(got) != n {
					t.Fatalf("%d words of %d", len(got), n)
				}
				last := map[int]uint32{}
				for i := range k {
					last[l[i].At] = l[i].Word
				}
				for at, word := range got {
					want, ok := last[at]
					if !ok {
						want = c[at]
					}
					if word != want {
						t.Fatalf("%d words, %d writes, %d of them: %d at the place %d, want %d", n, size, k, word, at, want)
					}
				}
			}
		}
	}
}

func TestApplySize(t *testing.T) {
	full, over := make([]uint32, api.MaxCells), make([]uint32, api.MaxCells+1)
	for _, c := range []struct {
		what  string
		words []uint32
		l     []api.Write
		k     int
	}{
		{"no words", nil, nil, 0},
		{"no words, not nil", []uint32{}, nil, 0},
		{"no words, but spare room", full[:0], nil, 0},
		{"no words, and a write", nil, many(1), 0},
		{"no words, and k", nil, nil, 1},
		{"no words, and a write that goes astray", nil, writes([2]int{-1, 0}), 2},
		{"too many words", over, nil, 0},
		{"too many words, and writes", over, many(2), 2},
		{"too many words, and k", over, many(2), 3},
		{"too many words, and a write that goes astray", over, writes([2]int{api.MaxCells + 1, 0}), 0},
		{"far too many words", make([]uint32, 10*api.MaxCells), many(1), 1},
		{"too many writes", []uint32{0}, many(api.MaxWrites + 1), 0},
		{"too many writes, all of them", []uint32{0}, many(api.MaxWrites + 1), api.MaxWrites + 1},
		{"too many writes, as many as may be", full, many(api.MaxWrites + 1), api.MaxWrites},
		{"too many writes, and k", full, many(api.MaxWrites + 1), -1},
		{"too many writes, the last goes astray", full, append(many(api.MaxWrites), api.Write{At: -1}), 0},
		{"too many of both", over, many(api.MaxWrites + 1), 1},
	} {
		if got, e := cell.Apply(c.words, c.l, c.k); e != api.ErrSize || len(got) != 0 {
			t.Errorf("%s: %d words, %v, want ErrSize", c.what, len(got), e)
		}
	}
	// The most that may be.
	applied(t, full, many(api.MaxWrites), 0)
	applied(t, full, many(api.MaxWrites), api.MaxWrites)
}

// TestApplyAstray: wherever in the list, and however few of it are done.
func TestApplyAstray(t *testing.T) {
	for _, n := range sizes {
		c := make([]uint32, n)
		for _, at := range []int{-1, -2, -n, math.MinInt32, math.MinInt, n, n + 1, n + api.MaxCells, api.MaxCells, 1 << 32, math.MaxInt} {
			for _, size := range []int{1, 2, 5, api.MaxWrites} {
				for _, bad := range []int{0, size / 2, size - 1} {
					l := many(size)
					l[bad].At = at
					for _, k := range []int{0, bad, bad + 1, size, -1, size + 1} {
						if got, e := cell.Apply(c, l, k); e != api.ErrRange || len(got) != 0 {
							t.Fatalf("%d words, write %d of %d to the place %d, %d done: %d words, %v, want ErrRange", n, bad, size, at, k, len(got), e)
						}
					}
				}
			}
		}
		// The first place, and the last.
		if got := applied(t, c, writes([2]int{0, 5}, [2]int{n - 1, 6}), 2); got[n-1] != 6 || n > 1 && got[0] != 5 {
			t.Errorf("%d words: the first and the last are %d and %d", n, got[0], got[n-1])
		}
	}
}

func TestApplyHowMany(t *testing.T) {
	for _, size := range []int{0, 1, 2, 3, 100, api.MaxWrites} {
		c, l := []uint32{1, 2}, many(size)
		for _, k := range []int{-1, -2, -size - 1, math.MinInt32, math.MinInt, size + 1, size + 2, 2*size + 1, 1 << 32, math.MaxInt - 1, math.MaxInt} {
			if got, e := cell.Apply(c, l, k); e != api.ErrRange || len(got) != 0 {
				t.Errorf("%d writes, %d of them: %v, %v, want ErrRange", size, k, got, e)
			}
		}
		// Spare room behind the list holds no writes.
		if got, e := cell.Apply(c, many(size + 1)[:size], size+1); e != api.ErrRange || len(got) != 0 {
			t.Errorf("%d writes and room, one more of them: %v, %v, want ErrRange", size, got, e)
		}
		applied(t, c, l, size)
	}
}

// TestApplyRoom: writes that lie behind the list are not looked at.
func TestApplyRoom(t *testing.T) {
	l := writes([2]int{0, 3}, [2]int{9, 9}, [2]int{-1, 9})
	if got := applied(t, []uint32{1, 2}, l[:1], 1); !slices.Equal(got, []uint32{3, 2}) {
		t.Errorf("%v, want [3 2]", got)
	}
}

// P6.3

func TestDiff(t *testing.T) {
	for _, c := range []struct {
		a, b []uint32
		want []api.Write
	}{
		{[]uint32{1, 2, 3}, []uint32{1, 5, 4}, writes([2]int{1, 5}, [2]int{2, 4})},
		{[]uint32{1, 5, 4}, []uint32{1, 2, 3}, writes([2]int{1, 2}, [2]int{2, 3})},
		{[]uint32{1, 2, 3}, []uint32{1, 2, 3}, nil},
		{[]uint32{0}, []uint32{0}, nil},
		{[]uint32{0}, []uint32{1}, writes([2]int{0, 1})},
		{[]uint32{1}, []uint32{0}, writes([2]int{0, 0})},
		{[]uint32{1, 2, 3}, []uint32{0, 0, 0}, writes([2]int{0, 0}, [2]int{1, 0}, [2]int{2, 0})},
		{[]uint32{0, 0, 0}, []uint32{7, 0, 7}, writes([2]int{0, 7}, [2]int{2, 7})},
		{[]uint32{0, math.MaxUint32}, []uint32{math.MaxUint32, 0}, writes([2]int{0, math.MaxUint32}, [2]int{1, 0})},
		{[]uint32{1 << 31, 1 << 31}, []uint32{1 << 31, 0}, writes([2]int{1, 0})},
		{[]uint32{1, 2}, []uint32{2, 1}, writes([2]int{0, 2}, [2]int{1, 1})},
	} {
		if got := differing(t, c.a, c.b); !slices.Equal(got, c.want) {
			t.Errorf("Diff(%v, %v): %v, want %v", c.a, c.b, got, c.want)
		}
	}
}

// TestDiffDrawn: one write for each place that differs, and no other.
func TestDiffDrawn(t *testing.T) {
	r := rand.New(rand.NewPCG(6, 3))
	for _, n := range sizes {
		for range 20 {
			a, b := drawn(r, n), drawn(r, n)
			var want []api.Write
			for at := range n {
				if a[at] != b[at] {
					want = append(want, api.Write{At: at, Word: b[at]})
				}
			}
			if got := differing(t, a, b); !slices.Equal(got, want) {
				t.Fatalf("Diff of %d words: %v, want %v", n, got, want)
			}
		}
	}
}

// TestDiffEachBit: words that differ in one bit, at each place of a few.
func TestDiffEachBit(t *testing.T) {
	for bit := range 32 {
		for at := range 3 {
			a := []uint32{6, 6, 6}
			b := slices.Clone(a)
			b[at] ^= 1 << bit
			want := []api.Write{{At: at, Word: 6 ^ 1<<bit}}
			if got := differing(t, a, b); !slices.Equal(got, want) {
				t.Errorf("Diff(%v, %v): %v, want %v", a, b, got, want)
			}
		}
	}
}

func TestDiffRefuses(t *testing.T) {
	full, over := make([]uint32, api.MaxCells), make([]uint32, api.MaxCells+1)
	room := make([]uint32, 10)
	for _, c := range []struct {
		what string
		a, b []uint32
	}{
		{"no words", nil, nil},
		{"no words, not nil", []uint32{}, []uint32{}},
		{"no words, but room", room[:0], room[:0]},
		{"none in the first", nil, room},
		{"none in the second", room, nil},
		{"more in the first", room, room[:9]},
		{"more in the second", room[:9], room},
		{"one and two", room[:1], room[:2]},
		{"two and one", room[:2], room[:1]},
		{"too many in both", over, over},
		{"too many in the first", over, full},
		{"too many in the second", full, over},
		{"one fewer than the most", full[1:], full},
		{"far too many", make([]uint32, 10*api.MaxCells), make([]uint32, 10*api.MaxCells)},
	} {
		if l, e := cell.Diff(c.a, c.b); e != api.ErrSize || len(l) != 0 {
			t.Errorf("%s: %v, %v, want ErrSize", c.what, l, e)
		}
	}
	if l := differing(t, full, full); len(l) != 0 {
		t.Errorf("as many as may be, the same: %v", l)
	}
}

// What comes of it

// TestWriteByWrite: behind one write more, its word is there, and all others are as they were.
func TestWriteByWrite(t *testing.T) {
	r := rand.New(rand.NewPCG(6, 4))
	for _, n := range []int{1, 2, 3, 10, 100} {
		c, l := drawn(r, n), drawnWrites(r, 60, n)
		was := applied(t, c, l, 0)
		if !slices.Equal(was, c) {
			t.Errorf("behind no write: %v, they were %v", was, c)
		}
		for k, w := range l {
			is := applied(t, c, l, k+1)
			was[w.At] = w.Word
			if !slices.Equal(is, was) {
				t.Fatalf("behind write %d, %v: %v, want %v", k, w, is, was)
			}
			if one := applied(t, applied(t, c, l, k), l[k:], 1); !slices.Equal(one, is) {
				t.Fatalf("write %d done alone: %v, want %v", k, one, is)
			}
		}
	}
}

// TestOneOfTheOther: what differs makes the one of the other, and one write fewer does not.
func TestOneOfTheOther(t *testing.T) {
	r := rand.New(rand.NewPCG(6, 5))
	for _, n := range sizes {
		a, b := drawn(r, n), drawn(r, n)
		l := differing(t, a, b)
		if got := applied(t, a, l, len(l)); !slices.Equal(got, b) {
			t.Fatalf("%d words: %d writes make %v, want %v", n, len(l), got, b)
		}
		for drop := range min(len(l), 50) {
			fewer := slices.Delete(slices.Clone(l), drop, drop+1)
			if got := applied(t, a, fewer, len(fewer)); slices.Equal(got, b) {
				t.Fatalf("%d words: write %d is not needed", n, drop)
			}
		}
		for i := 1; i < len(l); i++ {
			if l[i-1].At >= l[i].At {
				t.Fatalf("%d words: the place %d ahead of %d", n, l[i-1].At, l[i].At)
			}
		}
	}
}

// What holds everywhere: lists that are handed in stay as they are, answers are new memory.

// smear over a list and its spare room.
func smear[T any](l []T, with T) {
	l = l[:cap(l)]
	for i := range l {
		l[i] = with
	}
}

func TestListsStay(t *testing.T) {
	words, others := []uint32{1, 2, 3, 70, 71, 72}, []uint32{4, 2, 5, 80, 81, 82}
	list := writes([2]int{0, 7}, [2]int{2, 9}, [2]int{1, 8}, [2]int{0, 55}, [2]int{1, 56})
	wordsWere, othersWere, listWas := slices.Clone(words), slices.Clone(others), slices.Clone(list)
	for k := range 4 {
		first, second := applied(t, words[:3], list[:3], k), applied(t, words[:3], list[:3], k)
		want := slices.Clone(second)
		smear(first, 99)
		if !slices.Equal(second, want) {
			t.Errorf("another answer changed: %v; it was %v", second, want)
		}
	}
	if _, e := cell.Apply(words[:3], list[:3], 4); e != api.ErrRange {
		t.Errorf("one write too many: %v", e)
	}
	one, two := differing(t, words[:3], others[:3]), differing(t, words[:3], others[:3])
	want := slices.Clone(two)
	smear(one, api.Write{At: 99, Word: 99})
	if !slices.Equal(two, want) {
		t.Errorf("another answer changed: %v; it was %v", two, want)
	}
	if !slices.Equal(words, wordsWere) || !slices.Equal(others, othersWere) || !slices.Equal(list, listWas) {
		t.Errorf("lists and their spare room: %v %v %v; they were %v %v %v", words, others, list, wordsWere, othersWere, listWas)
	}
}

func TestBlanksAreNew(t *testing.T) {
	one, _ := cell.Blank(4)
	two, _ := cell.Blank(4)
	smear(one, 99)
	three, _ := cell.Blank(4)
	if slices.Max(two) != 0 || slices.Max(three) != 0 {
		t.Errorf("behind a change of another answer: %v %v", two, three)
	}
}

// TestArgumentsOnly: what is changed behind a call is not seen in its answer.
func TestArgumentsOnly(t *testing.T) {
	c, l := []uint32{1, 2, 3}, writes([2]int{0, 7}, [2]int{2, 9})
	got, none := applied(t, c, l, 2), applied(t, c, nil, 0)
	diff := differing(t, []uint32{0, 0, 0}, c)
	smear(c, 99)
	smear(l, api.Write{At: 1, Word: 99})
	if !slices.Equal(got, []uint32{7, 2, 9}) || !slices.Equal(none, []uint32{1, 2, 3}) || !slices.Equal(diff, writes([2]int{0, 1}, [2]int{1, 2}, [2]int{2, 3})) {
		t.Errorf("answers changed with what was handed in: %v %v %v", got, none, diff)
	}
}
