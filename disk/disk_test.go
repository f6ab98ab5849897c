package disk_test

import (
	"math"
	"math/rand/v2"
	"slices"
	"sync"
	"testing"

	"vendmeter/api"
	"vendmeter/cell"
	"vendmeter/disk"
)

// sizes of records: from the fewest words to the most.
var sizes = []int{1, 2, 3, 31, 32, 33, api.MaxRecord - 1, api.MaxRecord}

// wrongLengths: words that no record's length may be, small ones in their lower bits among them.
var wrongLengths = []uint32{
	api.MaxRecord + 1, api.MaxRecord + 2, 2 * api.MaxRecord, 127, 128, 255, 256, 257, api.MaxCells - 1, api.MaxCells, api.MaxCells + 1,
	1 << 16, 1<<16 + 1, 1<<31 - 1, 1 << 31, 1<<31 + 1, 1<<31 + api.MaxRecord, math.MaxUint32 - api.MaxRecord, math.MaxUint32 - 1, math.MaxUint32,
}

// drawn words, lengths among them.
func drawn(r *rand.Rand, n int) []uint32 {
	l := make([]uint32, n)
	for i := range l {
		l[i] = r.Uint32()
		if r.IntN(2) == 0 {
			l[i] = uint32(r.IntN(6))
		}
	}
	return l
}

// lay records one behind the other, a length ahead of each.
func lay(records ...[]uint32) []uint32 {
	var c []uint32
	for _, rec := range records {
		c = append(append(c, uint32(len(rec))), rec...)
	}
	return c
}

// ended: these words, and a disk's other words behind them.
func ended(c []uint32, other ...uint32) []uint32 { return append(slices.Clone(c), other...) }

// slowReplay: the chapter's words, one after the other: what stands behind the first record is a disk again.
func slowReplay(c []uint32) (records [][]uint32, end int, e api.Errno) {
	switch {
	case len(c) == 0 || c[0] == 0:
		return nil, 0, api.OK
	case uint64(c[0]) > api.MaxRecord || uint64(len(c))-1 < uint64(c[0]):
		return nil, 0, api.ErrForm
	}
	n := int(c[0])
	records, end, e = slowReplay(c[1+n:])
	if e != api.OK {
		return nil, 0, e
	}
	return append([][]uint32{c[1 : 1+n]}, records...), 1 + n + end, api.OK
}

// slowAppend: the writes to a disk that ends there.
func slowAppend(words, end int, rec []uint32) []api.Write {
	var l []api.Write
	for i := range rec {
		l = append(l, api.Write{At: end + 1 + i, Word: rec[i]})
	}
	if end+1+len(rec) <= words-1 {
		l = append(l, api.Write{At: end + 1 + len(rec), Word: 0})
	}
	return append(l, api.Write{At: end, Word: uint32(len(rec))})
}

// same records, word by word?
func same(a, b [][]uint32) bool {
	return slices.EqualFunc(a, b, func(x, y []uint32) bool { return slices.Equal(x, y) })
}

// replayed: the records and the end of a disk that must be taken.
func replayed(t *testing.T, c []uint32) ([][]uint32, int) {
	t.Helper()
	l, end, e := disk.Replay(c)
	if e != api.OK {
		t.Fatalf("Replay(%v): %v", c, e)
	}
	return l, end
}

// appended: the writes to a disk that must be taken.
func appended(t *testing.T, c, rec []uint32) []api.Write {
	t.Helper()
	l, e := disk.Append(c, rec)
	if e != api.OK {
		t.Fatalf("Append(%v, %v): %v", c, rec, e)
	}
	return l
}

// behind: a disk behind the first k of the writes.
func behind(t *testing.T, c []uint32, l []api.Write, k int) []uint32 {
	t.Helper()
	after, e := cell.Apply(c, l, k)
	if e != api.OK {
		t.Fatalf("Apply(%v, %v, %d): %v", c, l, k, e)
	}
	return after
}

// tells: does a disk tell these records, and this end?
func tells(t *testing.T, c []uint32, want [][]uint32, at int) {
	t.Helper()
	if l, end := replayed(t, c); !same(l, want) || end != at {
		t.Fatalf("Replay(%v): %v, %d, want %v, %d", c, l, end, want, at)
	}
}

// refusesReplay: is the disk refused by both, so?
func refusesReplay(t *testing.T, c []uint32, want api.Errno) {
	t.Helper()
	if l, end, e := disk.Replay(c); e != want || len(l) != 0 || end != 0 {
		t.Fatalf("Replay(%v): %v, %d, %v, want %v", c, l, end, e, want)
	}
	refusesAppend(t, c, []uint32{1}, want)
}

func refusesAppend(t *testing.T, c, rec []uint32, want api.Errno) {
	t.Helper()
	if l, e := disk.Append(c, rec); e != want || len(l) != 0 {
		t.Fatalf("Append(%v, %v): %v, %v, want %v", c, rec, l, e, want)
	}
}

// P17.1

// TestOneBehindTheOther: records of all sizes, the end told by a nought, and by the last word.
func TestOneBehindTheOther(t *testing.T) {
	r := rand.New(rand.NewPCG(17, 1))
	for _, one := range sizes {
		for _, two := range sizes {
			records := [][]uint32{drawn(r, one), drawn(r, two)}
			c := lay(records...)
			tells(t, c, records, len(c))
			tells(t, ended(c, 0), records, len(c))
			tells(t, ended(c, 0, 0, 0), records, len(c))
			tells(t, c[:1+one], records[:1], 1+one)
		}
	}
}

// TestBehindTheEnd: what stands there means nothing, whether it looks like a record or like none.
func TestBehindTheEnd(t *testing.T) {
	rec := []uint32{9, 8}
	for _, word := range append([]uint32{0, 1, 2, 3, 4, api.MaxRecord}, wrongLengths...) {
		tells(t, []uint32{0, word}, nil, 0)
		tells(t, []uint32{0, word, 1, 7}, nil, 0)
		tells(t, []uint32{0, 1, 7, word}, nil, 0)
		tells(t, ended(lay(rec), 0, word), [][]uint32{rec}, 3)
		tells(t, ended(lay(rec), 0, 1, 7, word), [][]uint32{rec}, 3)
		tells(t, ended(lay(rec, rec), 0, word, word), [][]uint32{rec, rec}, 6)
	}
}

// TestWordsOfRecords: in a record any word may stand, a nought and what is no length among them.
func TestWordsOfRecords(t *testing.T) {
	for _, word := range append([]uint32{0, 1, 2, 3, api.MaxRecord}, wrongLengths...) {
		records := [][]uint32{{word}, {word, word}, {word, 0, word}, {0}}
		c := lay(records...)
		tells(t, c, records, len(c))
		tells(t, ended(c, 0), records, len(c))
		for i, rec := range records {
			l := appended(t, make([]uint32, 6), rec)
			tells(t, behind(t, make([]uint32, 6), l, len(l)), records[i:i+1], 1+len(rec))
		}
	}
}

// TestSizesOfDisks: each number of words that may be, with nothing on it, and with as much as it holds.
func TestSizesOfDisks(t *testing.T) {
	for words := 1; words <= api.MaxCells; words++ {
		c := make([]uint32, words)
		tells(t, c, nil, 0)
		if n := words - 1; n >= 1 && n <= api.MaxRecord {
			c[0] = uint32(n)
			tells(t, c, [][]uint32{c[1:]}, words)
		}
	}
	c := make([]uint32, api.MaxCells)
	for i := range c {
		c[i] = 1
	}
	l, end := replayed(t, c)
	if len(l) != api.MaxCells/2 || end != api.MaxCells {
		t.Errorf("%d records of one word, the end %d", len(l), end)
	}
}

// P17.2

func TestReplay(t *testing.T) {
	for _, c := range []struct {
		words   []uint32
		records [][]uint32
		end     int
	}{
		{[]uint32{1, 9, 0, 4, 4}, [][]uint32{{9}}, 2},
		{[]uint32{0}, nil, 0},
		{[]uint32{0, 0}, nil, 0},
		{[]uint32{1, 0}, [][]uint32{{0}}, 2},
		{[]uint32{1, 0, 0}, [][]uint32{{0}}, 2},
		{[]uint32{2, 0, 0}, [][]uint32{{0, 0}}, 3},
		{[]uint32{1, 5, 1, 6, 1, 7}, [][]uint32{{5}, {6}, {7}}, 6},
		{[]uint32{1, 5, 2, 6, 0, 1, 7, 0}, [][]uint32{{5}, {6, 0}, {7}}, 7},
		{[]uint32{3, 1, 2, 3, 0, 99}, [][]uint32{{1, 2, 3}}, 4},
		{[]uint32{0, math.MaxUint32}, nil, 0},
	} {
		tells(t, c.words, c.records, c.end)
	}
}

func TestReplayRefusesSizes(t *testing.T) {
	refusesReplay(t, nil, api.ErrSize)
	refusesReplay(t, []uint32{}, api.ErrSize)
	refusesReplay(t, make([]uint32, 0, 9), api.ErrSize)
	for _, words := range []int{api.MaxCells + 1, api.MaxCells + 2, 2 * api.MaxCells, 1 << 16, 1<<16 + 1} {
		refusesReplay(t, make([]uint32, words), api.ErrSize)
		// A length that is wrong as well: the size is named first.
		c := make([]uint32, words)
		c[0] = math.MaxUint32
		refusesReplay(t, c, api.ErrSize)
	}
}

// TestReplayRefusesLengths: above the most, as the first length and as a later one, at whatever size.
func TestReplayRefusesLengths(t *testing.T) {
	rec := []uint32{4, 4, 4}
	for _, length := range wrongLengths {
		for _, words := range []int{1, 2, api.MaxRecord + 1, api.MaxRecord + 2, 200, api.MaxCells} {
			c := make([]uint32, words)
			c[0] = length
			refusesReplay(t, c, api.ErrForm)
		}
		for _, room := range []int{0, 1, api.MaxRecord, 300} {
			refusesReplay(t, append(ended(lay(rec, rec), length), make([]uint32, room)...), api.ErrForm)
		}
	}
}

// TestReplayRefusesShort: a record that ends at the last word is there; with a word less it is none.
func TestReplayRefusesShort(t *testing.T) {
	rec := []uint32{4, 4, 4}
	for n := 1; n <= api.MaxRecord; n++ {
		long := make([]uint32, n)
		c := lay(rec, long)
		tells(t, c, [][]uint32{rec, long}, len(c))
		for words := len(c) - n; words < len(c); words++ {
			refusesReplay(t, c[:words], api.ErrForm)
		}
		alone := lay(long)
		tells(t, alone, [][]uint32{long}, len(alone))
		for words := 1; words < len(alone); words++ {
			refusesReplay(t, alone[:words], api.ErrForm)
		}
	}
}

// TestReplaySpareRoom: what lies behind the list is no word of the disk.
func TestReplaySpareRoom(t *testing.T) {
	refusesReplay(t, []uint32{2, 7, 7, 7}[:2], api.ErrForm)
	refusesReplay(t, []uint32{1, 7, 7, 7}[:1], api.ErrForm)
	tells(t, []uint32{1, 7, 1, 8}[:2], [][]uint32{{7}}, 2)
	refusesAppend(t, []uint32{1, 7, 0, 0, 0}[:2], []uint32{1}, api.ErrFull)
}

// TestReplayDrawn: drawn words against the chapter's words.
func TestReplayDrawn(t *testing.T) {
	r := rand.New(rand.NewPCG(17, 2))
	good := 0
	for range 60000 {
		c := make([]uint32, 1+r.IntN(40))
		for i := range c {
			c[i] = uint32(r.IntN(5))
			if r.IntN(60) == 0 {
				c[i] = r.Uint32()
			}
		}
		records, at, want := slowReplay(c)
		l, end, e := disk.Replay(c)
		if e != want || end != at || !same(l, records) {
			t.Fatalf("Replay(%v): %v, %d, %v, want %v, %d, %v", c, l, end, e, records, at, want)
		}
		if e == api.OK {
			good++
		}
	}
	if good < 10000 || good > 59000 {
		t.Errorf("%d of the disks were good", good)
	}
}

// P17.3

func TestAppend(t *testing.T) {
	for _, c := range []struct {
		words, rec []uint32
		want       []api.Write
	}{
		{[]uint32{0, 0, 0, 0, 0}, []uint32{7, 8}, []api.Write{{At: 1, Word: 7}, {At: 2, Word: 8}, {At: 3, Word: 0}, {At: 0, Word: 2}}},
		{[]uint32{0, 5, 5, 5}, []uint32{7, 8}, []api.Write{{At: 1, Word: 7}, {At: 2, Word: 8}, {At: 3, Word: 0}, {At: 0, Word: 2}}},
		{[]uint32{0, 0, 0}, []uint32{7, 8}, []api.Write{{At: 1, Word: 7}, {At: 2, Word: 8}, {At: 0, Word: 2}}},
		{[]uint32{0, 9}, []uint32{0}, []api.Write{{At: 1, Word: 0}, {At: 0, Word: 1}}},
		{[]uint32{1, 9, 0, 4, 4}, []uint32{6}, []api.Write{{At: 3, Word: 6}, {At: 4, Word: 0}, {At: 2, Word: 1}}},
		{[]uint32{1, 9, 0, 4, 4}, []uint32{6, math.MaxUint32}, []api.Write{{At: 3, Word: 6}, {At: 4, Word: math.MaxUint32}, {At: 2, Word: 2}}},
	} {
		if l := appended(t, c.words, c.rec); !slices.Equal(l, c.want) {
			t.Errorf("Append(%v, %v): %v, want %v", c.words, c.rec, l, c.want)
		}
	}
}

// TestAppendFits: behind whatever is there, with words to spare, one word, none, and one too few.
func TestAppendFits(t *testing.T) {
	r := rand.New(rand.NewPCG(17, 3))
	for _, there := range [][]int{nil, {1}, {3, 2}, {api.MaxRecord, 1}, {api.MaxRecord, api.MaxRecord, api.MaxRecord}} {
		var records [][]uint32
		for _, n := range there {
			records = append(records, drawn(r, n))
		}
		old := lay(records...)
		for n := 1; n <= api.MaxRecord; n++ {
			rec := drawn(r, n)
			for _, spare := range []int{0, 1, 2, 9} {
				c := ended(old, append([]uint32{0}, drawn(r, n+spare)...)...)
				l := appended(t, c, rec)
				if want := slowAppend(len(c), len(old), rec); !slices.Equal(l, want) {
					t.Fatalf("Append(%v, %v): %v, want %v", c, rec, l, want)
				}
				tells(t, behind(t, c, l, len(l)), append(slices.Clone(records), rec), len(old)+1+n)
			}
			for few := range n {
				refusesAppend(t, ended(old, append([]uint32{0}, drawn(r, few)...)...), rec, api.ErrFull)
			}
			if len(old) > 0 { // the end is behind the last word
				refusesAppend(t, old, rec, api.ErrFull)
			}
		}
	}
}

// TestAppendGreatest: the greatest disk, filled to its last word.
func TestAppendGreatest(t *testing.T) {
	r := rand.New(rand.NewPCG(17, 4))
	c := make([]uint32, api.MaxCells)
	var records [][]uint32
	for end := 0; end < len(c); {
		rec := drawn(r, min(api.MaxRecord, len(c)-end-1))
		if left := len(c) - end - 1 - len(rec); left == 1 { // a length alone finds no record
			rec = rec[1:]
		}
		l := appended(t, c, rec)
		if want := slowAppend(len(c), end, rec); !slices.Equal(l, want) {
			t.Fatalf("at %d: %v, want %v", end, l, want)
		}
		c, records, end = behind(t, c, l, len(l)), append(records, rec), end+1+len(rec)
		tells(t, c, records, end)
	}
	refusesAppend(t, c, []uint32{1}, api.ErrFull)
}

func TestAppendRefusesRecords(t *testing.T) {
	full := []uint32{1, 9}
	bad := []uint32{math.MaxUint32, 0}
	for _, c := range [][]uint32{make([]uint32, 5), make([]uint32, api.MaxCells), full, bad, nil, make([]uint32, api.MaxCells+1)} {
		refusesAppend(t, c, nil, api.ErrSize)
		refusesAppend(t, c, []uint32{}, api.ErrSize)
		for _, n := range []int{api.MaxRecord + 1, api.MaxRecord + 2, 2 * api.MaxRecord, 256, 257, api.MaxCells, 1 << 16, 1<<16 + 1} {
			refusesAppend(t, c, make([]uint32, n), api.ErrSize)
		}
	}
}

// TestAppendOrder: what Replay refuses comes ahead of a lack of room.
func TestAppendOrder(t *testing.T) {
	great := make([]uint32, api.MaxRecord)
	refusesAppend(t, nil, great, api.ErrSize)
	refusesAppend(t, []uint32{math.MaxUint32}, great, api.ErrForm)
	refusesAppend(t, []uint32{2, 9}, great, api.ErrForm)
	refusesAppend(t, []uint32{1, 9, 1}, great, api.ErrForm)
	refusesAppend(t, []uint32{1, 9, api.MaxRecord + 1}, []uint32{1}, api.ErrForm)
	refusesAppend(t, []uint32{1, 9, 0}, great, api.ErrFull)
	refusesAppend(t, []uint32{0}, []uint32{1}, api.ErrFull)
}

// TestAppendDrawn: whatever words there are, Append is as Replay says.
func TestAppendDrawn(t *testing.T) {
	r := rand.New(rand.NewPCG(17, 5))
	for range 30000 {
		c := make([]uint32, 1+r.IntN(30))
		for i := range c {
			c[i] = uint32(r.IntN(4))
		}
		rec := drawn(r, 1+r.IntN(8))
		_, end, want := slowReplay(c)
		if want == api.OK && len(c)-end < 1+len(rec) {
			want = api.ErrFull
		}
		l, e := disk.Append(c, rec)
		if e != want || e != api.OK && len(l) != 0 {
			t.Fatalf("Append(%v, %v): %v, %v, want %v", c, rec, l, e, want)
		}
		if e == api.OK && !slices.Equal(l, slowAppend(len(c), end, rec)) {
			t.Fatalf("Append(%v, %v): %v, want %v", c, rec, l, slowAppend(len(c), end, rec))
		}
	}
}

// What comes of it.

// TestCut: behind each number of the writes, on disks whose other words look like records, or like none.
func TestCut(t *testing.T) {
	r := rand.New(rand.NewPCG(17, 6))
	for range 4000 {
		records := [][]uint32{drawn(r, 1+r.IntN(4)), drawn(r, 1+r.IntN(4))}[:r.IntN(3)]
		old, rec := lay(records...), drawn(r, 1+r.IntN(6))
		c := ended(old, append([]uint32{0}, drawn(r, len(rec)+r.IntN(4))...)...)
		l := appended(t, c, rec)
		for k := range l {
			tells(t, behind(t, c, l, k), records, len(old))
		}
		tells(t, behind(t, c, l, len(l)), append(slices.Clone(records), rec), len(old)+1+len(rec))
	}
}

// TestCutOften: many cut ones, one after the other, and whole ones between them.
func TestCutOften(t *testing.T) {
	r := rand.New(rand.NewPCG(17, 7))
	for _, words := range []int{1, 2, 3, 7, 50, 300, api.MaxCells} {
		c := make([]uint32, words)
		var records [][]uint32
		end, full := 0, 0
		for full < 20 {
			rec := drawn(r, 1+r.IntN(min(words, 12)))
			l, e := disk.Append(c, rec)
			if e == api.ErrFull {
				full++
				continue
			}
			if e != api.OK {
				t.Fatalf("Append(%v, %v): %v", c, rec, e)
			}
			k := r.IntN(len(l) + 1)
			c = behind(t, c, l, k)
			if k == len(l) {
				records, end = append(records, rec), end+1+len(rec)
			}
			tells(t, c, records, end)
		}
	}
}

// Lists that are handed in, and lists that come out.

// handed: a list with room behind it, and a check that neither has changed.
func handed(t *testing.T, l []uint32) ([]uint32, func()) {
	whole := append(slices.Clone(l), 101, 102, 103, 104)
	was := slices.Clone(whole)
	return whole[:len(l)], func() {
		t.Helper()
		if !slices.Equal(whole, was) {
			t.Fatalf("a list that was handed in is %v, was %v", whole, was)
		}
	}
}

func TestListsStay(t *testing.T) {
	for _, words := range [][]uint32{{1, 9, 0, 4, 4}, {0, 0, 0}, {1, 9}, {1, 9, 1, 8}, {5, 9}, {0}} {
		for _, record := range [][]uint32{{6}, {6, 7}, {6, 7, 8, 9}} {
			c, stays := handed(t, words)
			rec, recStays := handed(t, record)
			disk.Replay(c)
			disk.Append(c, rec)
			stays()
			recStays()
		}
	}
}

// spoil a list, its spare room too.
func spoil(l []uint32) {
	l = l[:cap(l)]
	for i := range l {
		l[i] = 77
	}
}

func TestNewMemory(t *testing.T) {
	words := []uint32{2, 9, 8, 1, 7, 3, 6, 5, 4, 0, 1, 1}
	want := [][]uint32{{9, 8}, {7}, {6, 5, 4}}
	c, stays := handed(t, words)
	first, _ := replayed(t, c)
	second, _ := replayed(t, c)
	for i := range first {
		spoil(first[i])
		if !same(first[i+1:], want[i+1:]) {
			t.Fatalf("the record %d shares memory with another: %v", i, first)
		}
	}
	for i := len(second) - 1; i > 0; i-- {
		spoil(second[i])
		if !same(second[:i], want[:i]) {
			t.Fatalf("the record %d shares memory with another: %v", i, second)
		}
	}
	stays()
	rec := []uint32{3}
	l, again := appended(t, c, rec), appended(t, c, rec)
	l[0].Word = 5
	rec[0] = 4
	if again[0].Word != 3 {
		t.Errorf("the writes are shared: %v", again)
	}
	third, _ := replayed(t, c)
	c[1], c[4] = 50, 51
	if !same(third, want) {
		t.Errorf("the records are shared with the disk: %v", third)
	}
}

// TestManyAtOnce: what is answered hangs on the arguments alone.
func TestManyAtOnce(t *testing.T) {
	c, rec := []uint32{1, 9, 2, 8, 8, 0, 4, 4, 4}, []uint32{3, 2}
	want := slowAppend(len(c), 5, rec)
	var wg sync.WaitGroup
	for range 8 {
		wg.Go(func() {
			for range 500 {
				l, e := disk.Append(c, rec)
				records, end, f := disk.Replay(c)
				if e != api.OK || f != api.OK || end != 5 || !slices.Equal(l, want) || !same(records, [][]uint32{{9}, {8, 8}}) {
					t.Errorf("%v, %v; %v, %d, %v", l, e, records, end, f)
					return
				}
			}
		})
	}
	wg.Wait()
}
