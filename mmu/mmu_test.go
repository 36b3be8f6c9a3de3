package mmu_test

import (
	"math"
	"slices"
	"testing"

	"keyhold/api"
	"keyhold/mmu"
)

// isBare: is it this error, without a place (OK: none)?
func isBare(err error, want api.Errno) bool {
	if want == api.OK {
		return err == nil
	}
	return err == error(want)
}

// wantWalk: Walk answers this.
func wantWalk(t *testing.T, why string, ram []int, space, at, to int, write bool, want api.Errno) {
	t.Helper()
	n, w, err := mmu.Walk(ram, space, at)
	if n != to || w != write || !isBare(err, want) {
		t.Errorf("%s: Walk(space %d, at %d): %d, %v, %v, want %d, %v, error %d", why, space, at, n, w, err, to, write, want)
	}
}

// wantLook: Look answers this.
func wantLook(t *testing.T, why string, ram []int, tlb []api.Entry, space, at int, write bool, word int, then []api.Entry, want api.Errno) {
	t.Helper()
	n, l, err := mmu.Look(ram, tlb, space, at, write)
	if n != word || !slices.Equal(l, then) || !isBare(err, want) {
		t.Errorf("%s: Look(%v, space %d, at %d, %v): %d, %v, %v, want %d, %v, error %d", why, tlb, space, at, write, n, l, err, word, then, want)
	}
}

// memory has so many frames, in which nothing is but these words.
func memory(frames int, words map[int]int) []int {
	ram := make([]int, 16*frames)
	for at, v := range words {
		ram[at] = v
	}
	return ram
}

// D1: of each frame both entries; none of others.
func TestEntry(t *testing.T) {
	for to := range 24 {
		if w, err := mmu.Entry(to, false); w != 0x8000+to || err != nil {
			t.Errorf("Entry(%d, false): %x, %v", to, w, err)
		}
		if w, err := mmu.Entry(to, true); w != 0xc000+to || err != nil {
			t.Errorf("Entry(%d, true): %x, %v", to, w, err)
		}
	}
	for _, to := range []int{math.MinInt, -1, 24, 25, 1023, 1024, 0x4000, 65536, math.MaxInt} {
		for _, write := range []bool{false, true} {
			if w, err := mmu.Entry(to, write); w != 0 || !isBare(err, api.ErrRange) {
				t.Errorf("Entry(%d, %v): %x, %v, want ErrRange", to, write, w, err)
			}
		}
	}
}

// D1: an entry is one with 0x8000; its frame are its lowest ten bits.
func TestLeads(t *testing.T) {
	for e := range 65536 {
		to, write, ok := mmu.Leads(e)
		if e < 0x8000 && (to != 0 || write || ok) || e >= 0x8000 && (to != e%1024 || write != (e >= 0xc000) || !ok) {
			t.Fatalf("Leads(%x): %d, %v, %v", e, to, write, ok)
		}
	}
	for to := range 24 {
		for _, write := range []bool{false, true} {
			e, _ := mmu.Entry(to, write)
			if f, w, ok := mmu.Leads(e); f != to || w != write || !ok {
				t.Errorf("Leads(Entry(%d, %v)): %d, %v, %v", to, write, f, w, ok)
			}
		}
	}
}

// The document's examples.
func TestExamples(t *testing.T) {
	ram := memory(3, map[int]int{0: 0x8001, 17: 0xc002})
	wantWalk(t, "example", ram, 0, 19, 2, true, api.OK)
	wantLook(t, "example", ram, nil, 0, 19, true, 35, []api.Entry{{Space: 0, Page: 1, Frame: 2, Write: true}}, api.OK)
}

// D1: each address goes by its own two entries, whichever frames have them.
func TestWalkEachAddress(t *testing.T) {
	for _, f := range []struct{ space, table, page int }{{0, 1, 2}, {23, 22, 0}, {5, 0, 23}, {0, 23, 22}} {
		for page := range 256 {
			ram := memory(24, map[int]int{
				16*f.space + page/16: 0x8000 + f.table,
				16*f.table + page%16: 0x8000 + f.page,
			})
			for at := range 4096 {
				if at/16 == page {
					wantWalk(t, "there", ram, f.space, at, f.page, false, api.OK)
				} else {
					wantWalk(t, "elsewhere", ram, f.space, at, 0, false, api.ErrMap)
				}
			}
			if t.Failed() {
				return
			}
		}
	}
}

// D1: a space may be its own table and page: nothing asks for more than entries.
func TestWalkOneFrame(t *testing.T) {
	ram := memory(1, map[int]int{0: 0x8000, 15: 0xc000})
	wantWalk(t, "first page of the first table", ram, 0, 0, 0, false, api.OK)
	wantWalk(t, "last page of the first table", ram, 0, 255, 0, true, api.OK)
	wantWalk(t, "first page of the last table", ram, 0, 3840, 0, false, api.OK)
	wantWalk(t, "last page of the last table", ram, 0, 4095, 0, true, api.OK)
	wantWalk(t, "no page", ram, 0, 16, 0, false, api.ErrMap)
	wantWalk(t, "no table", ram, 0, 256, 0, false, api.ErrMap)
}

// D1: whether a page may be written stands in its own entry alone.
func TestWalkWrite(t *testing.T) {
	for _, c := range []struct {
		table, page int
		write       bool
	}{
		{0x8001, 0x8002, false},
		{0x8001, 0xc002, true},
		{0xc001, 0x8002, false},
		{0xc001, 0xc002, true},
	} {
		wantWalk(t, "bits", memory(3, map[int]int{0: c.table, 16: c.page}), 0, 0, 2, c.write, api.OK)
	}
}

// D1: what is no entry, or of a frame that isn't in ram; bits that have no meaning have none.
func TestWalkEntries(t *testing.T) {
	for _, c := range []struct {
		why  string
		w    int
		want api.Errno
	}{
		{"nothing", 0, api.ErrMap},
		{"a frame alone", 0x0001, api.ErrMap},
		{"a frame to be written alone", 0x4001, api.ErrMap},
		{"all but the highest bit", 0x7c01, api.ErrMap},
		{"the frame behind the last one", 0x8003, api.ErrMap},
		{"the frame behind the last one, to be written", 0xc003, api.ErrMap},
		{"a frame far off", 0x8101, api.ErrMap},
		{"the greatest frame", 0x83ff, api.ErrMap},
		{"all bits", 0xffff, api.ErrMap},
		{"a frame", 0x8002, api.OK},
		{"a frame, with bits above its ten", 0xbc02, api.OK},
	} {
		to := 2
		if c.want != api.OK {
			to = 0
		}
		wantWalk(t, "page: "+c.why, memory(3, map[int]int{0: 0x8001, 16: c.w}), 0, 0, to, false, c.want)
		wantWalk(t, "table: "+c.why, memory(3, map[int]int{0: c.w, 32: 0x8002}), 0, 0, to, false, c.want)
	}
	wantWalk(t, "the last frame of all", memory(24, map[int]int{0: 0x8017, 16 * 23: 0xc017}), 0, 0, 23, true, api.OK)
	wantWalk(t, "a table behind the last frame of all", memory(24, map[int]int{0: 0x8018}), 0, 0, 0, false, api.ErrMap)
	wantWalk(t, "a page behind the last frame of all", memory(24, map[int]int{0: 0x8001, 16: 0x8018}), 0, 0, 0, false, api.ErrMap)
}

// D1, D3: what is out of bounds, ahead of what isn't mapped, and of what is remembered.
func TestBounds(t *testing.T) {
	full := func(words int) []int {
		ram := make([]int, words)
		for n := range ram {
			ram[n] = 0xc000
		}
		return ram
	}
	for _, c := range []struct {
		why       string
		ram       []int
		space, at int
		want      api.Errno
	}{
		{"one frame", full(16), 0, 0, api.OK},
		{"all frames", full(384), 23, 4095, api.OK},
		{"the first address", full(32), 1, 0, api.OK},
		{"no ram", nil, 0, 0, api.ErrRange},
		{"a word alone", full(1), 0, 0, api.ErrRange},
		{"a word too few", full(31), 0, 0, api.ErrRange},
		{"a word too many", full(33), 0, 0, api.ErrRange},
		{"a word too many in all", full(385), 0, 0, api.ErrRange},
		{"a frame too many", full(400), 0, 0, api.ErrRange},
		{"far too many frames", full(1600), 0, 0, api.ErrRange},
		{"space below 0", full(32), -1, 0, api.ErrRange},
		{"space behind the last frame", full(32), 2, 0, api.ErrRange},
		{"space behind all frames", full(384), 24, 0, api.ErrRange},
		{"space least", full(32), math.MinInt, 0, api.ErrRange},
		{"space greatest", full(32), math.MaxInt, 0, api.ErrRange},
		{"at below 0", full(32), 0, -1, api.ErrRange},
		{"at behind the last address", full(32), 0, 4096, api.ErrRange},
		{"at a word that is none", full(32), 0, 65535, api.ErrRange},
		{"at least", full(32), 0, math.MinInt, api.ErrRange},
		{"at greatest", full(32), 0, math.MaxInt, api.ErrRange},
		{"nothing is mapped, at is wrong", make([]int, 32), 0, 4096, api.ErrRange},
		{"nothing is mapped, space is wrong", make([]int, 32), 2, 0, api.ErrRange},
		{"nothing is mapped", make([]int, 32), 1, 4095, api.ErrMap},
	} {
		wantWalk(t, c.why, c.ram, c.space, c.at, 0, c.want == api.OK, c.want)
		word, then := 0, []api.Entry(nil)
		known := []api.Entry{{Space: c.space, Page: c.at / 16, Write: false}}
		if c.want == api.OK {
			word, then = c.at%16, []api.Entry{{Space: c.space, Page: c.at / 16, Write: true}}
		}
		wantLook(t, c.why, c.ram, nil, c.space, c.at, true, word, then, c.want)
		if c.want == api.ErrRange {
			wantLook(t, c.why+", remembered", c.ram, known, c.space, c.at, true, 0, nil, api.ErrRange)
		}
	}
}

// Z1: words that are none lead nowhere, or to frames that are.
func TestWrongWords(t *testing.T) {
	for _, v := range []int{math.MinInt, math.MinInt + 0x8001, -1, -0x8000, 0x18001, math.MaxInt} {
		ram := make([]int, 48)
		for n := range ram {
			ram[n] = v
		}
		to, write, err := mmu.Walk(ram, 0, 0)
		if to < 0 || to > 2 || err != nil && (to != 0 || write || !isBare(err, api.ErrMap)) {
			t.Errorf("words %d: %d, %v, %v", v, to, write, err)
		}
	}
}

// some: what a core remembers of pages of two spaces (of page 5 of space 2 twice).
func some() []api.Entry {
	return []api.Entry{
		{Space: 1, Page: 5, Frame: 10, Write: true},
		{Space: 2, Page: 5, Frame: 11},
		{Space: 2, Page: 0, Frame: 12, Write: true},
		{Space: 2, Page: 5, Frame: 13, Write: true},
		{Space: 1, Page: 255, Frame: 14},
	}
}

// D2: the first of a page of a space.
func TestFind(t *testing.T) {
	for _, c := range []struct{ space, page, at int }{
		{1, 5, 0}, {2, 5, 1}, {2, 0, 2}, {1, 255, 4},
		{1, 0, -1}, {2, 255, -1}, {0, 5, -1}, {3, 5, -1}, {5, 1, -1}, {5, 2, -1},
		{1, -1, -1}, {2, -1, -1}, {-1, 5, -1}, {math.MinInt, math.MaxInt, -1},
	} {
		var want api.Entry
		if c.at >= 0 {
			want = some()[c.at]
		}
		if e, ok := mmu.Find(some(), c.space, c.page); e != want || ok != (c.at >= 0) {
			t.Errorf("Find(%d, %d): %v, %v, want %v", c.space, c.page, e, ok, want)
		}
	}
	if e, ok := mmu.Find(nil, 0, 0); e != (api.Entry{}) || ok {
		t.Errorf("Find in nothing: %v, %v", e, ok)
	}
	// What is all 0 is an entry, too.
	if e, ok := mmu.Find([]api.Entry{{}}, 0, 0); e != (api.Entry{}) || !ok {
		t.Errorf("Find of space 0, page 0: %v, %v", e, ok)
	}
}

// kept: those of some with these numbers.
func kept(l ...int) []api.Entry {
	var out []api.Entry
	for _, n := range l {
		out = append(out, some()[n])
	}
	return out
}

// D2: what is left, in its order.
func TestDrop(t *testing.T) {
	for _, c := range []struct {
		space, page int
		want        []api.Entry
	}{
		{1, 5, kept(1, 2, 3, 4)},
		{2, 5, kept(0, 2, 4)},
		{2, 0, kept(0, 1, 3, 4)},
		{1, 255, kept(0, 1, 2, 3)},
		{1, 0, some()},
		{0, 5, some()},
		{5, 2, some()},
		{1, -1, kept(1, 2, 3)},
		{2, -1, kept(0, 4)},
		{2, math.MinInt, kept(0, 4)},
		{0, -1, some()},
		{-1, -1, some()},
		{2, math.MaxInt, some()},
	} {
		if l := mmu.Drop(some(), c.space, c.page); !slices.Equal(l, c.want) {
			t.Errorf("Drop(%d, %d): %v, want %v", c.space, c.page, l, c.want)
		}
	}
	if l := mmu.Drop(nil, 1, -1); len(l) != 0 {
		t.Errorf("Drop from nothing: %v", l)
	}
	if l := mmu.Drop(some()[:1], 1, 5); len(l) != 0 {
		t.Errorf("Drop of all there is: %v", l)
	}
	// Below 0 all pages are meant, those too that are none.
	odd := []api.Entry{{Space: 1, Page: -1}, {Space: 1, Page: -2}, {Space: 2, Page: -1}}
	if l := mmu.Drop(odd, 1, -1); !slices.Equal(l, odd[2:]) {
		t.Errorf("Drop of pages below 0: %v", l)
	}
}

// D2: the newest one stands last, once; of too many the oldest are forgotten.
func TestFill(t *testing.T) {
	e := func(space, page int) api.Entry { return api.Entry{Space: space, Page: page, Frame: 20, Write: true} }
	four := kept(0, 1, 2, 4)
	for _, c := range []struct {
		why  string
		tlb  []api.Entry
		e    api.Entry
		want []api.Entry
	}{
		{"into nothing", nil, e(0, 0), []api.Entry{e(0, 0)}},
		{"the fourth", kept(0, 1, 2), e(3, 5), append(kept(0, 1, 2), e(3, 5))},
		{"the fifth", four, e(3, 5), append(kept(1, 2, 4), e(3, 5))},
		{"the fifth, of a known space", four, e(2, 7), append(kept(1, 2, 4), e(2, 7))},
		{"of a page that is known: the first", four, e(1, 5), append(kept(1, 2, 4), e(1, 5))},
		{"of a page that is known: in the middle", four, e(2, 0), append(kept(0, 1, 4), e(2, 0))},
		{"of a page that is known: the last", four, e(1, 255), append(kept(0, 1, 2), e(1, 255))},
		{"of a page that is known twice", some(), e(2, 5), append(kept(0, 2, 4), e(2, 5))},
		{"among more than there may be", some(), e(3, 3), append(kept(2, 3, 4), e(3, 3))},
		{"among more than there may be, known", some(), e(1, 5), append(kept(2, 3, 4), e(1, 5))},
		{"a page below 0: all of its space go", some(), e(2, -1), append(kept(0, 4), e(2, -1))},
		{"a page below 0 of another space", four, e(3, -2), append(kept(1, 2, 4), e(3, -2))},
	} {
		if l := mmu.Fill(c.tlb, c.e); !slices.Equal(l, c.want) {
			t.Errorf("%s: Fill(%v, %v): %v, want %v", c.why, c.tlb, c.e, l, c.want)
		}
	}
}

// D2: the very entry that is there already comes to the end, too.
func TestFillAgain(t *testing.T) {
	l := mmu.Fill(kept(0, 1, 2), some()[0])
	if !slices.Equal(l, kept(1, 2, 0)) {
		t.Errorf("Fill of what is known: %v", l)
	}
}

// mapped: space 0 has in table 1 page 0 (frame 2, to be read) and page 1 (frame 3, to be written), in table 4 page 255 (frame 5, to be written).
func mapped() []int {
	return memory(6, map[int]int{0: 0x8001, 15: 0x8004, 16: 0x8002, 17: 0xc003, 79: 0xc005})
}

// D3: with nothing remembered it goes by the tables, and that is remembered.
func TestLookByTables(t *testing.T) {
	first := api.Entry{Page: 0, Frame: 2}
	second := api.Entry{Page: 1, Frame: 3, Write: true}
	last := api.Entry{Page: 255, Frame: 5, Write: true}
	for at := range 16 {
		wantLook(t, "read", mapped(), nil, 0, at, false, 32+at, []api.Entry{first}, api.OK)
		wantLook(t, "write", mapped(), nil, 0, at, true, 0, nil, api.ErrRight)
		wantLook(t, "read", mapped(), nil, 0, 16+at, false, 48+at, []api.Entry{second}, api.OK)
		wantLook(t, "write", mapped(), nil, 0, 16+at, true, 48+at, []api.Entry{second}, api.OK)
		wantLook(t, "write at the end", mapped(), nil, 0, 4080+at, true, 80+at, []api.Entry{last}, api.OK)
		wantLook(t, "no page", mapped(), nil, 0, 32+at, false, 0, nil, api.ErrMap)
		wantLook(t, "no table", mapped(), nil, 0, 256+at, true, 0, nil, api.ErrMap)
		wantLook(t, "no page, with others remembered", mapped(), some(), 0, 32+at, true, 0, nil, api.ErrMap)
	}
	wantLook(t, "beside others", mapped(), kept(0, 1, 2), 0, 17, true, 49, append(kept(0, 1, 2), second), api.OK)
	wantLook(t, "beside four others", mapped(), kept(0, 1, 2, 4), 0, 17, true, 49, append(kept(1, 2, 4), second), api.OK)
	wantLook(t, "beside too many others", mapped(), some(), 0, 17, false, 49, append(kept(2, 3, 4), second), api.OK)
	wantLook(t, "beside others, not to be written", mapped(), kept(0, 1), 0, 1, true, 0, nil, api.ErrRight)
	other := []api.Entry{{Space: 1, Page: 1, Frame: 4}}
	wantLook(t, "beside this page of another space", mapped(), other, 0, 17, true, 49, append(other, second), api.OK)
}

// D3: what is remembered is what is told, and stays remembered in its order, whatever the tables say.
func TestLookByMemory(t *testing.T) {
	tlb := []api.Entry{
		{Space: 1, Page: 0, Frame: 1},
		{Space: 0, Page: 0, Frame: 4, Write: true},
		{Space: 0, Page: 1, Frame: 5},
		{Space: 0, Page: 200, Frame: 3, Write: true},
		{Space: 0, Page: 0, Frame: 2},
	}
	wantLook(t, "written by what is remembered first", mapped(), tlb, 0, 7, true, 71, tlb, api.OK)
	wantLook(t, "read", mapped(), tlb, 0, 18, false, 82, tlb, api.OK)
	wantLook(t, "not to be written", mapped(), tlb, 0, 18, true, 0, nil, api.ErrRight)
	wantLook(t, "no longer in tables", mapped(), tlb, 0, 3215, true, 63, tlb, api.OK)
	wantLook(t, "of another space", mapped(), tlb, 1, 15, false, 31, tlb, api.OK)
	wantLook(t, "the last page", mapped(), []api.Entry{{Page: 255, Frame: 1}}, 0, 4095, false, 31, []api.Entry{{Page: 255, Frame: 1}}, api.OK)
}

// Z1: remembered frames that are none.
func TestLookWrongFrames(t *testing.T) {
	for _, f := range []int{math.MinInt, -1, 6, math.MaxInt} {
		tlb := []api.Entry{{Page: 0, Frame: f}}
		wantLook(t, "a frame that is none", mapped(), tlb, 0, 3, false, f*16+3, tlb, api.OK)
	}
}

// die: numbers that look drawn, the same each time.
type die uint64

func (d *die) n(most int) int {
	*d = *d*6364136223846793005 + 1442695040888963407
	return int(uint64(*d>>33) % uint64(most))
}

// drawn: a memory in which many words are entries.
func drawn(d *die) []int {
	ram := make([]int, 16*8)
	for range 100 {
		ram[d.n(len(ram))] = 0x8000 + d.n(2)*0x4000 + d.n(9)
	}
	return ram
}

// Of the whole, item 1: what is remembered of tables makes no difference: a core that remembers all along is told what one is that never does, and what it remembers is what Walk tells.
func TestMemoryMakesNoDifference(t *testing.T) {
	d := die(3)
	told, wrong := 0, 0
	for range 200 {
		ram := drawn(&d)
		var tlb []api.Entry
		for range 300 {
			space, at, write := d.n(3), d.n(16)*256+d.n(48), d.n(2) == 0
			a, then, errA := mmu.Look(ram, tlb, space, at, write)
			b, _, errB := mmu.Look(ram, nil, space, at, write)
			if a != b || errA != errB {
				t.Fatalf("space %d, at %d, %v: %d, %v with %v, %d, %v without", space, at, write, a, errA, tlb, b, errB)
			}
			if errA != nil {
				wrong++
				continue
			}
			told++
			tlb = then
			checkKnown(t, ram, tlb)
		}
	}
	if told < 1000 || wrong < 1000 {
		t.Errorf("%d words, %d errors: too few of one", told, wrong)
	}
}

// checkKnown: what is remembered is what Walk tells, of each page once.
func checkKnown(t *testing.T, ram []int, tlb []api.Entry) {
	t.Helper()
	if len(tlb) > api.MaxTlb {
		t.Fatalf("%d are remembered", len(tlb))
	}
	for n, e := range tlb {
		to, write, err := mmu.Walk(ram, e.Space, 16*e.Page)
		if to != e.Frame || write != e.Write || err != nil {
			t.Fatalf("%v is remembered, Walk tells %d, %v, %v", e, to, write, err)
		}
		if other, ok := mmu.Find(tlb[n+1:], e.Space, e.Page); ok {
			t.Fatalf("%v and %v are remembered of one page", e, other)
		}
	}
}

// Of the whole, item 1: when a table changes, and the page is dropped, the others being kept, nothing differs either.
func TestDropMakesNoDifference(t *testing.T) {
	d := die(5)
	for range 200 {
		ram := drawn(&d)
		ram[0], ram[1] = 0x8002, 0x8003
		var tlb []api.Entry
		for range 100 {
			page := d.n(32)
			if d.n(4) == 0 {
				ram[32+page] = 0x8000 + d.n(2)*0x4000 + d.n(8)
				tlb = mmu.Drop(tlb, 0, page)
				if d.n(4) == 0 {
					tlb = mmu.Drop(tlb, 0, -1)
				}
			}
			at, write := 16*page+d.n(16), d.n(2) == 0
			a, then, errA := mmu.Look(ram, tlb, 0, at, write)
			b, _, errB := mmu.Look(ram, nil, 0, at, write)
			if a != b || errA != errB {
				t.Fatalf("at %d, %v: %d, %v with %v, %d, %v without", at, write, a, errA, tlb, b, errB)
			}
			if errA == nil {
				tlb = then
			}
		}
	}
}

// Z2: what is handed in stays as it was, behind its end, too; what comes out is memory of its own.
func TestMemory(t *testing.T) {
	calls := map[string]func(ram []int, tlb []api.Entry) []api.Entry{
		"Fill":                func(_ []int, tlb []api.Entry) []api.Entry { return mmu.Fill(tlb, api.Entry{Space: 7}) },
		"Fill of one known":   func(_ []int, tlb []api.Entry) []api.Entry { return mmu.Fill(tlb, some()[0]) },
		"Drop":                func(_ []int, tlb []api.Entry) []api.Entry { return mmu.Drop(tlb, 1, 5) },
		"Drop of nothing":     func(_ []int, tlb []api.Entry) []api.Entry { return mmu.Drop(tlb, 7, -1) },
		"Drop of a space":     func(_ []int, tlb []api.Entry) []api.Entry { return mmu.Drop(tlb, 1, -1) },
		"Look by tables":      func(ram []int, tlb []api.Entry) []api.Entry { _, l, _ := mmu.Look(ram, tlb, 0, 16, true); return l },
		"Look by memory":      func(ram []int, tlb []api.Entry) []api.Entry { _, l, _ := mmu.Look(ram, tlb, 2, 80, false); return l },
		"Look without rights": func(ram []int, tlb []api.Entry) []api.Entry { _, l, _ := mmu.Look(ram, tlb, 0, 0, true); return l },
	}
	for why, call := range calls {
		for many := range 6 {
			ram, tlb := mapped(), some()
			first := call(ram[:96:96], tlb[:many])
			if !slices.Equal(ram, mapped()) || !slices.Equal(tlb, some()) {
				t.Fatalf("%s of %d: what was handed in is now %v, %v", why, many, ram, tlb)
			}
			was := slices.Clone(first)
			first = first[:cap(first)]
			for n := range first {
				first[n] = api.Entry{Space: -9, Page: -9, Frame: -9}
			}
			if !slices.Equal(tlb, some()) {
				t.Fatalf("%s of %d: its answer is what was handed in", why, many)
			}
			if again := call(ram, tlb[:many]); !slices.Equal(again, was) {
				t.Fatalf("%s of %d: %v, then %v", why, many, was, again)
			}
		}
	}
}

// Z2: what stands behind a list is not read: a frame, or an entry, that is only there in memory is none.
func TestBehindTheEnd(t *testing.T) {
	ram := memory(3, map[int]int{0: 0x8001, 16: 0x8002})
	wantWalk(t, "a page behind the end", ram[:32], 0, 0, 0, false, api.ErrMap)
	wantWalk(t, "a table behind the end", ram[:16], 0, 0, 0, false, api.ErrMap)
	wantWalk(t, "a space behind the end", ram[:32], 2, 0, 0, false, api.ErrRange)
	wantWalk(t, "no whole frames", ram[:47], 0, 0, 0, false, api.ErrRange)
	if e, ok := mmu.Find(some()[:2], 2, 0); e != (api.Entry{}) || ok {
		t.Errorf("Find behind the end: %v, %v", e, ok)
	}
}
