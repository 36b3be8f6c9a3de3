package word_test

import (
	"math"
	"slices"
	"strings"
	"testing"

	"keyhold/api"
	"keyhold/word"
)

// isBare: is it this error, without a place (OK: none)?
func isBare(err error, want api.Errno) bool {
	if want == api.OK {
		return err == nil
	}
	return err == error(want)
}

// isFault: is it an *api.Fault with this error and place?
func isFault(err error, want api.Errno, at int) bool {
	f, ok := err.(*api.Fault)
	return ok && f.At == at && f.Err == error(want)
}

var keyCases = []struct {
	why  string
	key  api.Key
	want api.Errno
}{
	{"nothing", api.Key{}, api.OK},
	{"a page", api.Key{Kind: api.Page, Base: 3, Len: 1, Rights: 7}, api.OK},
	{"a bell, the last frame, the greatest badge", api.Key{Kind: api.Bell, Base: 23, Len: 1, Rights: 7, Badge: 65535}, api.OK},
	{"a door without rights and badge", api.Key{Kind: api.Door, Len: 1}, api.OK},
	{"clay of one frame", api.Key{Kind: api.Clay, Base: 23, Len: 1}, api.OK},
	{"clay of all frames, all used", api.Key{Kind: api.Clay, Len: 24, Mark: 24, Rights: 7}, api.OK},
	{"clay up to the end", api.Key{Kind: api.Clay, Base: 20, Len: 4, Mark: 2}, api.OK},

	{"kind below none", api.Key{Kind: -1}, api.ErrKind},
	{"kind above bell", api.Key{Kind: api.Bell + 1, Len: 1}, api.ErrKind},
	{"kind far off ahead of all else", api.Key{Kind: math.MaxInt, Base: -1, Rights: -1, Badge: -1}, api.ErrKind},

	{"none with a base", api.Key{Base: 1}, api.ErrRange},
	{"none with a len", api.Key{Len: 1}, api.ErrRange},
	{"none with a mark", api.Key{Mark: 1}, api.ErrRange},
	{"none with rights in bounds", api.Key{Rights: 1}, api.ErrRange},
	{"none with rights out of bounds", api.Key{Rights: 8}, api.ErrRange},
	{"none with a badge", api.Key{Badge: 1}, api.ErrRange},

	{"base below 0", api.Key{Kind: api.Page, Base: -1, Len: 1}, api.ErrRange},
	{"base behind the last frame", api.Key{Kind: api.Page, Base: 24, Len: 1}, api.ErrRange},
	{"base below 0, len making up for it", api.Key{Kind: api.Clay, Base: -1, Len: 25}, api.ErrRange},
	{"clay over the end", api.Key{Kind: api.Clay, Base: 20, Len: 5}, api.ErrRange},
	{"clay of more than all frames", api.Key{Kind: api.Clay, Len: 25}, api.ErrRange},
	{"clay of no frame", api.Key{Kind: api.Clay, Base: 2}, api.ErrRange},
	{"clay of less than no frame", api.Key{Kind: api.Clay, Base: 2, Len: -1, Mark: -1}, api.ErrRange},
	{"base and len wrapping round", api.Key{Kind: api.Clay, Base: math.MaxInt, Len: math.MaxInt}, api.ErrRange},
	{"len wrapping round", api.Key{Kind: api.Clay, Base: 1, Len: math.MaxInt}, api.ErrRange},
	{"base wrapping round", api.Key{Kind: api.Page, Base: math.MaxInt, Len: 1}, api.ErrRange},
	{"base least", api.Key{Kind: api.Page, Base: math.MinInt, Len: 1}, api.ErrRange},
	{"len least", api.Key{Kind: api.Clay, Len: math.MinInt}, api.ErrRange},

	{"a page of no frame", api.Key{Kind: api.Page}, api.ErrRange},
	{"a page of two frames", api.Key{Kind: api.Page, Len: 2}, api.ErrRange},
	{"a bell of two frames", api.Key{Kind: api.Bell, Len: 2}, api.ErrRange},
	{"a page with a mark", api.Key{Kind: api.Page, Len: 1, Mark: 1}, api.ErrRange},
	{"a page with a mark below 0", api.Key{Kind: api.Page, Len: 1, Mark: -1}, api.ErrRange},
	{"clay with a mark above len", api.Key{Kind: api.Clay, Len: 3, Mark: 4}, api.ErrRange},
	{"clay with a mark below 0", api.Key{Kind: api.Clay, Len: 3, Mark: -1}, api.ErrRange},

	{"rights below 0", api.Key{Kind: api.Page, Len: 1, Rights: -1}, api.ErrRight},
	{"rights above all", api.Key{Kind: api.Clay, Len: 1, Rights: 8}, api.ErrRight},
	{"rights ahead of the badge", api.Key{Kind: api.Door, Len: 1, Rights: 8, Badge: -1}, api.ErrRight},
	{"frames ahead of rights", api.Key{Kind: api.Door, Len: 0, Rights: 8}, api.ErrRange},
	{"mark ahead of rights", api.Key{Kind: api.Clay, Len: 1, Mark: 2, Rights: 8}, api.ErrRange},

	{"a door's badge below 0", api.Key{Kind: api.Door, Len: 1, Badge: -1}, api.ErrRange},
	{"a bell's badge too great", api.Key{Kind: api.Bell, Len: 1, Badge: 65536}, api.ErrRange},
	{"a page with a badge", api.Key{Kind: api.Page, Len: 1, Badge: 1}, api.ErrRange},
	{"clay with a badge", api.Key{Kind: api.Clay, Len: 1, Badge: 1}, api.ErrRange},
	{"a task with a badge", api.Key{Kind: api.Task, Len: 1, Badge: 1}, api.ErrRange},
}

// A1, and Pack's errors of A2.
func TestCheck(t *testing.T) {
	for _, c := range keyCases {
		if err := word.Check(c.key); !isBare(err, c.want) {
			t.Errorf("%s: Check(%v): %v, want error %d", c.why, c.key, err, c.want)
		}
		w, err := word.Pack(c.key)
		if !isBare(err, c.want) {
			t.Errorf("%s: Pack(%v): %v, want error %d", c.why, c.key, err, c.want)
		}
		if err != nil && w != 0 {
			t.Errorf("%s: Pack(%v): %d beside an error", c.why, c.key, w)
		}
	}
}

// A1: each kind but a Door and a Bell is without a badge.
func TestCheckBadgeByKind(t *testing.T) {
	for kind := api.Clay; kind <= api.Bell; kind++ {
		want := api.ErrRange
		if kind == api.Door || kind == api.Bell {
			want = api.OK
		}
		if err := word.Check(api.Key{Kind: kind, Len: 1, Badge: 9}); !isBare(err, want) {
			t.Errorf("kind %d with a badge: %v, want error %d", kind, err, want)
		}
	}
}

var packCases = []struct {
	key api.Key
	w   uint64
}{
	{api.Key{}, 0},
	{api.Key{Kind: api.Door, Base: 8, Len: 1, Rights: 3, Badge: 5}, 124571025413},
	{api.Key{Kind: api.Clay, Base: 1, Len: 16, Mark: 9, Rights: 7}, 1<<34 | 1<<29 | 16<<24 | 9<<19 | 7<<16},
	{api.Key{Kind: api.Clay, Base: 1, Len: 16, Mark: 8, Rights: 7}, 0x430470000},
	{api.Key{Kind: api.Clay, Len: 24, Mark: 24}, 1<<34 | 24<<24 | 24<<19},
	{api.Key{Kind: api.Bell, Base: 23, Len: 1, Rights: 7, Badge: 65535}, 8<<34 | 23<<29 | 1<<24 | 7<<16 | 65535},
	{api.Key{Kind: api.Page, Len: 1}, 2<<34 | 1<<24},
}

// A2: which bits are whose.
func TestPack(t *testing.T) {
	for _, c := range packCases {
		if w, err := word.Pack(c.key); w != c.w || err != nil {
			t.Errorf("Pack(%v): %d, %v, want %d", c.key, w, err, c.w)
		}
		if k, err := word.Unpack(c.w); k != c.key || err != nil {
			t.Errorf("Unpack(%d): %v, %v, want %v", c.w, k, err, c.key)
		}
	}
}

// everyKey calls of each key that may be, but that badges are only some.
func everyKey(f func(k api.Key)) {
	f(api.Key{})
	for base := range api.MaxFrames {
		for rights := range api.All + 1 {
			for kind := api.Page; kind <= api.Bell; kind++ {
				f(api.Key{Kind: kind, Base: base, Len: 1, Rights: rights})
			}
			for _, badge := range []int{1, 255, 256, 32768, 65535} {
				f(api.Key{Kind: api.Door, Base: base, Len: 1, Rights: rights, Badge: badge})
				f(api.Key{Kind: api.Bell, Base: base, Len: 1, Rights: rights, Badge: badge})
			}
			for n := 1; base+n <= api.MaxFrames; n++ {
				for mark := range n + 1 {
					f(api.Key{Kind: api.Clay, Base: base, Len: n, Mark: mark, Rights: rights})
				}
			}
		}
	}
}

// A2: each key has a number of its own, and comes back from it.
func TestPackEveryKey(t *testing.T) {
	seen := map[uint64]api.Key{}
	everyKey(func(k api.Key) {
		w, err := word.Pack(k)
		if err != nil {
			t.Fatalf("Pack(%v): %v", k, err)
		}
		if other, ok := seen[w]; ok {
			t.Fatalf("%v and %v have one number: %d", k, other, w)
		}
		seen[w] = k
		if back, err := word.Unpack(w); back != k || err != nil {
			t.Fatalf("Unpack(Pack(%v)): %v, %v", k, back, err)
		}
	})
}

// A2: numbers that are no key's.
func TestUnpackWrong(t *testing.T) {
	door := uint64(124571025413)
	cases := map[string]uint64{
		"no kind, a badge":         5,
		"no kind, a len":           1 << 24,
		"kind above bell":          9<<34 | 1<<24,
		"greatest kind":            15<<34 | 1<<24,
		"no frame":                 2 << 34,
		"two frames of a page":     2<<34 | 2<<24,
		"a page with a mark":       2<<34 | 1<<24 | 1<<19,
		"a page with a badge":      2<<34 | 1<<24 | 1,
		"a base behind all frames": 2<<34 | 24<<29 | 1<<24,
		"the greatest base":        2<<34 | 31<<29 | 1<<24,
		"clay over the end":        1<<34 | 20<<29 | 5<<24,
		"clay, mark above len":     1<<34 | 3<<24 | 4<<19,
		"a bit above the kind":     door | 1<<38,
		"the highest bit":          door | 1<<63,
		"the highest bit alone":    1 << 63,
		"all bits":                 math.MaxUint64,
	}
	for why, w := range cases {
		if k, err := word.Unpack(w); k != (api.Key{}) || !isBare(err, api.ErrWord) {
			t.Errorf("%s: Unpack(%d): %v, %v, want ErrWord", why, w, k, err)
		}
	}
}

// A2: each bit of a number counts: with another one it is another key's, or none's.
func TestUnpackBits(t *testing.T) {
	for _, c := range packCases {
		for bit := range 64 {
			w := c.w ^ 1<<bit
			k, err := word.Unpack(w)
			if err != nil {
				if k != (api.Key{}) || !isBare(err, api.ErrWord) {
					t.Errorf("Unpack(%d): %v, %v", w, k, err)
				}
				continue
			}
			if back, err := word.Pack(k); back != w || err != nil {
				t.Errorf("Unpack(%d): %v, whose number is %d, %v", w, k, back, err)
			}
		}
	}
}

// A3: words as text, and back.
func TestHex(t *testing.T) {
	cases := []struct {
		l []int
		s string
	}{
		{nil, ""},
		{[]int{}, ""},
		{[]int{0}, "0000"},
		{[]int{1, 65535}, "0001 ffff"},
		{[]int{0x0123, 0x4567, 0x89ab, 0xcdef}, "0123 4567 89ab cdef"},
		{[]int{0xf000, 0x0f00, 0x00f0, 0x000f}, "f000 0f00 00f0 000f"},
		{make([]int, 384), strings.Repeat("0000 ", 383) + "0000"},
	}
	for _, c := range cases {
		if s, err := word.Hex(c.l); s != c.s || err != nil {
			t.Errorf("Hex(%v): %q, %v, want %q", c.l, s, err, c.s)
		}
		if l, err := word.Unhex(c.s); !slices.Equal(l, c.l) || err != nil {
			t.Errorf("Unhex(%q): %v, %v, want %v", c.s, l, err, c.l)
		}
	}
}

// A3: each word comes back.
func TestHexEveryWord(t *testing.T) {
	for v := range api.MaxWord + 1 {
		s, err := word.Hex([]int{v})
		if len(s) != 4 || err != nil {
			t.Fatalf("Hex(%d): %q, %v", v, s, err)
		}
		if l, err := word.Unhex(s); !slices.Equal(l, []int{v}) || err != nil {
			t.Fatalf("Unhex(%q): %v, %v, want %d", s, l, err, v)
		}
	}
}

// A3: Hex's errors.
func TestHexWrong(t *testing.T) {
	cases := []struct {
		l  []int
		at int
	}{
		{[]int{-1}, 0},
		{[]int{65536}, 0},
		{[]int{0, 65535, 65536, -1}, 2},
		{[]int{7, -1, 65536}, 1},
		{[]int{1, 2, 3, math.MaxInt}, 3},
		{[]int{math.MinInt, 0}, 0},
		{append(make([]int, 383), -5), 383},
	}
	for _, c := range cases {
		if s, err := word.Hex(c.l); s != "" || !isFault(err, api.ErrWord, c.at) {
			t.Errorf("Hex(%v): %q, %v, want ErrWord at %d", c.l, s, err, c.at)
		}
	}
	long := make([]int, 385)
	long[0] = -1
	if s, err := word.Hex(long); s != "" || !isBare(err, api.ErrRange) {
		t.Errorf("Hex of 385 words: %q, %v, want ErrRange", s, err)
	}
}

// A3: Unhex's errors.
func TestUnhexWrong(t *testing.T) {
	cases := []struct {
		s  string
		at int
	}{
		{" ", 0},
		{"0", 0},
		{"000", 0},
		{"00000", 0},
		{"0001 ", 1},
		{" 0001", 0},
		{"0001  0002", 1},
		{"0001 00g0", 1},
		{"0001 FFFF", 1},
		{"0001 00F0 00f0 zzzz", 1},
		{"0001\t0002", 0},
		{"0001\n0002", 0},
		{"0001 ffff\n", 1},
		{"0x01", 0},
		{"-001", 0},
		{"+001", 0},
		{"00/0", 0},
		{"00:0", 0},
		{"00`0", 0},
		{"1_00", 0},
		{"00é", 0},
		{"\u0660\u0660", 0},
		{"\u0661\u0662\u0663\u0664", 0},
		{"1234 \xff\xff\xff\xff", 1},
		{"1234 00\x0000", 1},
		{strings.Repeat("beef ", 800), 800},
	}
	for _, c := range cases {
		if l, err := word.Unhex(c.s); len(l) != 0 || !isFault(err, api.ErrWord, c.at) {
			t.Errorf("Unhex(%q): %v, %v, want ErrWord at %d", c.s, l, err, c.at)
		}
	}
}

// A3: the bound of a text's bytes, ahead of what is wrong in it.
func TestUnhexLong(t *testing.T) {
	for _, s := range []string{strings.Repeat("beef ", 800) + "b", strings.Repeat(" ", 4001)} {
		if l, err := word.Unhex(s); len(l) != 0 || !isBare(err, api.ErrRange) {
			t.Errorf("Unhex of %d bytes: %v, %v, want ErrRange", len(s), l, err)
		}
	}
	l, err := word.Unhex(strings.Repeat("beef ", 799) + "beef")
	if len(l) != 800 || l[799] != 0xbeef || err != nil {
		t.Errorf("Unhex of 3999 bytes: %d words, %v", len(l), err)
	}
}

// Z2: what is handed in stays as it was; what comes out is the caller's.
func TestMemory(t *testing.T) {
	l := []int{1, 2, 3, -1}
	if s, err := word.Hex(l[:3]); s != "0001 0002 0003" || err != nil {
		t.Errorf("Hex of a piece: %q, %v", s, err)
	}
	if !slices.Equal(l, []int{1, 2, 3, -1}) {
		t.Errorf("Hex wrote into its list: %v", l)
	}
	a, _ := word.Unhex("0001 0002")
	a[0] = 9
	if b, _ := word.Unhex("0001 0002"); !slices.Equal(b, []int{1, 2}) {
		t.Errorf("Unhex keeps its list: %v", b)
	}
}

// Z1: whatever the parts are, there is an answer.
func TestCheckAllNumbers(t *testing.T) {
	ends := []int{math.MinInt, -1, 0, 1, 2, 24, math.MaxInt}
	for _, kind := range []int{math.MinInt, -1, 0, 1, 2, 7, 8, 9, math.MaxInt} {
		for _, base := range ends {
			for _, n := range ends {
				for _, mark := range ends {
					for _, badge := range ends {
						k := api.Key{Kind: kind, Base: base, Len: n, Mark: mark, Rights: 7, Badge: badge}
						w, err := word.Pack(k)
						if back, _ := word.Unpack(w); err == nil && back != k || err != nil && w != 0 {
							t.Fatalf("Pack(%v): %d, %v", k, w, err)
						}
					}
				}
			}
		}
	}
}
