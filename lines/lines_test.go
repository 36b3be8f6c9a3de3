package lines_test

import (
	"slices"
	"testing"

	"keyhold/api"
	"keyhold/lines"
)

func TestOf(t *testing.T) {
	for text, want := range map[string][]string{
		"": nil, "\n": {""}, "\n\n": {"", ""}, "a": {"a"}, "a\n": {"a"}, "a\n\n": {"a", ""},
		"\na": {"", "a"}, "a b\nc": {"a b", "c"}, "a b\nc\n": {"a b", "c"}, "a\r\nb": {"a\r", "b"}, " ": {" "},
	} {
		if got := lines.Of(text); !slices.Equal(got, want) {
			t.Errorf("Of(%q): %q, want %q", text, got, want)
		}
	}
}

func TestNumber(t *testing.T) {
	for word, want := range map[string]int{"0": 0, "1": 1, "9": 9, "10": 10, "405": 405, "65536": 65536, "99999": 99999} {
		if got, ok := lines.Number(word); !ok || got != want {
			t.Errorf("Number(%q): %d, %v", word, got, ok)
		}
	}
	for _, word := range []string{
		"", "00", "01", "00001", "100000", "000000", "-", "-1", "+1", " 1", "1 ", "1_0", "0x1", "1e1", "1.", "a", "/", ":", "1:", "/1",
		"\u0663", "1\u0663", "\uff11", "\xff", "1\x00", "99999999999999999999",
	} {
		if got, ok := lines.Number(word); ok || got != 0 {
			t.Errorf("Number(%q): %d, %v", word, got, ok)
		}
	}
}

// What a number is, who asks says; all words have to be one.
func TestNumbers(t *testing.T) {
	long := func(word string) (int, bool) { return len(word), len(word) > 1 }
	for _, c := range []struct {
		words  []string
		number func(word string) (int, bool)
		want   []int
	}{
		{nil, lines.Number, nil}, {[]string{"0", "99999", "7"}, lines.Number, []int{0, 99999, 7}}, {[]string{"ab", "abc"}, long, []int{2, 3}},
	} {
		if got, err := lines.Numbers(c.words, c.number); err != nil || !slices.Equal(got, c.want) {
			t.Errorf("Numbers(%q): %v, %v, want %v", c.words, got, err, c.want)
		}
	}
	for _, words := range [][]string{{""}, {"x"}, {"1", "2", "x"}, {"x", "1"}, {"1", "", "2"}, {"-"}} {
		if got, err := lines.Numbers(words, lines.Number); err != error(api.ErrWord) || got != nil {
			t.Errorf("Numbers(%q): %v, %v", words, got, err)
		}
	}
	if got, err := lines.Numbers([]string{"ab", "a"}, long); err != error(api.ErrWord) || got != nil {
		t.Errorf("Numbers: %v, %v", got, err)
	}
}

func TestIsDigit(t *testing.T) {
	for r := rune(-1); r < 0x3000; r++ {
		if want := slices.Contains([]rune("0123456789"), r); lines.IsDigit(r) != want {
			t.Errorf("%q is a digit: not %v", r, want)
		}
	}
}
