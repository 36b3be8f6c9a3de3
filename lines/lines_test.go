package lines_test

import (
	"slices"
	"testing"

	"keyhold/lines"
)

func TestOf(t *testing.T) {
	for text, want := range map[string][]string{
		"": nil, "\n": {""}, "\n\n": {"", ""}, "a": {"a"}, "a\n": {"a"}, "a\n\n": {"a", ""},
		"\na": {"", "a"}, "a b\nc": {"a b", "c"}, "a b\nc\n": {"a b", "c"}, "a\r\nb": {"a\r", "b"}, " ": {" "},
	} {
		if got := lines.Of(text); !slices.Equal(got, want) {
			t.Errorf("Of(%q): %q, want %q", text, got, want)
		}
	}
}

func TestNumber(t *testing.T) {
	for word, want := range map[string]int{"0": 0, "1": 1, "9": 9, "10": 10, "405": 405, "65536": 65536, "99999": 99999} {
		if got, ok := lines.Number(word); !ok || got != want {
			t.Errorf("Number(%q): %d, %v", word, got, ok)
		}
	}
	for _, word := range []string{
		"", "00", "01", "00001", "100000", "000000", "-", "-1", "+1", " 1", "1 ", "1_0", "0x1", "1e1", "1.", "a", "/", ":", "1:", "/1",
		"\u0663", "1\u0663", "\uff11", "\xff", "1\x00", "99999999999999999999",
	} {
		if got, ok := lines.Number(word); ok || got != 0 {
			t.Errorf("Number(%q): %d, %v", word, got, ok)
		}
	}
}

func TestIsDigit(t *testing.T) {
	for r := rune(-1); r < 0x3000; r++ {
		if want := slices.Contains([]rune("0123456789"), r); lines.IsDigit(r) != want {
			t.Errorf("%q is a digit: not %v", r, want)
		}
	}
}
