// Package word: keys as numbers, words as text: see the document's chapter.
package word

import (
	"strings"

	"keyhold/api"
)

// Check says whether a key may be.
func Check(k api.Key) error {
	if k.Kind < api.None || k.Kind > api.Bell {
		return api.ErrKind
	}
	if k.Kind == api.None {
		if k != (api.Key{}) {
			return api.ErrRange
		}
		return nil
	}
	if !framesFit(k) {
		return api.ErrRange
	}
	if k.Rights < 0 || k.Rights > api.All {
		return api.ErrRight
	}
	if !badgeFits(k) {
		return api.ErrRange
	}
	return nil
}

// framesFit: Len is bounded ahead of the sum, which could wrap round else.
func framesFit(k api.Key) bool {
	if k.Len < 1 || k.Len > api.MaxFrames || k.Base < 0 || k.Base > api.MaxFrames-k.Len {
		return false
	}
	if k.Kind == api.Clay {
		return 0 <= k.Mark && k.Mark <= k.Len
	}
	return k.Len == 1 && k.Mark == 0
}

func badgeFits(k api.Key) bool {
	if k.Kind == api.Door || k.Kind == api.Bell {
		return 0 <= k.Badge && k.Badge <= api.MaxWord
	}
	return k.Badge == 0
}

// part: how many bits a part of a key has in its number, and how to come to it.
type part struct {
	bits uint
	get  func(k api.Key) int
	set  func(k *api.Key, v int)
}

// parts has them from the lowest bits on.
func parts() []part {
	return []part{
		{16, func(k api.Key) int { return k.Badge }, func(k *api.Key, v int) { k.Badge = v }},
		{3, func(k api.Key) int { return k.Rights }, func(k *api.Key, v int) { k.Rights = v }},
		{5, func(k api.Key) int { return k.Mark }, func(k *api.Key, v int) { k.Mark = v }},
		{5, func(k api.Key) int { return k.Len }, func(k *api.Key, v int) { k.Len = v }},
		{5, func(k api.Key) int { return k.Base }, func(k *api.Key, v int) { k.Base = v }},
		{4, func(k api.Key) int { return k.Kind }, func(k *api.Key, v int) { k.Kind = v }},
	}
}

// Pack is a key as a number.
func Pack(k api.Key) (uint64, error) {
	if err := Check(k); err != nil {
		return 0, err
	}
	var w uint64
	at := uint(0)
	for _, p := range parts() {
		w |= uint64(p.get(k)) << at
		at += p.bits
	}
	return w, nil
}

// Unpack is the key of a number.
func Unpack(w uint64) (api.Key, error) {
	var k api.Key
	for _, p := range parts() {
		p.set(&k, int(w&(1<<p.bits-1)))
		w >>= p.bits
	}
	// What is left above the highest part is in no key's number.
	if w != 0 || Check(k) != nil {
		return api.Key{}, api.ErrWord
	}
	return k, nil
}

// digits are the hexadecimal ones; wordDigits is how many a word has.
const (
	digits     = "0123456789abcdef"
	wordDigits = 4
)

// Hex writes words, four digits each, a blank between.
func Hex(l []int) (string, error) {
	if len(l) > api.MaxFrames*api.Words {
		return "", api.ErrRange
	}
	var b strings.Builder
	for i, v := range l {
		if v < 0 || v > api.MaxWord {
			return "", &api.Fault{At: i, Err: api.ErrWord}
		}
		if i > 0 {
			b.WriteByte(' ')
		}
		for shift := 4 * (wordDigits - 1); shift >= 0; shift -= 4 {
			b.WriteByte(digits[v>>shift&15])
		}
	}
	return b.String(), nil
}

// Unhex reads them.
func Unhex(s string) ([]int, error) {
	if len(s) > api.MaxText {
		return nil, api.ErrRange
	}
	if s == "" {
		return nil, nil
	}
	var l []int
	for i, t := range strings.Split(s, " ") {
		v, ok := readWord(t)
		if !ok {
			return nil, &api.Fault{At: i, Err: api.ErrWord}
		}
		l = append(l, v)
	}
	return l, nil
}

func readWord(t string) (int, bool) {
	if len(t) != wordDigits {
		return 0, false
	}
	v := 0
	for _, r := range t {
		d, ok := digit(r)
		if !ok {
			return 0, false
		}
		v = v*16 + d
	}
	return v, true
}

func digit(r rune) (int, bool) {
	switch {
	case '0' <= r && r <= '9':
		return int(r - '0'), true
	case 'a' <= r && r <= 'f':
		return int(r-'a') + 10, true
	}
	return 0, false
}
