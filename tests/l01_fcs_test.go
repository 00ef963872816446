package tests

import (
	"hash/crc32"
	"math"
	"strings"
	"testing"

	"loop.example/g00351/impl"
)

const (
	all16 = 0xFFFF
	all32 = 0xFFFFFFFF
)

// A width is what both widths of a sum are asked for alike.
type width struct {
	name  string
	wide  bool
	size  int
	rule  int64
	top   int64
	sumOf func(int64, string) int64
}

func widths() []width {
	return []width{
		{"16", false, 2, 0x8408, all16, impl.Fcs16},
		{"32", true, 4, 0xEDB88320, all32, impl.Fcs32},
	}
}

// sumByRule is the document's words, bit by bit, with no table.
func sumByRule(sum, rule int64, text string) int64 {
	for at := 0; at < len(text); at++ {
		sum ^= int64(text[at])
		for range 8 {
			bit := sum & 1
			sum >>= 1
			if bit == 1 {
				sum ^= rule
			}
		}
	}
	return sum
}

func tailByRule(w width, text string) string {
	n := w.top ^ sumByRule(w.top, w.rule, text)
	out := ""
	for range w.size {
		out += string([]byte{byte(n & 255)})
		n >>= 8
	}
	return out
}

func everyByte() string {
	all := make([]byte, 256)
	for at := range all {
		all[at] = byte(at)
	}
	return string(all)
}

// sumTexts has plain texts, and those whose bytes are no characters, or several to one.
func sumTexts() []string {
	return []string{
		"", "a", "\x00", "\x00\x00\x00", "\x7e\x7d", "123456789", "\x80", "\xff", "\xff\x03\xc0\x21",
		"gr\u00fc\u00dfe", "\u20ac\u20ac", "\U0001f600x", "\ufffd", "\ufffd\x80\ufffd",
		"\xe2\x82", "\xe2\x82\x61", "\xf0\x9f\x98", "\xc0\x80", "\xed\xa0\x80", "\xf4\x90\x80\x80", "\x80\x80\xbf",
		everyByte(), everyByte() + everyByte(),
	}
}

func longText(size int) string {
	return strings.Repeat(everyByte(), size/256+1)[:size]
}

func turned(text string, at int, by byte) string {
	b := []byte(text)
	b[at] ^= by
	return string(b)
}

func TestSumsThatAreKnown(t *testing.T) {
	if got := impl.Fcs16(all16, "123456789") ^ all16; got != 0x906E {
		t.Errorf("16: %x", got)
	}
	if got := impl.Fcs16(0, "123456789"); got != 0x2189 {
		t.Errorf("16 from 0: %x", got)
	}
	if got := impl.Fcs32(all32, "123456789") ^ all32; got != 0xCBF43926 {
		t.Errorf("32: %x", got)
	}
	for _, text := range sumTexts() {
		if got := impl.Fcs32(all32, text) ^ all32; got != int64(crc32.ChecksumIEEE([]byte(text))) {
			t.Errorf("32 of %q: %x", text, got)
		}
	}
}

func TestSumIsByTheRule(t *testing.T) {
	for _, w := range widths() {
		for _, text := range sumTexts() {
			for _, sum := range []int64{0, 1, 0x80, 0xFF, 0x100, 0x1234, 0x8000, w.top - 1, w.top} {
				if got, want := w.sumOf(sum, text), sumByRule(sum, w.rule, text); got != want {
					t.Errorf("%s from %x of %q: got %x, want %x", w.name, sum, text, got, want)
				}
			}
		}
	}
}

func TestEachNarrowSumIsByTheRule(t *testing.T) {
	for sum := range int64(all16 + 1) {
		if got, want := impl.Fcs16(sum, "\xa5"), sumByRule(sum, 0x8408, "\xa5"); got != want {
			t.Fatalf("from %x: got %x, want %x", sum, got, want)
		}
	}
}

func TestSumOfEachByteIsByTheRule(t *testing.T) {
	for _, w := range widths() {
		for b := range 256 {
			text := string([]byte{byte(b)})
			if got, want := w.sumOf(w.top, text), sumByRule(w.top, w.rule, text); got != want {
				t.Errorf("%s of byte %x: got %x, want %x", w.name, b, got, want)
			}
		}
	}
}

// Promise 1, its first half. A cut may part the bytes of one character.
func TestSumGoesOnFromTextToText(t *testing.T) {
	for _, w := range widths() {
		for _, text := range sumTexts() {
			for _, sum := range []int64{0, 0x1D0F, w.top} {
				for cut := 0; cut <= len(text); cut++ {
					got := w.sumOf(w.sumOf(sum, text[:cut]), text[cut:])
					if want := w.sumOf(sum, text); got != want {
						t.Errorf("%s from %x of %q, cut at %d: got %x, want %x", w.name, sum, text, cut, got, want)
					}
				}
			}
		}
	}
}

func TestSumGoesOnByteByByte(t *testing.T) {
	for _, w := range widths() {
		for _, text := range append(sumTexts(), longText(impl.MaxBytes)) {
			sum := w.top
			for at := range len(text) {
				sum = w.sumOf(sum, text[at:at+1])
			}
			if want := w.sumOf(w.top, text); sum != want {
				t.Errorf("%s of %q: got %x, want %x", w.name, text, sum, want)
			}
		}
	}
}

func TestSumGoesOnBeyondMaxBytes(t *testing.T) {
	text := longText(impl.MaxBytes)
	for _, w := range widths() {
		got := w.sumOf(w.sumOf(w.top, text), text)
		if want := sumByRule(w.top, w.rule, text+text); got != want {
			t.Errorf("%s: got %x, want %x", w.name, got, want)
		}
	}
}

func TestSumOfTheEmptyTextIsItself(t *testing.T) {
	for _, w := range widths() {
		for _, sum := range []int64{0, 1, 0x8000, w.top - 1, w.top} {
			if got := w.sumOf(sum, ""); got != sum {
				t.Errorf("%s from %x: got %x", w.name, sum, got)
			}
		}
	}
}

func TestOtherSumsAreZero(t *testing.T) {
	for _, w := range widths() {
		for _, sum := range []int64{w.top + 1, w.top + 2, 2*w.top + 1, -1, -w.top, -w.top - 1, math.MaxInt64, math.MinInt64} {
			for _, text := range []string{"", "a", "\xff", longText(impl.MaxBytes)} {
				if got := w.sumOf(sum, text); got != 0 {
					t.Errorf("%s from %d of %d bytes: got %x", w.name, sum, len(text), got)
				}
			}
		}
	}
	if impl.Fcs32(all16+1, "a") != sumByRule(all16+1, 0xEDB88320, "a") {
		t.Error("a sum too great for 16 bits is right for 32")
	}
}

func TestSumOfLongTexts(t *testing.T) {
	for _, w := range widths() {
		for _, whole := range []string{longText(impl.MaxBytes + 1), strings.Repeat("\u20ac", impl.MaxBytes/3+1)[:impl.MaxBytes+1]} {
			longest := whole[:impl.MaxBytes]
			if got, want := w.sumOf(w.top, longest), sumByRule(w.top, w.rule, longest); got != want {
				t.Errorf("%s of MaxBytes: got %x, want %x", w.name, got, want)
			}
			for _, sum := range []int64{0, 1, w.top, w.top + 1, -1} {
				if got := w.sumOf(sum, whole); got != 0 {
					t.Errorf("%s from %d of one byte more: got %x", w.name, sum, got)
				}
			}
		}
	}
}

func TestTail(t *testing.T) {
	if got := impl.Tail("123456789", false); got != "\x6e\x90" {
		t.Errorf("%x", got)
	}
	if got := impl.Tail("123456789", true); got != "\x26\x39\xf4\xcb" {
		t.Errorf("wide: %x", got)
	}
	if got := impl.Tail("", false); got != "\x00\x00" {
		t.Errorf("of the empty text: %x", got)
	}
	if got := impl.Tail("", true); got != "\x00\x00\x00\x00" {
		t.Errorf("wide, of the empty text: %x", got)
	}
	for _, w := range widths() {
		for _, text := range append(sumTexts(), longText(impl.MaxBytes)) {
			if got, want := impl.Tail(text, w.wide), tailByRule(w, text); got != want {
				t.Errorf("%s of %q: got %x, want %x", w.name, text, got, want)
			}
		}
		if got := impl.Tail(longText(impl.MaxBytes+1), w.wide); got != "" {
			t.Errorf("%s of one byte too many: %x", w.name, got)
		}
	}
}

func TestTextWithItsTailIsGood(t *testing.T) {
	for _, w := range widths() {
		for _, text := range append(sumTexts(), longText(impl.MaxBytes-w.size)) {
			if !impl.Good(text+impl.Tail(text, w.wide), w.wide) {
				t.Errorf("%s of %q", w.name, text)
			}
		}
	}
}

// Promise 1, its second half.
func TestTextWithOneByteTurnedIsNotGood(t *testing.T) {
	for _, w := range widths() {
		for _, text := range sumTexts() {
			good := text + impl.Tail(text, w.wide)
			for at := range len(good) {
				for by := 1; by < 256; by++ {
					if impl.Good(turned(good, at, byte(by)), w.wide) {
						t.Errorf("%s of %q: byte %d turned by %x", w.name, text, at, by)
					}
				}
			}
		}
	}
}

func TestLongTextWithOneByteTurnedIsNotGood(t *testing.T) {
	for _, w := range widths() {
		text := longText(impl.MaxBytes - w.size)
		good := text + impl.Tail(text, w.wide)
		for at := 0; at < len(good); at += 7 {
			if impl.Good(turned(good, at, byte(1+at%255)), w.wide) {
				t.Errorf("%s: byte %d turned", w.name, at)
			}
		}
		for at := len(good) - w.size; at < len(good); at++ {
			if impl.Good(turned(good, at, 0xFF), w.wide) {
				t.Errorf("%s: byte %d of the tail turned", w.name, at)
			}
		}
	}
}

func TestTailOfTheOtherWidthOrOrderIsNotGood(t *testing.T) {
	text := "123456789"
	if impl.Good(text+impl.Tail(text, true), false) || impl.Good(text+impl.Tail(text, false), true) {
		t.Error("the other width")
	}
	if impl.Good(text+"\x90\x6e", false) || impl.Good(text+"\xcb\xf4\x39\x26", true) {
		t.Error("the highest byte first")
	}
	if impl.Good(text+"\x91\x6f", false) || impl.Good(text+"\xd9\xc6\x0b\x34", true) {
		t.Error("bits that are not turned")
	}
}

func TestGoodOfTextsShorterThanATail(t *testing.T) {
	for _, w := range widths() {
		for size := range w.size {
			for _, b := range []string{"\x00", "\xff", "x"} {
				if impl.Good(strings.Repeat(b, size), w.wide) {
					t.Errorf("%s: %d bytes of %q", w.name, size, b)
				}
			}
		}
	}
}

func TestGoodOfJustATail(t *testing.T) {
	if !impl.Good("\x00\x00", false) || !impl.Good("\x00\x00\x00\x00", true) {
		t.Error("the tail of the empty text is good")
	}
	if impl.Good("\x00\x01", false) || impl.Good("\xff\xff", false) {
		t.Error("two other bytes")
	}
	if impl.Good("\x00\x00\x00\x01", true) || impl.Good("\xff\xff\xff\xff", true) {
		t.Error("four other bytes")
	}
}

func TestGoodOfLongTexts(t *testing.T) {
	for _, w := range widths() {
		for size := impl.MaxBytes - 1; size <= impl.MaxBytes+w.size; size++ {
			text := longText(size - w.size)
			got := impl.Good(text+tailByRule(w, text), w.wide)
			if want := size <= impl.MaxBytes; got != want {
				t.Errorf("%s of %d bytes: got %v", w.name, size, got)
			}
		}
	}
}
