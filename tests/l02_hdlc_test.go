package tests

import (
	"math"
	"slices"
	"strings"
	"testing"
	"unsafe"

	"loop.example/g00351/impl"
)

const (
	heldMost = impl.MaxFrame + 4
	mapFull  = 1<<32 - 1
)

// frameMaps has maps of no bit, of single bits at both ends, of some, and of all 32.
func frameMaps() []int64 {
	return []int64{0, 1, 1 << 17, 1 << 31, 0x000A0000, 0x80000001, 0x55555555, mapFull - 1, mapFull}
}

func wrongMaps() []int64 {
	return []int64{-1, math.MinInt64, -mapFull, 1 << 32, 1<<32 + 1, 1 << 40, math.MaxInt64}
}

func isMapped(b byte, accm int64) bool {
	return b < 32 && accm&(1<<b) != 0
}

func stuffByRule(text string, accm int64) string {
	out := ""
	for _, b := range []byte(text) {
		if b == 0x7E || b == 0x7D || isMapped(b, accm) {
			out += string([]byte{0x7D, b ^ 0x20})
		} else {
			out += string([]byte{b})
		}
	}
	return out
}

func frameByRule(text string, accm int64, wide bool) string {
	w := widths()[0]
	if wide {
		w = widths()[1]
	}
	return "\x7e" + stuffByRule(text+tailByRule(w, text), accm) + "\x7e"
}

// deframeByRule is the document's words, one after the other, with no states but the Deframer's own.
func deframeByRule(d impl.Deframer, text string) (impl.Deframer, []impl.Found) {
	var found []impl.Found
	for _, b := range []byte(text) {
		switch {
		case b == 0x7E && !d.In:
			d.In = true
		case b == 0x7E:
			if d.Esc {
				found = append(found, impl.Found{Kind: impl.FrAbort})
			} else if d.Text != "" || d.Long {
				found = append(found, foundByRule(d))
			}
			d.Esc, d.Long, d.Text = false, false, ""
		case !d.In, isMapped(b, d.Accm):
		case b == 0x7D && !d.Esc:
			d.Esc = true
		default:
			if d.Esc {
				b ^= 0x20
			}
			d.Esc = false
			if len(d.Text) == heldMost {
				d.Long = true
			} else {
				d.Text += string([]byte{b})
			}
		}
	}
	return d, found[:min(len(found), 400)]
}

func foundByRule(d impl.Deframer) impl.Found {
	tail := 2
	if d.Wide {
		tail = 4
	}
	switch {
	case d.Long:
		return impl.Found{Kind: impl.FrLong}
	case len(d.Text) < tail+1:
		return impl.Found{Kind: impl.FrShort}
	case !impl.Good(d.Text, d.Wide):
		return impl.Found{Kind: impl.FrBad}
	}
	return impl.Found{Kind: impl.FrGood, Text: d.Text[:len(d.Text)-tail]}
}

// chance is a row of numbers that is the same at each run.
type chance struct{ n uint64 }

func (c *chance) below(top int) int {
	c.n = c.n*6364136223846793005 + 1442695040888963407
	return int(c.n >> 33 % uint64(top))
}

// lineBytes has mostly bytes that mean something to a Deframer.
func (c *chance) lineBytes(size int) string {
	of := []byte{0x7E, 0x7E, 0x7D, 0x7D, 0x5E, 0x5D, 0x00, 0x11, 0x1F, 0x20, 0x31, 0x80, 0x9D, 0xFE, 0xFF, 'a', 'b', 'c'}
	out := make([]byte, size)
	for at := range out {
		out[at] = of[c.below(len(of))]
	}
	return string(out)
}

// frameTexts has texts of that many bytes: plain ones, such as must be escaped, and all kinds of byte.
func frameTexts(size int) []string {
	return []string{
		strings.Repeat("a", size),
		strings.Repeat("\x7e\x7d", size)[:size],
		strings.Repeat("\x11\x00\x1f\x20", size)[:size],
		longText(size + 128)[128:],
	}
}

func wantDeframe(t *testing.T, what string, d impl.Deframer, text string, after impl.Deframer, found ...impl.Found) {
	t.Helper()
	got := impl.Deframe(d, text)
	if got.Code != impl.OK || got.Deframer != after || !slices.Equal(got.Found, found) {
		t.Errorf("%s: %#v of %q:\n got %#v\nwant %#v %#v", what, d, text, got, after, found)
	}
}

func TestStuffIsByTheRule(t *testing.T) {
	for _, accm := range frameMaps() {
		for b := range 256 {
			text := string([]byte{byte(b)})
			if got, want := impl.Stuff(text, accm), stuffByRule(text, accm); got != want {
				t.Errorf("%x of byte %x: got %x, want %x", accm, b, got, want)
			}
		}
		for _, text := range append(sumTexts(), frameTexts(500)...) {
			if got, want := impl.Stuff(text, accm), stuffByRule(text, accm); got != want {
				t.Errorf("%x of %q: got %x, want %x", accm, text, got, want)
			}
		}
	}
}

func TestStuffAtTheEdgesOfAMap(t *testing.T) {
	for _, c := range []struct {
		text string
		accm int64
		want string
	}{
		{"", 0, ""},
		{"", mapFull, ""},
		{"\x00\x1f\x20\x7d\x7e\x80\xff", 0, "\x00\x1f\x20\x7d\x5d\x7d\x5e\x80\xff"},
		{"\x00\x1f\x20\x7d\x7e\x80\xff", mapFull, "\x7d\x20\x7d\x3f\x20\x7d\x5d\x7d\x5e\x80\xff"},
		{"\x1e\x1f\x20\x3f\x5f\x9f\xdf", 1 << 31, "\x1e\x7d\x3f\x20\x3f\x5f\x9f\xdf"},
		{"\x00\x01\x20\x40\x80\xa0", 1, "\x7d\x20\x01\x20\x40\x80\xa0"},
	} {
		if got := impl.Stuff(c.text, c.accm); got != c.want {
			t.Errorf("%x of %q: got %x, want %x", c.accm, c.text, got, c.want)
		}
	}
}

// Promise 2: a flag is never within what is stuffed, nor is what the line may put in of its own.
func TestWhatIsStuffedHasNoFlagAndNothingMapped(t *testing.T) {
	for _, accm := range frameMaps() {
		for _, text := range append(sumTexts(), frameTexts(500)...) {
			for _, b := range []byte(impl.Stuff(text, accm)) {
				if b == 0x7E || isMapped(b, accm) {
					t.Fatalf("%x of %q has a byte %x", accm, text, b)
				}
			}
		}
	}
}

func TestAMapThatIsNone(t *testing.T) {
	for _, accm := range wrongMaps() {
		if got := impl.Stuff("a\x7e", accm); got != "" {
			t.Errorf("stuffed by %d: %q", accm, got)
		}
		for _, wide := range []bool{false, true} {
			if got := impl.Frame("a", accm, wide); got != "" {
				t.Errorf("framed by %d: %q", accm, got)
			}
		}
		for _, in := range []bool{false, true} {
			d := impl.Deframer{Accm: accm, In: in}
			if impl.DeframerRight(d) {
				t.Errorf("right: %+v", d)
			}
			if got := impl.Deframe(d, "\x7ea\x7e"); got.Code != impl.ErrForm || got.Found != nil || got.Deframer != (impl.Deframer{}) {
				t.Errorf("%+v: %+v", d, got)
			}
		}
	}
}

func TestStuffUpToMostBytes(t *testing.T) {
	for _, text := range frameTexts(impl.MaxBytes) {
		if got, want := impl.Stuff(text, mapFull), stuffByRule(text, mapFull); got != want {
			t.Errorf("%d bytes: got %d, want %d", len(text), len(got), len(want))
		}
	}
	for _, text := range frameTexts(impl.MaxBytes + 1) {
		if got := impl.Stuff(text, 0); got != "" {
			t.Errorf("%d bytes: got %d", len(text), len(got))
		}
	}
}

func TestFrameIsByTheRule(t *testing.T) {
	for _, wide := range []bool{false, true} {
		for _, accm := range frameMaps() {
			for _, size := range []int{1, 2, 3, 255, 256, impl.MaxFrame - 1, impl.MaxFrame} {
				for _, text := range frameTexts(size) {
					if got, want := impl.Frame(text, accm, wide), frameByRule(text, accm, wide); got != want {
						t.Errorf("%v %x of %q: got %x, want %x", wide, accm, text, got, want)
					}
				}
			}
		}
	}
	if got := impl.Frame("123456789", 0, false); got != "\x7e123456789\x6e\x90\x7e" {
		t.Errorf("narrow: %x", got)
	}
	if got := impl.Frame("123456789", 0, true); got != "\x7e123456789\x26\x39\xf4\xcb\x7e" {
		t.Errorf("wide: %x", got)
	}
}

// The bytes of the Tail are stuffed as those of the text are.
func TestFrameStuffsItsTail(t *testing.T) {
	seen := 0
	for b := range 256 {
		text := string([]byte{byte(b)})
		tail := impl.Tail(text, false)
		if !strings.ContainsAny(tail, "\x7d\x7e") {
			continue
		}
		seen++
		if got := impl.Frame(text, 0, false); strings.Count(got, "\x7e") != 2 || got != frameByRule(text, 0, false) {
			t.Errorf("of %x with the tail %x: %x", text, tail, got)
		}
	}
	if seen == 0 {
		t.Error("no tail was to be stuffed")
	}
}

func TestFrameOfTooFewAndTooMany(t *testing.T) {
	for _, wide := range []bool{false, true} {
		for _, size := range []int{0, impl.MaxFrame + 1, impl.MaxFrame + 2, impl.MaxBytes, impl.MaxBytes + 1} {
			if got := impl.Frame(strings.Repeat("a", size), 0, wide); got != "" {
				t.Errorf("%d bytes: %q", size, got)
			}
		}
	}
}

func TestDeframerRight(t *testing.T) {
	most := strings.Repeat("x", heldMost)
	for _, c := range []struct {
		d    impl.Deframer
		want bool
	}{
		{impl.Deframer{}, true},
		{impl.Deframer{Wide: true, Accm: mapFull}, true},
		{impl.Deframer{Accm: mapFull + 1}, false},
		{impl.Deframer{Accm: -1}, false},
		{impl.Deframer{In: true}, true},
		{impl.Deframer{In: true, Esc: true, Long: true, Text: most}, true},
		{impl.Deframer{In: true, Long: true}, true},
		{impl.Deframer{In: true, Wide: true, Text: most}, true},
		{impl.Deframer{In: true, Text: most + "x"}, false},
		{impl.Deframer{In: true, Wide: true, Text: most + "x"}, false},
		{impl.Deframer{In: true, Text: strings.Repeat("x", impl.MaxBytes+1)}, false},
		{impl.Deframer{In: true, Accm: -1}, false},
		{impl.Deframer{In: true, Accm: mapFull + 1, Text: "x"}, false},
		{impl.Deframer{Esc: true}, false},
		{impl.Deframer{Long: true}, false},
		{impl.Deframer{Text: "x"}, false},
		{impl.Deframer{Text: most}, false},
		{impl.Deframer{Esc: true, Long: true, Text: "x"}, false},
	} {
		if got := impl.DeframerRight(c.d); got != c.want {
			t.Errorf("%+v: %v", c.d, got)
		}
		got := impl.Deframe(c.d, "a\x7e")
		if (got.Code == impl.OK) != c.want || !c.want && got.Code != impl.ErrForm {
			t.Errorf("%+v: code %d", c.d, got.Code)
		}
		if !c.want && (got.Deframer != impl.Deframer{} || got.Found != nil) {
			t.Errorf("%+v: beside the code %+v", c.d, got)
		}
	}
}

// Promise 2: each text, of each length, by each map.
func TestWhatIsFramedIsFoundAndNothingElse(t *testing.T) {
	for _, wide := range []bool{false, true} {
		for _, accm := range frameMaps() {
			for size := 1; size <= impl.MaxFrame; size++ {
				for _, text := range frameTexts(size) {
					d := impl.Deframer{Wide: wide, Accm: accm}
					after := impl.Deframer{Wide: wide, Accm: accm, In: true}
					wantDeframe(t, "framed", d, impl.Frame(text, accm, wide), after, impl.Found{Kind: impl.FrGood, Text: text})
				}
			}
		}
	}
}

// A line may put mapped bytes anywhere, behind an escape too, and what is framed is found nevertheless.
func TestMappedBytesOnTheLineDoNothing(t *testing.T) {
	for _, wide := range []bool{false, true} {
		frame := impl.Frame("a\x11\x7e\x7d\x13b", 0x000A0000, wide)
		d := impl.Deframer{Wide: wide, Accm: 0x000A0000}
		after := impl.Deframer{Wide: wide, Accm: 0x000A0000, In: true}
		for at := range len(frame) + 1 {
			text := frame[:at] + "\x11\x13\x11" + frame[at:]
			wantDeframe(t, "with mapped bytes", d, text, after, impl.Found{Kind: impl.FrGood, Text: "a\x11\x7e\x7d\x13b"})
		}
	}
	wantDeframe(t, "mapped behind an escape", impl.Deframer{In: true, Esc: true, Accm: 1 << 31, Text: "x"}, "\x1f",
		impl.Deframer{In: true, Esc: true, Accm: 1 << 31, Text: "x"})
	wantDeframe(t, "not mapped", impl.Deframer{In: true, Accm: 1 << 31}, "\x1e\x1f\x20\x7d\x1e\x7d\x20",
		impl.Deframer{In: true, Accm: 1 << 31, Text: "\x1e\x20\x3e\x00"})
	wantDeframe(t, "no map", impl.Deframer{In: true}, "\x00\x1f\x7d\x00\x7d\x1f", impl.Deframer{In: true, Text: "\x00\x1f\x20\x3f"})
}

// wantParts holds what comes at once against what comes in parts.
func wantParts(t *testing.T, what string, d impl.Deframer, parts []string) {
	t.Helper()
	once := impl.Deframe(d, strings.Join(parts, ""))
	var found []impl.Found
	for _, part := range parts {
		x := impl.Deframe(d, part)
		if x.Code != impl.OK || !impl.DeframerRight(x.Deframer) {
			t.Fatalf("%s: %#v of %q: %#v", what, d, part, x)
		}
		d = x.Deframer
		found = append(found, x.Found...)
	}
	if d != once.Deframer || !slices.Equal(found, once.Found) {
		t.Errorf("%s:\n got %#v %#v\nwant %#v %#v", what, d, found, once.Deframer, once.Found)
	}
}

// Promise 2: in parts or at once.
func TestPartsAreFoundAsAtOnce(t *testing.T) {
	for _, wide := range []bool{false, true} {
		for _, accm := range []int64{0, 0x000A0001, mapFull} {
			for _, size := range []int{1, 2, 5, 40, impl.MaxFrame - 1, impl.MaxFrame} {
				for _, text := range frameTexts(size) {
					d := impl.Deframer{Wide: wide, Accm: accm}
					frame := impl.Frame(text, accm, wide)
					for cut := range len(frame) + 1 {
						wantParts(t, "two parts", d, []string{frame[:cut], frame[cut:]})
					}
					wantParts(t, "byte by byte", d, eachByte(frame))
				}
			}
		}
	}
}

func eachByte(text string) []string {
	var out []string
	for at := range len(text) {
		out = append(out, text[at:at+1])
	}
	return out
}

func TestSeveralFramesInParts(t *testing.T) {
	for _, wide := range []bool{false, true} {
		for _, accm := range []int64{0, mapFull} {
			d := impl.Deframer{Wide: wide, Accm: accm}
			text := "noise\x7d" + impl.Frame("one\x7e", accm, wide) + impl.Frame("two", accm, wide)[1:] + "\x7e\x7eab\x7e" +
				"abcdefgh\x7eabcdefgh\x7d\x7e" + impl.Frame("\x00", accm, wide) + "\x7dz\x7d"
			want := []impl.Found{{Kind: impl.FrGood, Text: "one\x7e"}, {Kind: impl.FrGood, Text: "two"}, {Kind: impl.FrShort},
				{Kind: impl.FrBad}, {Kind: impl.FrAbort}, {Kind: impl.FrGood, Text: "\x00"}}
			wantDeframe(t, "several", d, text, impl.Deframer{Wide: wide, Accm: accm, In: true, Esc: true, Text: "Z"}, want...)
			for cut := range len(text) + 1 {
				wantParts(t, "two parts", d, []string{text[:cut], text[cut:]})
			}
			wantParts(t, "byte by byte", d, eachByte(text))
		}
	}
}

func TestOutsideAFrame(t *testing.T) {
	for b := range 256 {
		after := impl.Deframer{Accm: 1, In: b == 0x7E}
		wantDeframe(t, "outside", impl.Deframer{Accm: 1}, string([]byte{byte(b)}), after)
	}
	wantDeframe(t, "no bytes", impl.Deframer{}, "", impl.Deframer{})
	wantDeframe(t, "flags alone", impl.Deframer{}, "\x7e\x7e\x7e\x7e", impl.Deframer{In: true})
	wantDeframe(t, "mapped alone", impl.Deframer{Accm: mapFull}, "\x7e\x00\x1f\x7e", impl.Deframer{Accm: mapFull, In: true})
}

func TestEachByteInsideAFrame(t *testing.T) {
	for b := range 256 {
		text := string([]byte{byte(b)})
		if b != 0x7E && b != 0x7D {
			wantDeframe(t, "inside", impl.Deframer{In: true, Text: "x"}, text, impl.Deframer{In: true, Text: "x" + text})
		}
		if b != 0x7E {
			behind := "x" + string([]byte{byte(b) ^ 0x20})
			wantDeframe(t, "behind an escape", impl.Deframer{In: true, Esc: true, Text: "x"}, text, impl.Deframer{In: true, Text: behind})
		}
	}
	wantDeframe(t, "an escape", impl.Deframer{In: true, Text: "x"}, "\x7d", impl.Deframer{In: true, Esc: true, Text: "x"})
	wantDeframe(t, "two escapes", impl.Deframer{In: true}, "\x7d\x7d", impl.Deframer{In: true, Text: "\x5d"})
	wantDeframe(t, "three escapes", impl.Deframer{In: true}, "\x7d\x7d\x7d", impl.Deframer{In: true, Esc: true, Text: "\x5d"})
}

func TestFoundAbort(t *testing.T) {
	in := impl.Deframer{In: true}
	abort := impl.Found{Kind: impl.FrAbort}
	wantDeframe(t, "at once", in, "\x7d\x7e", in, abort)
	wantDeframe(t, "behind bytes", in, "abcd\x7d\x7e", in, abort)
	wantDeframe(t, "carried over", impl.Deframer{In: true, Esc: true}, "\x7e", in, abort)
	good := "ab" + impl.Tail("ab", false)
	wantDeframe(t, "ahead of good", impl.Deframer{In: true, Esc: true, Text: good}, "\x7e", in, abort)
	wantDeframe(t, "ahead of short", impl.Deframer{In: true, Esc: true, Text: "a"}, "\x7e", in, abort)
	wantDeframe(t, "ahead of bad", impl.Deframer{In: true, Esc: true, Text: "abcdef"}, "\x7e", in, abort)
	wantDeframe(t, "ahead of long", impl.Deframer{In: true, Esc: true, Long: true, Text: "abcdef"}, "\x7e\x7e", in, abort)
	wantDeframe(t, "and goes on", in, "ab\x7d\x7e"+good+"\x7e", in, abort, impl.Found{Kind: impl.FrGood, Text: "ab"})
}

func TestFoundShort(t *testing.T) {
	for _, w := range widths() {
		in := impl.Deframer{In: true, Wide: w.wide}
		for size := 1; size <= w.size; size++ {
			wantDeframe(t, "short", in, strings.Repeat("a", size)+"\x7e", in, impl.Found{Kind: impl.FrShort})
		}
		wantDeframe(t, "a tail alone", in, impl.Tail("", w.wide)+"\x7e", in, impl.Found{Kind: impl.FrShort})
		wantDeframe(t, "one more", in, strings.Repeat("a", w.size+1)+"\x7e", in, impl.Found{Kind: impl.FrBad})
		wantDeframe(t, "one more, good", in, "a"+impl.Tail("a", w.wide)+"\x7e", in, impl.Found{Kind: impl.FrGood, Text: "a"})
	}
}

func TestFoundBad(t *testing.T) {
	for _, w := range widths() {
		in := impl.Deframer{In: true, Wide: w.wide}
		sent := "hello" + impl.Tail("hello", w.wide)
		for at := range len(sent) {
			wantDeframe(t, "one bit", in, impl.Stuff(turned(sent, at, 1), 0)+"\x7e", in, impl.Found{Kind: impl.FrBad})
		}
		other := "hello" + impl.Tail("hello", !w.wide)
		wantDeframe(t, "of the other width", in, impl.Stuff(other, 0)+"\x7e", in, impl.Found{Kind: impl.FrBad})
	}
}

func TestFoundLong(t *testing.T) {
	for _, w := range widths() {
		in := impl.Deframer{In: true, Wide: w.wide}
		most := frameTexts(heldMost - w.size)[0]
		most += impl.Tail(most, w.wide)
		line := impl.Stuff(most, 0)
		wantDeframe(t, "the most", in, line, impl.Deframer{In: true, Wide: w.wide, Text: most})
		wantDeframe(t, "the most, good", in, line+"\x7e", in, impl.Found{Kind: impl.FrGood, Text: most[:heldMost-w.size]})
		for _, more := range []string{"z", "\x7dz", "\x7d\x7d", "zz\x7dzz"} {
			wantDeframe(t, "one more", in, line+more, impl.Deframer{In: true, Wide: w.wide, Long: true, Text: most})
			wantDeframe(t, "one more, ended", in, line+more+"\x7e\x7e", in, impl.Found{Kind: impl.FrLong})
		}
		wantDeframe(t, "an escape more", in, line+"\x7d", impl.Deframer{In: true, Wide: w.wide, Esc: true, Text: most})
		wantDeframe(t, "an escape more, ended", in, line+"\x7d\x7e", in, impl.Found{Kind: impl.FrAbort})
		wantDeframe(t, "a mapped one more", impl.Deframer{In: true, Wide: w.wide, Accm: 1}, line+"\x00\x7e",
			impl.Deframer{In: true, Wide: w.wide, Accm: 1}, impl.Found{Kind: impl.FrGood, Text: most[:heldMost-w.size]})
		for _, text := range []string{"", "a", "abcdef", "hello" + impl.Tail("hello", w.wide)} {
			long := impl.Deframer{In: true, Wide: w.wide, Long: true, Text: text}
			wantDeframe(t, "ahead of all", long, "\x7e\x7e", in, impl.Found{Kind: impl.FrLong})
			wantDeframe(t, "still long", long, "q", impl.Deframer{In: true, Wide: w.wide, Long: true, Text: text + "q"})
		}
	}
}

func TestDeframeIsByTheRule(t *testing.T) {
	c := &chance{n: 1}
	for range 20000 {
		d := impl.Deframer{Wide: c.below(2) == 0, Accm: frameMaps()[c.below(len(frameMaps()))]}
		if c.below(3) > 0 {
			d.In, d.Esc, d.Long = true, c.below(2) == 0, c.below(4) == 0
			d.Text = c.lineBytes(c.below(8))
		}
		if d.In && c.below(4) == 0 {
			d.Text = c.lineBytes(heldMost - c.below(4))
		}
		text := c.lineBytes(c.below(40))
		after, found := deframeByRule(d, text)
		wantDeframe(t, "by the rule", d, text, after, found...)
	}
}

func TestNoMoreThanFourHundredAreTold(t *testing.T) {
	short, abort := impl.Found{Kind: impl.FrShort}, impl.Found{Kind: impl.FrAbort}
	for _, count := range []int{399, 400} {
		wantDeframe(t, "all told", impl.Deframer{}, "\x7e"+strings.Repeat("a\x7e", count)+"b",
			impl.Deframer{In: true, Text: "b"}, slices.Repeat([]impl.Found{short}, count)...)
	}
	told := slices.Repeat([]impl.Found{short}, 400)
	line := strings.Repeat("a\x7e", 400)
	in := impl.Deframer{In: true}
	for _, c := range []struct {
		more  string
		after impl.Deframer
	}{
		{"a\x7e", in},
		{"\x7d\x7e", in},
		{"abcdef\x7e", in},
		{"abcdef\x7e\x7dq\x7d", impl.Deframer{In: true, Esc: true, Text: "Q"}},
		{impl.Frame("good", 0, false), in},
		{strings.Repeat("a", heldMost+1) + "\x7e", in},
		{"a\x7e" + strings.Repeat("a", heldMost+1), impl.Deframer{In: true, Long: true, Text: strings.Repeat("a", heldMost)}},
		{strings.Repeat("a\x7e", 3000) + "bc", impl.Deframer{In: true, Text: "bc"}},
	} {
		wantDeframe(t, "not told", in, line+c.more, c.after, told...)
	}
	mixed := impl.Deframe(in, strings.Repeat("a\x7e\x7d\x7e", 300))
	if len(mixed.Found) != 400 || mixed.Found[0] != short || mixed.Found[399] != abort {
		t.Errorf("mixed: %d", len(mixed.Found))
	}
}

func TestDeframeUpToMostBytes(t *testing.T) {
	most := strings.Repeat("a", impl.MaxBytes-1) + "\x7e"
	wantDeframe(t, "the most", impl.Deframer{In: true}, most, impl.Deframer{In: true}, impl.Found{Kind: impl.FrLong})
	for _, d := range []impl.Deframer{{}, {In: true, Text: "x"}, {Accm: -1}, {Esc: true}} {
		got := impl.Deframe(d, most+"\x7e")
		if got.Code != impl.ErrSize || got.Found != nil || got.Deframer != (impl.Deframer{}) {
			t.Errorf("one more to %+v: %+v", d, got)
		}
	}
}

// sharesText asks whether a text lies within the memory of another one.
func sharesText(a, b string) bool {
	if a == "" || b == "" {
		return false
	}
	x, y := uintptr(unsafe.Pointer(unsafe.StringData(a))), uintptr(unsafe.Pointer(unsafe.StringData(b)))
	return x < y+uintptr(len(b)) && y < x+uintptr(len(a))
}

func TestFramesShareNoMemory(t *testing.T) {
	text := strings.Repeat("plain text ", 3)
	if sharesText(impl.Stuff(text, 0), text) {
		t.Error("what is stuffed shares memory")
	}
	d := impl.Deframer{In: true, Text: text}
	for _, line := range []string{"", "more", "\x7d"} {
		if sharesText(impl.Deframe(d, line).Deframer.Text, d.Text) {
			t.Errorf("a Deframer shares memory behind %q", line)
		}
	}
	line := impl.Frame(text, 0, false) + text
	got := impl.Deframe(impl.Deframer{}, line)
	if sharesText(got.Found[0].Text, line) || sharesText(got.Deframer.Text, line) {
		t.Error("what is found shares memory")
	}
	got.Found[0] = impl.Found{Kind: impl.FrBad}
	if again := impl.Deframe(impl.Deframer{}, line); again.Found[0] != (impl.Found{Kind: impl.FrGood, Text: text}) {
		t.Errorf("kept from call to call: %+v", again.Found)
	}
}
