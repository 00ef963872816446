package tests

import (
	"fmt"
	"math"
	"slices"
	"strconv"
	"strings"
	"testing"

	"loop.example/g00351/impl"
)

const topSeq = int64(1)<<24 - 1

func fragRightByRule(f impl.Frag) bool {
	return f.Seq >= 0 && f.Seq < 256*256*256 && len(f.Text) <= 200
}

func fragBytesByRule(f impl.Frag) string {
	if !fragRightByRule(f) {
		return ""
	}
	first := 0
	if f.Begin {
		first += 128
	}
	if f.End {
		first += 64
	}
	return oneByte(first) + bytesByRule(f.Seq, 3) + f.Text
}

// fragReadByRule holds the text against the bytes of each Frag that it could be of.
func fragReadByRule(text string) impl.Frag {
	if len(text) < 4 {
		return impl.Frag{}
	}
	for flags := range 4 {
		f := impl.Frag{Seq: numberByRule(text[1:4]), Begin: flags&2 != 0, End: flags&1 != 0, Text: text[4:]}
		if fragBytesByRule(f) == text {
			return f
		}
	}
	return impl.Frag{}
}

// cutByRule takes piece by piece from the front of the text.
func cutByRule(text string, size, seq int64) []impl.Frag {
	if len(text) > 2000 || size < 1 || size > 200 || seq < 0 || seq > topSeq {
		return nil
	}
	out := []impl.Frag{{Seq: seq, Begin: true}}
	for _, b := range []byte(text) {
		last := &out[len(out)-1]
		if int64(len(last.Text)) == size {
			out = append(out, impl.Frag{Seq: last.Seq + 1})
			last = &out[len(out)-1]
		}
		last.Text += oneByte(int(b))
	}
	last := &out[len(out)-1]
	last.End = true
	if len(out) > 40 || last.Seq > topSeq {
		return nil
	}
	return out
}

func bundleRightByRule(b impl.Bundle) bool {
	if len(b.Links) < 1 || len(b.Links) > 8 || len(b.Parts) > 40 {
		return false
	}
	for _, seq := range b.Links {
		if seq < -1 || seq > topSeq {
			return false
		}
	}
	for at, f := range b.Parts {
		if !fragRightByRule(f) || at > 0 && b.Parts[at-1].Seq >= f.Seq {
			return false
		}
	}
	return true
}

// runAtWork is a run of the Parts, from one place up to another one, while they are gone through.
type runAtWork struct {
	parts    []impl.Frag
	gone     []bool
	from, to int
	before   int // where the run ahead begins
	least    int64
}

func (r *runAtWork) isThere(seq int64) bool {
	at := slices.IndexFunc(r.parts, func(f impl.Frag) bool { return f.Seq == seq })
	return at >= 0 && !r.gone[at]
}

func (r *runAtWork) wasInTheRunAhead(seq int64) bool {
	return slices.ContainsFunc(r.parts[r.before:r.from], func(f impl.Frag) bool { return f.Seq == seq })
}

func (r *runAtWork) cannotBecomeWhole() bool {
	first, last := r.parts[r.from], r.parts[r.to-1]
	if !first.Begin {
		ahead := first.Seq - 1
		if ahead < 0 || ahead <= r.least || r.isThere(ahead) || r.wasInTheRunAhead(ahead) {
			return true
		}
	}
	behind := last.Seq + 1
	return !last.End && (behind <= r.least || r.isThere(behind))
}

func (r *runAtWork) next() bool {
	r.before, r.from = r.from, r.to
	if r.from == len(r.parts) {
		return false
	}
	for r.to++; r.to < len(r.parts); r.to++ {
		ahead, that := r.parts[r.to-1], r.parts[r.to]
		if that.Seq != ahead.Seq+1 || ahead.End || that.Begin {
			break
		}
	}
	return true
}

func (r *runAtWork) goes() {
	for at := r.from; at < r.to; at++ {
		r.gone[at] = true
	}
}

func bundleHearByRule(b impl.Bundle, link int64, f impl.Frag) impl.BundleOut {
	if !bundleRightByRule(b) || !fragRightByRule(f) || link < 0 || link >= int64(len(b.Links)) {
		return impl.BundleOut{Code: impl.ErrForm}
	}
	if f.Seq <= b.Links[link] {
		return impl.BundleOut{Code: impl.ErrState}
	}
	out := impl.BundleOut{Bundle: impl.Bundle{Links: slices.Clone(b.Links)}}
	out.Bundle.Links[link] = f.Seq
	parts := slices.DeleteFunc(slices.Clone(b.Parts), func(x impl.Frag) bool { return x.Seq == f.Seq })
	parts = append(parts, f)
	slices.SortFunc(parts, func(x, y impl.Frag) int { return int(x.Seq - y.Seq) })
	r := &runAtWork{parts: parts, gone: make([]bool, len(parts)), least: slices.Min(out.Bundle.Links)}
	for r.next() {
		if parts[r.from].Begin && parts[r.to-1].End {
			out.Got = append(out.Got, joined(parts[r.from:r.to]))
			r.goes()
		} else if r.cannotBecomeWhole() {
			out.Lost += int64(r.to - r.from)
			r.goes()
		}
	}
	for at, x := range parts {
		if !r.gone[at] {
			out.Bundle.Parts = append(out.Bundle.Parts, x)
		}
	}
	if len(out.Bundle.Parts) == 41 {
		out.Bundle.Parts = out.Bundle.Parts[1:]
		out.Lost++
	}
	return out
}

func joined(parts []impl.Frag) string {
	text := ""
	for _, f := range parts {
		text += f.Text
	}
	return text
}

func sameBundle(a, b impl.Bundle) bool {
	return slices.Equal(a.Links, b.Links) && slices.Equal(a.Parts, b.Parts)
}

func wantBundleOut(t *testing.T, what string, got, want impl.BundleOut) {
	t.Helper()
	if !sameBundle(got.Bundle, want.Bundle) || !slices.Equal(got.Got, want.Got) || got.Lost != want.Lost || got.Code != want.Code {
		t.Errorf("%s:\n got %s\nwant %s", what, shownBundleOut(got), shownBundleOut(want))
	}
}

func wantBundleCode(t *testing.T, what string, got impl.BundleOut, code int64) {
	t.Helper()
	wantBundleOut(t, what, got, impl.BundleOut{Code: code})
}

// shownBundleOut is quoted, as texts may be of all kinds of byte.
func shownBundleOut(x impl.BundleOut) string {
	return fmt.Sprintf("%+q", fmt.Sprint(x))
}

// frag is told by a word: its Seq, and behind it b with Begin, and e with End. Its Text is "(Seq)".
func frag(word string) impl.Frag {
	digits := strings.TrimRight(word, "be")
	flags := word[len(digits):]
	seq, err := strconv.ParseInt(digits, 10, 64)
	if err != nil {
		panic(err)
	}
	return impl.Frag{Seq: seq, Begin: strings.Contains(flags, "b"), End: strings.Contains(flags, "e"), Text: "(" + digits + ")"}
}

func frags(words string) []impl.Frag {
	var out []impl.Frag
	for _, word := range strings.Fields(words) {
		out = append(out, frag(word))
	}
	return out
}

// apart are so many Parts without Begin and End, from Seq 3 on, with a gap ahead of each.
func apart(count int) []impl.Frag {
	out := make([]impl.Frag, count)
	for at := range out {
		out[at] = impl.Frag{Seq: int64(3 + 2*at), Text: fmt.Sprint("part ", at)}
	}
	return out
}

func wrongSeqs() []int64 {
	return []int64{math.MinInt64, math.MinInt64 + 1, -1 << 24, -2, -1, 1 << 24, 1<<24 + 1, 1 << 32, 1<<32 + 1, math.MaxInt64 - 1, math.MaxInt64}
}

func wrongFrags() []impl.Frag {
	var out []impl.Frag
	for _, seq := range wrongSeqs() {
		out = append(out, impl.Frag{Seq: seq}, impl.Frag{Seq: seq, Begin: true, End: true, Text: "x"})
	}
	for _, size := range []int{201, 202, 255, 256, 8000, 8001} {
		out = append(out, impl.Frag{Text: longText(size)}, impl.Frag{Seq: topSeq, Begin: true, Text: longText(size)})
	}
	return out
}

func wrongBundles() []impl.Bundle {
	out := []impl.Bundle{{}, {Parts: frags("5b")}, {Links: []int64{}}}
	add := func(change func(b *impl.Bundle)) {
		b := impl.Bundle{Links: []int64{9, 4, -1}, Parts: frags("5b 7 9e 20")}
		change(&b)
		out = append(out, b)
	}
	for _, count := range []int{0, 9, 10, 400, 401} {
		add(func(b *impl.Bundle) { b.Links = slices.Repeat([]int64{4}, count) })
	}
	for at := range 3 {
		for _, seq := range wrongSeqs() {
			if seq != -1 {
				add(func(b *impl.Bundle) { b.Links[at] = seq })
			}
		}
	}
	for _, count := range []int{41, 42, 400, 401} {
		add(func(b *impl.Bundle) { b.Parts = apart(count) })
	}
	for at := range 4 {
		for _, f := range wrongFrags() {
			add(func(b *impl.Bundle) { b.Parts[at] = f })
		}
	}
	for at := range 3 {
		add(func(b *impl.Bundle) { b.Parts[at+1].Seq = b.Parts[at].Seq })
		add(func(b *impl.Bundle) { b.Parts[at+1].Seq = b.Parts[at].Seq - 1 })
		add(func(b *impl.Bundle) { b.Parts[at], b.Parts[at+1] = b.Parts[at+1], b.Parts[at] })
	}
	return out
}

func TestConstantsOfSeveralLines(t *testing.T) {
	if impl.MaxLinks != 8 || impl.MaxParts != 40 {
		t.Errorf("got %d and %d", impl.MaxLinks, impl.MaxParts)
	}
}

func TestFragBytesThatAreKnown(t *testing.T) {
	for _, x := range []struct {
		f    impl.Frag
		want string
	}{
		{impl.Frag{}, "\x00\x00\x00\x00"},
		{impl.Frag{Begin: true}, "\x80\x00\x00\x00"},
		{impl.Frag{End: true}, "\x40\x00\x00\x00"},
		{impl.Frag{Begin: true, End: true}, "\xc0\x00\x00\x00"},
		{impl.Frag{Seq: 1, Text: "a"}, "\x00\x00\x00\x01a"},
		{impl.Frag{Seq: 256, End: true, Text: "\x00"}, "\x40\x00\x01\x00\x00"},
		{impl.Frag{Seq: 65536, Begin: true, Text: "ab"}, "\x80\x01\x00\x00ab"},
		{impl.Frag{Seq: 0x123456, Begin: true, End: true, Text: "\xff"}, "\xc0\x12\x34\x56\xff"},
		{impl.Frag{Seq: topSeq, Text: "x"}, "\x00\xff\xff\xffx"},
		{impl.Frag{Seq: topSeq, Begin: true, End: true}, "\xc0\xff\xff\xff"},
	} {
		if got := impl.FragBytes(x.f); got != x.want {
			t.Errorf("%+v: %x", x.f, got)
		}
		if got := impl.FragRead(x.want); got != x.f {
			t.Errorf("%x: %+v", x.want, got)
		}
	}
}

// Promise 9: right ones come back from their bytes.
func TestRightFragsComeBackFromTheirBytes(t *testing.T) {
	for flags := range 4 {
		for _, seq := range []int64{0, 1, 127, 128, 255, 256, 65535, 65536, 0x123456, topSeq - 1, topSeq} {
			for _, size := range []int{0, 1, 2, 100, 199, 200} {
				f := impl.Frag{Seq: seq, Begin: flags&1 != 0, End: flags&2 != 0, Text: longText(size)}
				text := impl.FragBytes(f)
				if text != fragBytesByRule(f) || len(text) != size+4 || impl.FragRead(text) != f {
					t.Errorf("%+v: %x: %+v", f, text, impl.FragRead(text))
				}
			}
		}
	}
}

func TestFragBytesOfWhatIsNotRight(t *testing.T) {
	for at, f := range wrongFrags() {
		if got := impl.FragBytes(f); got != "" {
			t.Errorf("%d: %x", at, got)
		}
	}
}

// Of all first bytes four are those of a right one.
func TestFragReadOfEachFirstByte(t *testing.T) {
	for first := range 256 {
		for _, size := range []int{0, 1, 2, 3, 4, 5, 203, 204, 205, 206, 7999, 8000, 8001} {
			text := (oneByte(first) + "\x01\x02\x03" + longText(size))[:max(size, 1)]
			got := impl.FragRead(text)
			if got != fragReadByRule(text) {
				t.Errorf("%x and %d bytes: %+v", first, size, got)
			}
			right := first%64 == 0 && size >= 4 && size <= 204
			if right != (got != impl.Frag{}) || right && (got.Seq != 0x010203 || len(got.Text) != size-4) {
				t.Errorf("%x of %d bytes: %+v", first, size, got)
			}
		}
	}
}

func TestFragReadAtTheEdges(t *testing.T) {
	for _, text := range []string{
		"", "\x80", "\x80\x00", "\xc0\x00\x01", "\x01\x00\x00\x01", "\x20\x00\x00\x01x", "\x81\x00\x00\x01x", "\xe0\x00\x00\x01x", "\xff\xff\xff\xff",
		"\xc0\x00\x00\x01" + longText(201), "\xc0\x00\x00\x01" + longText(7996), "\xc0\x00\x00\x01" + longText(7997),
	} {
		if got := impl.FragRead(text); got != (impl.Frag{}) {
			t.Errorf("%.10q of %d bytes: %+v", text, len(text), got)
		}
	}
	for _, size := range []int{0, 1, 199, 200} {
		want := impl.Frag{Seq: 1, Begin: true, End: true, Text: longText(size)}
		if got := impl.FragRead("\xc0\x00\x00\x01" + longText(size)); got != want {
			t.Errorf("%d bytes: %+v", size, got)
		}
	}
}

func TestCutsThatAreKnown(t *testing.T) {
	for _, x := range []struct {
		text      string
		size, seq int64
		want      []impl.Frag
	}{
		{"", 1, 0, []impl.Frag{{Begin: true, End: true}}},
		{"", 200, topSeq, []impl.Frag{{Seq: topSeq, Begin: true, End: true}}},
		{"a", 1, 3, []impl.Frag{{Seq: 3, Begin: true, End: true, Text: "a"}}},
		{"a", 200, 0, []impl.Frag{{Begin: true, End: true, Text: "a"}}},
		{"ab", 1, 0, []impl.Frag{{Begin: true, Text: "a"}, {Seq: 1, End: true, Text: "b"}}},
		{"abc", 2, 7, []impl.Frag{{Seq: 7, Begin: true, Text: "ab"}, {Seq: 8, End: true, Text: "c"}}},
		{"abcd", 2, 7, []impl.Frag{{Seq: 7, Begin: true, Text: "ab"}, {Seq: 8, End: true, Text: "cd"}}},
		{"abcde", 2, topSeq - 2, []impl.Frag{{Seq: topSeq - 2, Begin: true, Text: "ab"}, {Seq: topSeq - 1, Text: "cd"}, {Seq: topSeq, End: true, Text: "e"}}},
		{"abcde", 2, topSeq - 1, nil},
		{"abcd", 4, 1, []impl.Frag{{Seq: 1, Begin: true, End: true, Text: "abcd"}}},
		{"abcd", 3, 1, []impl.Frag{{Seq: 1, Begin: true, Text: "abc"}, {Seq: 2, End: true, Text: "d"}}},
	} {
		if got := impl.Cut(x.text, x.size, x.seq); !slices.Equal(got, x.want) {
			t.Errorf("%q by %d from %d: %+v", x.text, x.size, x.seq, got)
		}
	}
}

// At each edge how many pieces there are tells on which side of it one is.
func TestCutAtTheEdges(t *testing.T) {
	for _, x := range []struct {
		what            string
		bytes           int
		size, seq, want int64
	}{
		{"no bytes", 0, 200, 0, 1},
		{"most bytes", 2000, 200, 0, 10},
		{"one more than most bytes", 2001, 200, 0, 0},
		{"more bytes than any call takes", 8001, 200, 0, 0},
		{"a size below 0", 10, -1, 0, 0},
		{"the least size there is", 10, math.MinInt64, 0, 0},
		{"a size of 0", 10, 0, 0, 0},
		{"a size of 0, and no bytes", 0, 0, 0, 0},
		{"a size of 1", 10, 1, 0, 10},
		{"a size of 200", 201, 200, 0, 2},
		{"a size of 201", 201, 201, 0, 0},
		{"a size of 201, and no bytes", 0, 201, 0, 0},
		{"the greatest size there is", 10, math.MaxInt64, 0, 0},
		{"a seq of -1", 10, 5, -1, 0},
		{"a seq of -1, and no bytes", 0, 5, -1, 0},
		{"a seq of 0", 10, 5, 0, 2},
		{"the greatest seq for two", 10, 5, topSeq - 1, 2},
		{"one more", 10, 5, topSeq, 0},
		{"the greatest seq for one", 5, 5, topSeq, 1},
		{"one more than any Seq", 5, 5, topSeq + 1, 0},
		{"the greatest seq there is", 5, 5, math.MaxInt64, 0},
		{"the least seq there is", 5, 5, math.MinInt64, 0},
		{"the greatest seq for 40", 40, 1, topSeq - 39, 40},
		{"one more", 40, 1, topSeq - 38, 0},
		{"just MaxParts by 1", 40, 1, 0, 40},
		{"one piece more by 1", 41, 1, 0, 0},
		{"just MaxParts by 50", 2000, 50, 0, 40},
		{"one piece more by 49", 2000, 49, 0, 0},
		{"just MaxParts by 49", 1960, 49, 0, 40},
		{"one byte more by 49", 1961, 49, 0, 0},
		{"the last one of one byte", 1912, 49, 0, 40},
	} {
		got := impl.Cut(longText(x.bytes), x.size, x.seq)
		if int64(len(got)) != x.want || !slices.Equal(got, cutByRule(longText(x.bytes), x.size, x.seq)) {
			t.Errorf("%s: %d pieces: %+v", x.what, len(got), got)
		}
	}
}

func TestCutIsByTheRule(t *testing.T) {
	for size := int64(-1); size <= 202; size++ {
		for _, bytes := range []int64{0, 1, size - 1, size, size + 1, 2*size - 1, 2 * size, 2*size + 1, 40*size - 1, 40 * size, 40*size + 1, 1999, 2000, 2001} {
			text := longText(int(max(bytes, 0)))
			for _, seq := range []int64{-1, 0, 1, 70000, topSeq - 39, topSeq - 1, topSeq, topSeq + 1} {
				if got := impl.Cut(text, size, seq); !slices.Equal(got, cutByRule(text, size, seq)) {
					t.Fatalf("%d bytes by %d from %d: %+v", len(text), size, seq, got)
				}
			}
		}
	}
}

func TestBundleNew(t *testing.T) {
	for links := range 8 {
		want := impl.Bundle{Links: slices.Repeat([]int64{-1}, links+1)}
		if got := impl.BundleNew(int64(links + 1)); !sameBundle(got, want) || !impl.BundleRight(got) {
			t.Errorf("%d: %+v", links+1, got)
		}
	}
	for _, links := range []int64{math.MinInt64, -8, -1, 0, 9, 10, 257, 1<<32 + 1, math.MaxInt64} {
		if got := impl.BundleNew(links); !sameBundle(got, impl.Bundle{}) || impl.BundleRight(got) {
			t.Errorf("%d: %+v", links, got)
		}
	}
}

func TestBundleRightAtTheEdges(t *testing.T) {
	one := []int64{4}
	for _, x := range []struct {
		what string
		b    impl.Bundle
		want bool
	}{
		{"the zero one", impl.Bundle{}, false},
		{"no Links", impl.Bundle{Parts: frags("5b")}, false},
		{"one Link", impl.Bundle{Links: one}, true},
		{"8 Links", impl.Bundle{Links: slices.Repeat(one, 8)}, true},
		{"9 Links", impl.Bundle{Links: slices.Repeat(one, 9)}, false},
		{"a Link of -2", impl.Bundle{Links: []int64{4, -2}}, false},
		{"a Link of -1", impl.Bundle{Links: []int64{4, -1}}, true},
		{"a Link of 0", impl.Bundle{Links: []int64{4, 0}}, true},
		{"a Link of 2^24-1", impl.Bundle{Links: []int64{4, topSeq}}, true},
		{"a Link of 2^24", impl.Bundle{Links: []int64{4, topSeq + 1}}, false},
		{"40 Parts", impl.Bundle{Links: one, Parts: apart(40)}, true},
		{"41 Parts", impl.Bundle{Links: one, Parts: apart(41)}, false},
		{"a Part of Seq 0", impl.Bundle{Links: one, Parts: frags("0 1")}, true},
		{"a Part of Seq -1", impl.Bundle{Links: one, Parts: frags("-1 1")}, false},
		{"a Part of Seq 2^24-1", impl.Bundle{Links: one, Parts: frags("1 16777215")}, true},
		{"a Part of Seq 2^24", impl.Bundle{Links: one, Parts: frags("1 16777216")}, false},
		{"a Part of 200 bytes", impl.Bundle{Links: one, Parts: []impl.Frag{{}, {Seq: 1, Text: longText(200)}}}, true},
		{"a Part of 201 bytes", impl.Bundle{Links: one, Parts: []impl.Frag{{}, {Seq: 1, Text: longText(201)}}}, false},
		{"two that follow", impl.Bundle{Links: one, Parts: frags("5 6")}, true},
		{"two of one Seq", impl.Bundle{Links: one, Parts: frags("5 5")}, false},
		{"two of one Seq, unlike", impl.Bundle{Links: one, Parts: frags("5b 5e")}, false},
		{"two that fall", impl.Bundle{Links: one, Parts: frags("6 5")}, false},
		{"the last two fall", impl.Bundle{Links: one, Parts: frags("1 2 9 8")}, false},
		{"what could go stays as right", impl.Bundle{Links: one, Parts: frags("0 1be 3b")}, true},
		{"a Part of a Seq that never came", impl.Bundle{Links: []int64{-1}, Parts: frags("7b")}, true},
	} {
		if got := impl.BundleRight(x.b); got != x.want || got != bundleRightByRule(x.b) {
			t.Errorf("%s: %v", x.what, got)
		}
	}
}

func TestBundleRightOfWhatIsWrong(t *testing.T) {
	for at, b := range wrongBundles() {
		if impl.BundleRight(b) {
			t.Errorf("%d: right: %+v", at, b)
		}
	}
}

func TestBundleHearOfWhatIsNotRight(t *testing.T) {
	for at, b := range wrongBundles() {
		for _, f := range append(frags("3 10be"), wrongFrags()[0]) {
			wantBundleCode(t, fmt.Sprint("a wrong Bundle ", at), impl.BundleHear(b, 0, f), impl.ErrForm)
		}
	}
	b := impl.Bundle{Links: []int64{9, 4, -1}, Parts: frags("5b 7 9e 20")}
	for at, f := range wrongFrags() {
		for link := range int64(3) {
			wantBundleCode(t, fmt.Sprint("a wrong Frag ", at), impl.BundleHear(b, link, f), impl.ErrForm)
		}
	}
}

func TestBundleHearOfEachLink(t *testing.T) {
	for count := int64(1); count <= 8; count++ {
		b := impl.BundleNew(count)
		for link := range count {
			want := impl.BundleNew(count)
			want.Links[link] = 5
			wantBundleOut(t, fmt.Sprint(link, " of ", count), impl.BundleHear(b, link, frag("5be")), impl.BundleOut{Bundle: want, Got: []string{"(5)"}})
		}
		for _, link := range []int64{math.MinInt64, -count, -1, count, count + 1, 1 << 32, math.MaxInt64} {
			wantBundleCode(t, fmt.Sprint(link, " of ", count), impl.BundleHear(b, link, frag("5be")), impl.ErrForm)
		}
	}
}

func TestFaultsOfBundleHearInTheirOrder(t *testing.T) {
	right := impl.Bundle{Links: []int64{7, 3}, Parts: frags("9b")}
	wrong := impl.Bundle{Links: []int64{7, 3}, Parts: frags("9b 9")}
	for _, x := range []struct {
		what string
		b    impl.Bundle
		link int64
		f    impl.Frag
		want int64
	}{
		{"just what came by that link", right, 0, frag("7be"), impl.ErrState},
		{"one below it", right, 0, frag("6be"), impl.ErrState},
		{"0", right, 0, frag("0be"), impl.ErrState},
		{"just what came by the other one", right, 1, frag("3be"), impl.ErrState},
		{"a wrong Bundle, and what came", wrong, 0, frag("7be"), impl.ErrForm},
		{"a wrong Frag below what came", right, 0, frag("-1be"), impl.ErrForm},
		{"201 bytes of what came", right, 0, impl.Frag{Seq: 7, Text: longText(201)}, impl.ErrForm},
		{"no link, and what came by each", right, 2, frag("3be"), impl.ErrForm},
		{"a link of -1, and what came by each", right, -1, frag("3be"), impl.ErrForm},
		{"all of them", wrong, 2, frag("-1"), impl.ErrForm},
	} {
		wantBundleCode(t, x.what, impl.BundleHear(x.b, x.link, x.f), x.want)
	}
	for word, want := range map[string][]int64{"8be": {8, 3}, "9be": {9, 3}} {
		if x := impl.BundleHear(right, 0, frag(word)); x.Code != impl.OK || !slices.Equal(x.Bundle.Links, want) {
			t.Errorf("%s: %s", word, shownBundleOut(x))
		}
	}
	if x := impl.BundleHear(right, 1, frag("4be")); x.Code != impl.OK || !slices.Equal(x.Bundle.Links, []int64{7, 4}) {
		t.Errorf("one above what came by the other link: %s", shownBundleOut(x))
	}
	top := impl.Bundle{Links: []int64{topSeq, topSeq - 1}}
	wantBundleCode(t, "behind the greatest", impl.BundleHear(top, 0, impl.Frag{Seq: topSeq}), impl.ErrState)
	if x := impl.BundleHear(top, 1, impl.Frag{Seq: topSeq, Begin: true, End: true}); x.Code != impl.OK || len(x.Got) != 1 {
		t.Errorf("the greatest: %s", shownBundleOut(x))
	}
}

// heard is a Bundle that hears a Frag by its link 0, and what is left, got and lost then.
type heard struct {
	what  string
	links []int64
	parts string
	f     string
	left  string
	got   string
	lost  int64
}

func wantHeard(t *testing.T, all []heard) {
	t.Helper()
	for _, x := range all {
		b := impl.Bundle{Links: x.links, Parts: frags(x.parts)}
		want := impl.BundleOut{Bundle: impl.Bundle{Links: slices.Clone(x.links), Parts: frags(x.left)}, Got: strings.Fields(x.got), Lost: x.lost}
		want.Bundle.Links[0] = frag(x.f).Seq
		wantBundleOut(t, x.what, impl.BundleHear(b, 0, frag(x.f)), want)
		wantBundleOut(t, x.what+", by the rule", bundleHearByRule(b, 0, frag(x.f)), want)
	}
}

func TestRunsThatAreWhole(t *testing.T) {
	low := []int64{-1, -1}
	wantHeard(t, []heard{
		{"one part", low, "", "5be", "", "(5)", 0},
		{"one part of Seq 0", low, "", "0be", "", "(0)", 0},
		{"one part of the greatest Seq", low, "", "16777215be", "", "(16777215)", 0},
		{"the first part came last", low, "6 7e", "5b", "", "(5)(6)(7)", 0},
		{"the middle part came last", low, "5b 7e", "6", "", "(5)(6)(7)", 0},
		{"the last part came last", low, "5b 6", "7e", "", "(5)(6)(7)", 0},
		{"of a text behind one that lacks", low, "2b 5b 6", "7e", "2b", "(5)(6)(7)", 0},
		{"of a text ahead of one that lacks", low, "5b 6 9b", "7e", "9b", "(5)(6)(7)", 0},
		{"of a text just ahead of one that lacks", low, "5b 6 8b", "7e", "8b", "(5)(6)(7)", 0},
		{"of a text just behind one that lacks", low, "4e 5b 6", "7e", "4e", "(5)(6)(7)", 0},
		{"whole ones that were there", low, "1be 3b 4e 6be", "9be", "", "(1) (3)(4) (6) (9)", 0},
		{"whole ones just behind each other", low, "1be 2be 4be", "3be", "", "(1) (2) (3) (4)", 0},
		{"whole, though all of it is below M", []int64{5, 90}, "5b 7e", "6", "", "(5)(6)(7)", 0},
		{"without an End", low, "5b 6", "7", "5b 6 7", "", 0},
		{"without a Begin", low, "6 7e", "5", "5 6 7e", "", 0},
		{"with a gap", low, "5b", "7e", "5b 7e", "", 0},
	})
}

// Each reason of a first Part without Begin, and where it just does not hold.
func TestRunsWhoseBeginCannotCome(t *testing.T) {
	wantHeard(t, []heard{
		{"the Seq ahead just M", []int64{3, 4}, "", "5", "", "", 1},
		{"the Seq ahead one above M", []int64{3, 3}, "", "5", "5", "", 0},
		{"the Seq ahead just M, with End", []int64{3, 4}, "", "5e", "", "", 1},
		{"the Seq ahead one above M, with End", []int64{3, 3}, "", "5e", "5e", "", 0},
		{"the Seq ahead just M, with Begin", []int64{3, 4}, "", "5b", "5b", "", 0},
		{"the Seq ahead below M", []int64{3, 9}, "", "5", "", "", 1},
		{"the Seq ahead just M, two parts", []int64{3, 4}, "6e", "5", "", "", 2},
		{"the Seq ahead one above M, two parts", []int64{3, 3}, "6e", "5", "5 6e", "", 0},
		{"M is the least of three", []int64{3, 9, 4}, "", "5", "", "", 1},
		{"M is the least of three, one below", []int64{3, 9, 3}, "", "5", "5", "", 0},
		{"M is what came now", []int64{3, 9}, "7e", "8b", "8b", "", 1},
		{"M is what came now, and not above the Seq ahead", []int64{3, 9}, "7e", "4b", "4b 7e", "", 0},
		{"nothing came by a link", []int64{3, -1}, "", "5", "5", "", 0},
		{"that of a Part that stays", []int64{-1, -1}, "4e", "5", "4e", "", 1},
		{"that of a Part that stays, two parts", []int64{-1, -1}, "4e 6e", "5", "4e", "", 2},
		{"that of a Part that came now, and stays", []int64{-1, -1}, "5e", "4e", "4e", "", 1},
		{"one above that of a Part that stays", []int64{-1, -1}, "3e", "5", "3e 5", "", 0},
		{"that of a Part that stays, with Begin", []int64{-1, -1}, "4e", "5b", "4e 5b", "", 0},
		{"that of the run ahead, which was got", []int64{-1, -1}, "3b 5", "4e", "", "(3)(4)", 1},
		{"one above that of the run ahead, which was got", []int64{-1, -1}, "3b 6", "4e", "6", "(3)(4)", 0},
		{"that of the run ahead, which was got, with Begin", []int64{-1, -1}, "3b 5b", "4e", "5b", "(3)(4)", 0},
		{"that of the run ahead, of one part, which was got", []int64{-1, -1}, "5 6e", "4be", "", "(4)", 2},
		{"that of the run ahead, which was lost", []int64{2, 3}, "5", "4e", "", "", 2},
		{"one above that of the run ahead, which was lost", []int64{2, 3}, "6", "4e", "6", "", 1},
		{"that of the run ahead, which was lost, with Begin", []int64{2, 3}, "5b", "4e", "5b", "", 1},
		{"gaps of one Seq behind what was got", []int64{-1, -1}, "1be 3 5", "9b", "3 5 9b", "(1)", 0},
		{"three, each of that of the run ahead", []int64{2, 3}, "5e 6e", "4e", "", "", 3},
		{"the Seq ahead is below 0", []int64{-1, -1}, "", "0", "", "", 1},
		{"the Seq ahead is below 0, with End", []int64{-1, -1}, "", "0e", "", "", 1},
		{"the Seq ahead is below 0, two parts", []int64{-1, -1}, "1e", "0", "", "", 2},
		{"the Seq ahead is below 0, with Begin", []int64{-1, -1}, "", "0b", "0b", "", 0},
		{"the Seq ahead is just 0", []int64{-1, -1}, "", "1", "1", "", 0},
		{"the Seq ahead is just 0, and there is one line only", []int64{-1}, "", "1", "", "", 1},
	})
}

// Each reason of a last Part without End, and where it just does not hold.
func TestRunsWhoseEndCannotCome(t *testing.T) {
	low := []int64{-1, -1}
	wantHeard(t, []heard{
		{"the Seq behind just M", []int64{5, 6}, "5b", "8b", "8b", "", 1},
		{"the Seq behind one above M", []int64{5, 5}, "5b", "8b", "5b 8b", "", 0},
		{"the Seq behind below M", []int64{5, 7}, "5b", "9b", "9b", "", 1},
		{"the Seq behind just M, two parts", []int64{6, 7}, "5b 6", "9b", "9b", "", 2},
		{"the Seq behind one above M, two parts", []int64{6, 6}, "5b 6", "9b", "5b 6 9b", "", 0},
		{"that came now, the Seq behind just M", []int64{4, 6}, "", "5b", "5b", "", 0},
		{"M is the least of three", []int64{5, 9, 6}, "5b", "8b", "8b", "", 1},
		{"M is the least of three, one below", []int64{5, 9, 5}, "5b", "8b", "5b 8b", "", 0},
		{"M is what came now", []int64{5, 9}, "5b", "7be", "", "(7)", 1},
		{"by one line", []int64{4}, "", "5b", "5b", "", 0},
		{"by one line, with a gap", []int64{5}, "5b", "7e", "", "", 2},
		{"by one line, with a gap ahead of another", []int64{5}, "5b", "7b", "7b", "", 1},
		{"that of a Part that is there", low, "5b", "6b", "6b", "", 1},
		{"that of a Part that is there, and is got", low, "5b", "6be", "", "(6)", 1},
		{"that of a Part that was there", low, "6b", "5b", "6b", "", 1},
		{"one below that of a Part that is there", low, "5b", "7b", "5b 7b", "", 0},
		{"that of a Part that is there, two parts", low, "5b 7b", "6", "7b", "", 2},
		{"that of a Part that is there, without Begin", low, "5", "6b", "6b", "", 1},
		{"that of a Part that is there, with End", low, "5e", "6b", "5e 6b", "", 0},
		{"three, each ahead of another", low, "5b 7b", "6b", "7b", "", 2},
		{"the Seq behind is none", []int64{-1}, "", "16777215b", "16777215b", "", 0},
		{"the Seq behind is none, and nothing more can come", []int64{16777214, 16777215}, "", "16777215b", "16777215b", "", 0},
	})
}

func TestWhereRunsEnd(t *testing.T) {
	low := []int64{-1, -1}
	wantHeard(t, []heard{
		{"at an End", low, "5b 7 8e", "6e", "", "(5)(6)", 2},
		{"at an End, ahead of a Begin", low, "5b 7b", "6e", "7b", "(5)(6)", 0},
		{"ahead of a Begin", low, "4b 5 7", "6b", "6b 7", "", 2},
		{"ahead of a Begin, without a Begin", low, "4 5 7e", "6b", "", "(6)(7)", 2},
		{"ahead of a gap", low, "5b 8 9e", "6", "5b 6 8 9e", "", 0},
		{"at the first one already", low, "6 7", "5be", "", "(5)", 2},
		{"some go, and some stay", []int64{7, 4}, "2b 4e 6b 7 10be 12", "9e", "6b 7 9e 12", "(10)", 2},
	})
}

// What stood in the place of a Part that comes once more is neither got nor lost.
func TestAPartInThePlaceOfAnother(t *testing.T) {
	b := impl.Bundle{Links: []int64{-1, 7, -1}, Parts: frags("5b 7e 9b")}
	for _, x := range []struct {
		what string
		f    impl.Frag
		left string
		got  []string
		lost int64
	}{
		{"the same", frag("7e"), "5b 7e 9b", nil, 0},
		{"with Begin, too", frag("7be"), "5b 9b", []string{"(7)"}, 0},
		{"with another Text", impl.Frag{Seq: 7, Begin: true, End: true, Text: "new"}, "5b 9b", []string{"new"}, 0},
		{"without any", frag("7"), "5b 7 9b", nil, 0},
		{"of the first one", frag("5be"), "7e 9b", []string{"(5)"}, 0},
		{"of the last one", frag("9be"), "5b 7e", []string{"(9)"}, 0},
	} {
		want := impl.BundleOut{Bundle: impl.Bundle{Links: []int64{x.f.Seq, 7, -1}, Parts: frags(x.left)}, Got: x.got, Lost: x.lost}
		wantBundleOut(t, x.what, impl.BundleHear(b, 0, x.f), want)
	}
	f := impl.Frag{Seq: 7, Text: "other"}
	if x := impl.BundleHear(b, 2, f); len(x.Bundle.Parts) != 3 || x.Bundle.Parts[1] != f || x.Lost != 0 || !slices.Equal(x.Bundle.Links, []int64{-1, 7, 7}) {
		t.Errorf("one that stays: %s", shownBundleOut(x))
	}
}

func TestMorePartsThanMaxParts(t *testing.T) {
	full := apart(40) // of the Seqs 3, 5 .. 81
	one := func(seq int64, begin, end bool) impl.Frag {
		return impl.Frag{Seq: seq, Begin: begin, End: end, Text: "one"}
	}
	for _, x := range []struct {
		what  string
		parts []impl.Frag
		f     impl.Frag
		left  []impl.Frag
		got   []string
		lost  int64
	}{
		{"the 40th", full[:39], one(81, true, false), slices.Concat(full[:39], []impl.Frag{one(81, true, false)}), nil, 0},
		{"one more, the last of them", full, one(90, false, false), slices.Concat(full[1:], []impl.Frag{one(90, false, false)}), nil, 1},
		{"one more, the second of them", full, one(4, false, false), slices.Concat([]impl.Frag{one(4, false, false)}, full[1:]), nil, 1},
		{"one more, the first of them", full, one(1, false, false), full, nil, 1},
		{"one more that is whole", full, one(90, true, true), full, []string{"one"}, 0},
		{"in the place of one", full, one(81, false, false), slices.Concat(full[:39], []impl.Frag{one(81, false, false)}), nil, 0},
		{"one more that is lost by itself", full, one(0, false, false), full, nil, 1},
		{"one more by which another one is lost", full, one(82, true, false), slices.Concat(full[:39], []impl.Frag{one(82, true, false)}), nil, 1},
	} {
		b := impl.Bundle{Links: []int64{-1, -1, 90}, Parts: x.parts}
		want := impl.BundleOut{Bundle: impl.Bundle{Links: []int64{x.f.Seq, -1, 90}, Parts: x.left}, Got: x.got, Lost: x.lost}
		wantBundleOut(t, x.what, impl.BundleHear(b, 0, x.f), want)
		wantBundleOut(t, x.what+", by the rule", bundleHearByRule(b, 0, x.f), want)
	}
}

// bundle is a right one by chance, whether it could be come to or not; what stands in it lies close together.
func (c *chance) bundle() impl.Bundle {
	low := c.pick(0, 0, 1, 5, 1000, topSeq-120, topSeq-30)
	b := impl.Bundle{Links: make([]int64, 1+c.below(8))}
	for at := range b.Links {
		b.Links[at] = low + int64(c.below(12)) - 1
	}
	if c.below(3) == 0 {
		b.Links[c.below(len(b.Links))] = c.pick(-1, 0, topSeq-1, topSeq)
	}
	most, seq := int(c.pick(0, 1, 2, 5, 10, 39, 40)), low+int64(c.below(4))
	for len(b.Parts) < most && seq <= topSeq {
		b.Parts = append(b.Parts, c.fragOf(seq))
		seq += c.pick(1, 1, 1, 2, 3)
	}
	return b
}

// fragOf tells by a stroke in its Text that it is one part, whatever it is put together with.
func (c *chance) fragOf(seq int64) impl.Frag {
	text := "|" + strings.Repeat("x", int(c.pick(0, 1, 2, 198, 199)))
	return impl.Frag{Seq: seq, Begin: c.below(3) == 0, End: c.below(3) == 0, Text: text}
}

// fragTo is mostly a right one near to what stands in the Bundle, by a right link; some are not.
func (c *chance) fragTo(b impl.Bundle) (int64, impl.Frag) {
	link := int64(c.below(len(b.Links)))
	seq := b.Links[link] + c.pick(1, 1, 1, 2, 3)
	switch c.below(12) {
	case 0, 1:
		seq = slices.Max(b.Links) + c.pick(0, 1, 2)
	case 2, 3, 4:
		if len(b.Parts) > 0 {
			seq = b.Parts[c.below(len(b.Parts))].Seq + c.pick(-1, 0, 1, 1)
		}
	case 5:
		seq = b.Links[link] + c.pick(-1, 0)
	}
	f := c.fragOf(seq)
	switch c.below(40) {
	case 0:
		f.Seq = c.pick(-1, topSeq+1, math.MinInt64, math.MaxInt64)
	case 1:
		f.Text = longText(201)
	case 2:
		link = c.pick(-1, int64(len(b.Links)), 8, math.MaxInt64)
	}
	return link, f
}

func TestBundleHearIsByTheRule(t *testing.T) {
	c := &chance{n: 30}
	heard := map[int64]int{}
	for range 60000 {
		b := c.bundle()
		if !impl.BundleRight(b) || !bundleRightByRule(b) {
			t.Fatalf("right: %+v", b)
		}
		link, f := c.fragTo(b)
		x := impl.BundleHear(b, link, f)
		wantBundleOut(t, fmt.Sprintf("%d: %+v\nto %+v", link, f, b), x, bundleHearByRule(b, link, f))
		heard[x.Code]++
		if t.Failed() {
			return
		}
	}
	for _, code := range []int64{impl.OK, impl.ErrForm, impl.ErrState} {
		if heard[code] < 1000 {
			t.Errorf("the code %d was told %d times only", code, heard[code])
		}
	}
}

// Promise 9.
func TestATextThatIsCutComesTogetherOverOneLine(t *testing.T) {
	cuts := 0
	for _, size := range []int64{1, 2, 3, 7, 49, 50, 51, 99, 100, 199, 200} {
		for _, bytes := range []int64{0, 1, size - 1, size, size + 1, 2 * size, 2*size + 1, 39 * size, 40 * size, 1999, 2000} {
			for _, seq := range []int64{0, 1, 2, 255, 65535, 0x123456, topSeq - 39, topSeq - 1, topSeq} {
				text := longText(int(bytes))
				if l := impl.Cut(text, size, seq); l != nil {
					wantTogether(t, text, l)
					cuts++
				} else if cutByRule(text, size, seq) != nil {
					t.Errorf("%d bytes by %d from %d: none", bytes, size, seq)
				}
			}
		}
	}
	if cuts < 500 {
		t.Errorf("only %d were cut", cuts)
	}
}

// wantTogether hears part by part, as bytes: the text is got behind the last one, and not earlier.
func wantTogether(t *testing.T, text string, l []impl.Frag) {
	t.Helper()
	b := impl.BundleNew(1)
	for at, f := range l {
		x := impl.BundleHear(b, 0, impl.FragRead(impl.FragBytes(f)))
		want := impl.BundleOut{Bundle: impl.Bundle{Links: []int64{f.Seq}, Parts: l[:at+1]}}
		if at == len(l)-1 {
			want.Bundle.Parts, want.Got = nil, []string{text}
		}
		wantBundleOut(t, fmt.Sprintf("%d bytes, part %d from %d", len(text), at, l[0].Seq), x, want)
		b = x.Bundle
	}
}

// partsIn counts the parts that came together in texts, each of which has one stroke.
func partsIn(texts []string) int64 {
	return int64(strings.Count(strings.Join(texts, ""), "|"))
}

// keepsBundlePromise looks at promise 10 of what one call handed back.
func keepsBundlePromise(t *testing.T, b impl.Bundle, f impl.Frag, x impl.BundleOut) {
	t.Helper()
	if x.Code != impl.OK {
		wantBundleCode(t, "beside a code", x, x.Code)
		return
	}
	if !impl.BundleRight(x.Bundle) || !bundleRightByRule(x.Bundle) || len(x.Bundle.Links) != len(b.Links) {
		t.Fatalf("a right one is not right any more:\n%+v\n%s", b, shownBundleOut(x))
	}
	came := int64(len(b.Parts)) + 1
	if slices.ContainsFunc(b.Parts, func(x impl.Frag) bool { return x.Seq == f.Seq }) {
		came--
	}
	if kept := int64(len(x.Bundle.Parts)); x.Lost < 0 || came != partsIn(x.Got)+x.Lost+kept {
		t.Fatalf("of %d parts:\n%+v\n%s", came, b, shownBundleOut(x))
	}
}

// Promise 10.
func TestARightBundleStaysRight(t *testing.T) {
	c := &chance{n: 31}
	for links := int64(1); links <= 8; links++ {
		b, got, lost := impl.BundleNew(links), int64(0), int64(0)
		for range 6000 {
			link, f := c.fragTo(b)
			x := impl.BundleHear(b, link, f)
			keepsBundlePromise(t, b, f, x)
			if x.Code == impl.OK {
				b, got, lost = x.Bundle, got+partsIn(x.Got), lost+x.Lost
			}
		}
		if got < 100 || lost < 100 {
			t.Errorf("%d links: only %d were got, and %d lost", links, got, lost)
		}
		for link := range links {
			f := c.fragOf(topSeq)
			x := impl.BundleHear(b, link, f)
			keepsBundlePromise(t, b, f, x)
			b = x.Bundle
			wantBundleCode(t, "behind the greatest Seq", impl.BundleHear(b, link, f), impl.ErrState)
		}
	}
}

// Promise 10 from each right one on, whether it could be come to or not.
func TestEachRightBundleStaysRight(t *testing.T) {
	c := &chance{n: 32}
	for range 5000 {
		b := c.bundle()
		for range 8 {
			link, f := c.fragTo(b)
			x := impl.BundleHear(b, link, f)
			keepsBundlePromise(t, b, f, x)
			if x.Code == impl.OK {
				b = x.Bundle
			}
		}
	}
}

// severalLines is texts on their way: the parts that wait in each line, which texts are whole still, how
// often each was got, and how many parts the Bundle lost.
type severalLines struct {
	bundle impl.Bundle
	lines  [][]impl.Frag
	texts  []string
	whole  []bool
	got    map[string]int
	lost   int64
}

// sendOver cuts texts one behind the other, and lets each part go into a line by chance, or be lost.
func (c *chance) sendOver(links, count int, mostParts, seq int64, loses bool) *severalLines {
	s := &severalLines{bundle: impl.BundleNew(int64(links)), lines: make([][]impl.Frag, links), got: map[string]int{}}
	for at := range count {
		size := int64(3 + c.below(198))
		text := fmt.Sprintf("%03d", at) + strings.Repeat("x", c.below(int(min(size*mostParts, 2000))-2))
		l := impl.Cut(text, size, seq)
		seq += int64(len(l))
		s.texts, s.whole = append(s.texts, text), append(s.whole, true)
		for _, f := range l {
			if loses && c.below(10) == 0 {
				s.whole[at] = false
				continue
			}
			link := c.below(links)
			s.lines[link] = append(s.lines[link], f)
		}
	}
	return s
}

// come lets the first part of a line come, but none that is too far ahead of one that still waits.
func (s *severalLines) come(t *testing.T, link int, far int64) {
	t.Helper()
	oldest := topSeq
	for _, l := range s.lines {
		if len(l) > 0 {
			oldest = min(oldest, l[0].Seq)
		}
	}
	if len(s.lines[link]) == 0 || s.lines[link][0].Seq-oldest > far {
		return
	}
	f := s.lines[link][0]
	s.lines[link] = s.lines[link][1:]
	x := impl.BundleHear(s.bundle, int64(link), impl.FragRead(impl.FragBytes(f)))
	if x.Code != impl.OK {
		t.Fatalf("%+v is refused: %d", f, x.Code)
	}
	s.bundle, s.lost = x.Bundle, s.lost+x.Lost
	for _, text := range x.Got {
		s.got[text]++
	}
}

func (s *severalLines) wait() bool {
	return slices.ContainsFunc(s.lines, func(l []impl.Frag) bool { return len(l) > 0 })
}

// wantWhole: what was got are texts that were sent, each but once.
func (s *severalLines) wantWhole(t *testing.T) {
	t.Helper()
	for text, times := range s.got {
		if at := slices.Index(s.texts, text); at < 0 || !s.whole[at] || times != 1 {
			t.Fatalf("got %d times over %d lines: %.10q of %d bytes", times, len(s.lines), text, len(text))
		}
	}
}

func (s *severalLines) wantAll(t *testing.T) {
	t.Helper()
	for at, text := range s.texts {
		if s.whole[at] && s.got[text] != 1 {
			t.Fatalf("over %d lines the text %d of %d bytes is not got", len(s.lines), at, len(text))
		}
	}
}

func (s *severalLines) wantNothingLost(t *testing.T) {
	t.Helper()
	s.wantWhole(t)
	s.wantAll(t)
	if s.lost != 0 || len(s.bundle.Parts) != 0 {
		t.Fatalf("over %d lines %d are lost, and %d stay", len(s.lines), s.lost, len(s.bundle.Parts))
	}
}

// Promise 11 without loss. The parts stay so close together that no more than MaxParts ever wait.
func TestAllTextsAreGotIfNothingIsLost(t *testing.T) {
	c := &chance{n: 33}
	for links := 1; links <= 8; links++ {
		for _, seq := range []int64{0, 1, 70000, topSeq - 400} {
			for range 10 {
				s := c.sendOver(links, 40, 10, seq, false)
				for s.wait() {
					s.come(t, c.below(links), 30)
				}
				s.wantNothingLost(t)
			}
		}
	}
}

// Promise 11 without loss, where one line may be as far ahead of another as it will.
func TestAllTextsOfFewPartsAreGotInAnyOrder(t *testing.T) {
	c := &chance{n: 34}
	for links := 1; links <= 8; links++ {
		for range 60 {
			s := c.sendOver(links, 8, 5, c.pick(0, 9, topSeq-39), false)
			for s.wait() {
				s.come(t, c.below(1+c.below(links)), topSeq)
				if c.below(30) == 0 {
					s.come(t, c.below(links), topSeq)
				}
			}
			s.wantNothingLost(t)
		}
	}
}

// Promise 11 with loss, on the lines and for lack of room.
func TestWhatIsGotIsWholeWhateverIsLost(t *testing.T) {
	c := &chance{n: 35}
	for links := 1; links <= 8; links++ {
		got, lost := 0, int64(0)
		for range 30 {
			s := c.sendOver(links, 60, c.pick(1, 3, 10, 40), c.pick(0, 70000), true)
			far := c.pick(5, 30, 60, topSeq)
			for s.wait() {
				s.come(t, c.below(links), far)
			}
			s.wantWhole(t)
			if links == 1 {
				s.wantAll(t)
			}
			got, lost = got+len(s.got), lost+s.lost
		}
		if got < 100 || lost < 100 {
			t.Errorf("%d lines: only %d were got, and %d parts lost", links, got, lost)
		}
	}
}

// roomyBundle has lists with room behind them, and texts that lie in memory of their own.
func roomyBundle(b impl.Bundle) impl.Bundle {
	links, parts := make([]int64, 0, len(b.Links)+4), make([]impl.Frag, 0, len(b.Parts)+4)
	for _, f := range b.Parts {
		f.Text = strings.Clone(f.Text)
		parts = append(parts, f)
	}
	return impl.Bundle{Links: append(links, b.Links...), Parts: parts}
}

// wholeBundle is a copy of both lists of a Bundle, with the room behind them.
func wholeBundle(b impl.Bundle) impl.Bundle {
	return impl.Bundle{Links: slices.Clone(b.Links[:cap(b.Links)]), Parts: slices.Clone(b.Parts[:cap(b.Parts)])}
}

func fragTexts(l []impl.Frag) []string {
	var out []string
	for _, f := range l {
		out = append(out, f.Text)
	}
	return out
}

// spoilBundle writes over all that was handed back, and behind it.
func spoilBundle(x impl.BundleOut) {
	for at := range x.Bundle.Links[:cap(x.Bundle.Links)] {
		x.Bundle.Links[:cap(x.Bundle.Links)][at] = 99
	}
	for at := range x.Bundle.Parts[:cap(x.Bundle.Parts)] {
		x.Bundle.Parts[:cap(x.Bundle.Parts)][at] = impl.Frag{Seq: 99}
	}
	for at := range x.Got[:cap(x.Got)] {
		x.Got[:cap(x.Got)][at] = "spoilt"
	}
}

func TestBundlesShareNoMemory(t *testing.T) {
	c := &chance{n: 36}
	for range 3000 {
		b := roomyBundle(c.bundle())
		link, f := c.fragTo(b)
		f.Text = strings.Clone(f.Text)
		before, kept := wholeBundle(b), f
		x, again := impl.BundleHear(b, link, f), impl.BundleHear(b, link, f)
		wantApart(t, "hear", append(fragTexts(b.Parts), f.Text), fragTexts(x.Bundle.Parts), x.Got)
		want := bundleHearByRule(b, link, f)
		spoilBundle(x)
		if !sameBundle(wholeBundle(b), before) || f != kept {
			t.Fatalf("what was handed in is changed: %+v", b)
		}
		wantBundleOut(t, "kept from call to call", again, want)
		wantBundleOut(t, "once more", impl.BundleHear(b, link, f), want)
	}
}

func TestBundleNewIsNewMemory(t *testing.T) {
	spoilBundle(impl.BundleOut{Bundle: impl.BundleNew(3)})
	if got := impl.BundleNew(3); !slices.Equal(got.Links, []int64{-1, -1, -1}) {
		t.Errorf("kept from call to call: %+v", got)
	}
}

func TestFragsShareNoMemory(t *testing.T) {
	f := impl.Frag{Seq: 1, Text: strings.Repeat("plain text ", 3)}
	text := impl.FragBytes(f)
	if sharesText(text, f.Text) {
		t.Error("bytes share memory")
	}
	if sharesText(impl.FragRead(text).Text, text) {
		t.Error("what is read shares memory")
	}
	whole := longText(300)
	for _, size := range []int64{8, 100, 199, 200} {
		l := impl.Cut(whole, size, 0)
		groups := [][]string{{whole}}
		for _, f := range l {
			groups = append(groups, []string{f.Text})
		}
		wantApart(t, fmt.Sprint("cut by ", size), groups...)
	}
	short := strings.Clone("a short one")
	wantApart(t, "one piece", []string{short}, fragTexts(impl.Cut(short, 200, 0)))
}
