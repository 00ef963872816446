package tests

import (
	"fmt"
	"math"
	"slices"
	"strings"
	"testing"

	"loop.example/g00351/impl"
)

// farByRule counts from the one number up to the other, step by step.
func farByRule(n, from int64) int64 {
	steps := int64(0)
	for from != n {
		steps++
		from++
		if from == 8 {
			from = 0
		}
	}
	return steps
}

func isNumber(n int64) bool {
	return n >= 0 && n <= 7
}

func numberedRightByRule(f impl.Numbered) bool {
	if f.Kind == 1 {
		return isNumber(f.Ns) && isNumber(f.Nr) && len(f.Text) <= 200
	}
	return (f.Kind == 2 || f.Kind == 3) && isNumber(f.Nr) && f.Ns == 0 && f.Text == ""
}

func lapbRightByRule(l impl.Lapb) bool {
	for _, text := range l.Queue {
		if len(text) > 200 {
			return false
		}
	}
	if l.Window < 1 || l.Window > 7 || !isNumber(l.Vs) || !isNumber(l.Va) || !isNumber(l.Vr) || len(l.Queue) > 20 {
		return false
	}
	far := farByRule(l.Vs, l.Va)
	return far <= l.Window && far <= int64(len(l.Queue))
}

func putByRule(l impl.Lapb, text string) impl.LapbOut {
	switch {
	case len(text) > 8000:
		return impl.LapbOut{Code: impl.ErrSize}
	case !lapbRightByRule(l) || len(text) > 200:
		return impl.LapbOut{Code: impl.ErrForm}
	case len(l.Queue) == 20:
		return impl.LapbOut{Code: impl.ErrFull}
	}
	l.Queue = slices.Concat(l.Queue, []string{text})
	return impl.LapbOut{Lapb: l}
}

func nextByRule(l impl.Lapb) impl.LapbOut {
	if !lapbRightByRule(l) {
		return impl.LapbOut{Code: impl.ErrForm}
	}
	var send []impl.Numbered
	for far := farByRule(l.Vs, l.Va); far < l.Window && far < int64(len(l.Queue)); far++ {
		send = append(send, impl.Numbered{Kind: 1, Ns: l.Vs, Nr: l.Vr, Text: l.Queue[far]})
		l.Vs = (l.Va + far + 1) % 8
	}
	return impl.LapbOut{Lapb: l, Send: send}
}

func againByRule(l impl.Lapb) impl.LapbOut {
	if !lapbRightByRule(l) {
		return impl.LapbOut{Code: impl.ErrForm}
	}
	l.Vs = l.Va
	return impl.LapbOut{Lapb: l}
}

func lapbHearByRule(l impl.Lapb, f impl.Numbered) impl.LapbOut {
	if !lapbRightByRule(l) || !numberedRightByRule(f) {
		return impl.LapbOut{Code: impl.ErrForm}
	}
	gone := farByRule(f.Nr, l.Va)
	if gone > farByRule(l.Vs, l.Va) {
		return impl.LapbOut{Code: impl.ErrRange}
	}
	out := impl.LapbOut{Lapb: l}
	out.Lapb.Queue, out.Lapb.Va = l.Queue[gone:], f.Nr
	if f.Kind == 3 {
		out.Lapb.Vs = f.Nr
	}
	if f.Kind != 1 {
		return out
	}
	answer := impl.Numbered{Kind: 2, Nr: l.Vr}
	if f.Ns == l.Vr {
		answer.Nr = (l.Vr + 1) % 8
		out.Got, out.Lapb.Vr, out.Lapb.Asked = []string{f.Text}, answer.Nr, false
	} else if !l.Asked {
		answer.Kind, out.Lapb.Asked = 3, true
	}
	out.Send = []impl.Numbered{answer}
	return out
}

func numberedBytesByRule(f impl.Numbered) string {
	if !numberedRightByRule(f) {
		return ""
	}
	first := 32 * f.Nr
	switch f.Kind {
	case 1:
		first += 2 * f.Ns
	case 2:
		first++
	case 3:
		first += 9
	}
	return oneByte(int(first)) + f.Text
}

// numberedReadByRule looks for the right one whose bytes these are among all of them.
func numberedReadByRule(text string) impl.Numbered {
	if text == "" {
		return impl.Numbered{}
	}
	for _, f := range numberedsWithoutText() {
		if f.Kind == 1 {
			f.Text = text[1:]
		}
		if numberedBytesByRule(f) == text {
			return f
		}
	}
	return impl.Numbered{}
}

// numberedsWithoutText are all right ones, FrInfos without Text.
func numberedsWithoutText() []impl.Numbered {
	var out []impl.Numbered
	for nr := range int64(8) {
		for ns := range int64(8) {
			out = append(out, impl.Numbered{Kind: 1, Ns: ns, Nr: nr})
		}
		out = append(out, impl.Numbered{Kind: 2, Nr: nr}, impl.Numbered{Kind: 3, Nr: nr})
	}
	return out
}

func sameLapb(a, b impl.Lapb) bool {
	return a.Window == b.Window && a.Vs == b.Vs && a.Va == b.Va && a.Vr == b.Vr && a.Asked == b.Asked && slices.Equal(a.Queue, b.Queue)
}

func sameLapbOut(a, b impl.LapbOut) bool {
	return sameLapb(a.Lapb, b.Lapb) && slices.Equal(a.Send, b.Send) && slices.Equal(a.Got, b.Got) && a.Code == b.Code
}

func wantLapbOut(t *testing.T, what string, got, want impl.LapbOut) {
	t.Helper()
	if !sameLapbOut(got, want) {
		t.Errorf("%s:\n got %s\nwant %s", what, shownLapbOut(got), shownLapbOut(want))
	}
}

func wantLapbCode(t *testing.T, what string, got impl.LapbOut, code int64) {
	t.Helper()
	wantLapbOut(t, what, got, impl.LapbOut{Code: code})
}

// shownLapbOut is quoted, as texts may be of all kinds of byte.
func shownLapbOut(x impl.LapbOut) string {
	return fmt.Sprintf("%+q", fmt.Sprint(x))
}

// letters are so many texts, each another one.
func letters(count int) []string {
	out := make([]string, count)
	for at := range out {
		out[at] = strings.Repeat(string(rune('a'+at)), 2)
	}
	return out
}

// lapbOf is one with so many texts, of which some were sent.
func lapbOf(window, va, sent int64, count int) impl.Lapb {
	return impl.Lapb{Window: window, Va: va, Vs: (va + sent) % 8, Vr: 5, Queue: letters(count), Asked: true}
}

// lapb is a right one by chance, whether it could be come to or not.
func (c *chance) lapb() impl.Lapb {
	window, count := int64(1+c.below(7)), int(c.pick(0, 1, 2, 3, 6, 7, 8, 9, 19, 20))
	sent := int64(c.below(int(min(window, int64(count))) + 1))
	l := lapbOf(window, int64(c.below(8)), sent, count)
	l.Vr, l.Asked = int64(c.below(8)), c.below(2) == 0
	for at := range l.Queue {
		if c.below(6) == 0 {
			l.Queue[at] = longText(int(c.pick(0, 1, 199, 200)))
		}
	}
	return l
}

// numberedTo is mostly a right one that the end has to do with; some are too far, and some are not right.
func (c *chance) numberedTo(l impl.Lapb) impl.Numbered {
	f := impl.Numbered{Kind: c.pick(1, 1, 1, 2, 3), Nr: l.Va}
	if far := farByRule(l.Vs, l.Va); far > 0 {
		f.Nr = (l.Va + int64(c.below(int(far)+1))) % 8
	}
	if f.Kind == 1 {
		f.Ns = c.pick(l.Vr, l.Vr, int64(c.below(8)))
		f.Text = longText(int(c.pick(0, 1, 2, 5, 199, 200)))
	}
	if c.below(6) == 0 {
		f.Nr = int64(c.below(8))
	}
	if c.below(8) == 0 {
		f = c.wrongNumbered(f)
	}
	return f
}

func (c *chance) wrongNumbered(f impl.Numbered) impl.Numbered {
	switch c.below(5) {
	case 0:
		f.Kind = c.pick(-1, 0, 4)
	case 1:
		f.Nr = c.pick(-1, 8, math.MinInt64)
	case 2:
		f.Ns = c.pick(-1, 8, math.MaxInt64)
	case 3:
		f.Text = longText(201)
	case 4:
		f.Kind, f.Text = c.pick(2, 3), "x"
	}
	return f
}

func wrongNumbers() []int64 {
	return []int64{math.MinInt64, math.MinInt64 + 1, -8, -2, -1, 8, 9, 15, 16, 256, 1 << 32, 1<<32 + 1, math.MaxInt64 - 1, math.MaxInt64}
}

func wrongNumbereds() []impl.Numbered {
	out := []impl.Numbered{{}, {Nr: 1}, {Text: "x"}}
	for _, kind := range []int64{math.MinInt64, -1, 0, 4, 5, 257, 1<<32 + 1, math.MaxInt64} {
		out = append(out, impl.Numbered{Kind: kind}, impl.Numbered{Kind: kind, Ns: 3, Nr: 3, Text: "x"})
	}
	for _, n := range wrongNumbers() {
		out = append(out, impl.Numbered{Kind: 1, Ns: n}, impl.Numbered{Kind: 1, Nr: n}, impl.Numbered{Kind: 1, Ns: n, Nr: n, Text: "x"})
		for kind := int64(2); kind <= 3; kind++ {
			out = append(out, impl.Numbered{Kind: kind, Ns: n}, impl.Numbered{Kind: kind, Nr: n})
		}
	}
	for _, size := range []int{201, 202, 300, 8000, 8001} {
		out = append(out, impl.Numbered{Kind: 1, Text: longText(size)})
	}
	for kind := int64(2); kind <= 3; kind++ {
		for ns := int64(1); ns <= 7; ns++ {
			out = append(out, impl.Numbered{Kind: kind, Ns: ns})
		}
		out = append(out, impl.Numbered{Kind: kind, Text: "x"}, impl.Numbered{Kind: kind, Text: "\x00"}, impl.Numbered{Kind: kind, Text: longText(200)})
	}
	return out
}

func wrongLapbs() []impl.Lapb {
	out := []impl.Lapb{{}, {Queue: letters(3)}}
	add := func(change func(l *impl.Lapb)) {
		l := lapbOf(3, 6, 2, 4)
		change(&l)
		out = append(out, l)
	}
	for _, n := range append(wrongNumbers(), 0) {
		add(func(l *impl.Lapb) { l.Window = n })
	}
	for _, n := range wrongNumbers() {
		add(func(l *impl.Lapb) { l.Vs = n })
		add(func(l *impl.Lapb) { l.Va = n })
		add(func(l *impl.Lapb) { l.Vr = n })
		add(func(l *impl.Lapb) { l.Vs, l.Va = n, n })
	}
	for _, count := range []int{0, 1, 21, 22, 400, 401} {
		add(func(l *impl.Lapb) { l.Queue = slices.Repeat([]string{"x"}, count) })
	}
	for _, size := range []int{201, 202, 8000, 8001} {
		for at := range 4 {
			add(func(l *impl.Lapb) { l.Queue[at] = longText(size) })
		}
	}
	for _, window := range []int64{1, 2} {
		add(func(l *impl.Lapb) { l.Window, l.Vs = window, (6+window+1)%8 })
	}
	return out
}

func TestConstantsOfNumberedFrames(t *testing.T) {
	if got := []int64{impl.MaxQueue, impl.FrInfo, impl.FrReady, impl.FrAgain}; !slices.Equal(got, []int64{20, 1, 2, 3}) {
		t.Errorf("got %v", got)
	}
}

func TestLapbNew(t *testing.T) {
	for window := int64(1); window <= 7; window++ {
		if got := impl.LapbNew(window); !sameLapb(got, impl.Lapb{Window: window}) || !impl.LapbRight(got) {
			t.Errorf("%d: %+v", window, got)
		}
	}
	for _, window := range append(wrongNumbers(), 0) {
		if got := impl.LapbNew(window); !sameLapb(got, impl.Lapb{}) || impl.LapbRight(got) {
			t.Errorf("%d: %+v", window, got)
		}
	}
}

func TestLapbRightOfAllNumbers(t *testing.T) {
	for window := int64(-1); window <= 9; window++ {
		for vs := int64(-1); vs <= 8; vs++ {
			for va := int64(-1); va <= 8; va++ {
				for _, vr := range []int64{-1, 0, 7, 8} {
					for _, count := range []int{0, 1, 2, 3, 4, 5, 6, 7, 8, 19, 20, 21} {
						l := impl.Lapb{Window: window, Vs: vs, Va: va, Vr: vr, Queue: slices.Repeat([]string{"x"}, count)}
						if got := impl.LapbRight(l); got != lapbRightByRule(l) {
							t.Fatalf("%v: %+v", got, l)
						}
					}
				}
			}
		}
	}
}

func TestLapbRightAtTheEdges(t *testing.T) {
	queue := letters(4)
	for _, x := range []struct {
		what string
		l    impl.Lapb
		want bool
	}{
		{"the zero one", impl.Lapb{}, false},
		{"Window 0", impl.Lapb{Window: 0, Queue: queue}, false},
		{"Window 1", impl.Lapb{Window: 1, Queue: queue}, true},
		{"Window 7", impl.Lapb{Window: 7, Queue: queue}, true},
		{"Window 8", impl.Lapb{Window: 8, Queue: queue}, false},
		{"as far as Window", impl.Lapb{Window: 2, Va: 3, Vs: 5, Queue: queue}, true},
		{"one farther than Window", impl.Lapb{Window: 2, Va: 3, Vs: 6, Queue: queue}, false},
		{"as far as Window, from 7 to 0", impl.Lapb{Window: 2, Va: 6, Vs: 0, Queue: queue}, true},
		{"one farther than Window, from 7 to 0", impl.Lapb{Window: 2, Va: 6, Vs: 1, Queue: queue}, false},
		{"as far as there are texts", impl.Lapb{Window: 7, Va: 1, Vs: 5, Queue: queue}, true},
		{"one farther than there are texts", impl.Lapb{Window: 7, Va: 1, Vs: 6, Queue: queue}, false},
		{"as far as there are texts, from 7 to 0", impl.Lapb{Window: 7, Va: 6, Vs: 2, Queue: queue}, true},
		{"one farther than there are texts, from 7 to 0", impl.Lapb{Window: 7, Va: 6, Vs: 3, Queue: queue}, false},
		{"Vs one ahead of Va", impl.Lapb{Window: 7, Va: 3, Vs: 2, Queue: letters(7)}, true},
		{"Vs one ahead of Va, and Window 6", impl.Lapb{Window: 6, Va: 3, Vs: 2, Queue: letters(7)}, false},
		{"Vs one ahead of Va, and 6 texts", impl.Lapb{Window: 7, Va: 3, Vs: 2, Queue: letters(6)}, false},
		{"20 texts", impl.Lapb{Window: 1, Queue: letters(20)}, true},
		{"21 texts", impl.Lapb{Window: 1, Queue: letters(21)}, false},
		{"Asked", impl.Lapb{Window: 1, Vr: 7, Asked: true}, true},
	} {
		if got := impl.LapbRight(x.l); got != x.want {
			t.Errorf("%s: %v", x.what, got)
		}
	}
	for _, size := range []int{0, 1, 199, 200, 201, 202, 8001} {
		for _, at := range []int{0, 7, 19} {
			l := impl.Lapb{Window: 1, Queue: letters(20)}
			l.Queue[at] = longText(size)
			if got := impl.LapbRight(l); got != (size <= 200) {
				t.Errorf("a text %d of %d bytes: %v", at, size, got)
			}
		}
	}
}

func TestLapbRightOfWhatIsWrong(t *testing.T) {
	for at, l := range wrongLapbs() {
		if impl.LapbRight(l) {
			t.Errorf("%d: right: %+v", at, l)
		}
	}
}

func TestPutIsBehindTheOthers(t *testing.T) {
	for _, text := range []string{"", "x", longText(199), longText(200)} {
		for _, count := range []int{0, 1, 2, 7, 8, 18, 19} {
			l := lapbOf(2, 7, int64(min(2, count)), count)
			want := l
			want.Queue = slices.Concat(l.Queue, []string{text})
			wantLapbOut(t, fmt.Sprint("behind ", count), impl.LapbPut(l, text), impl.LapbOut{Lapb: want})
		}
	}
}

func TestFaultsOfPutInTheirOrder(t *testing.T) {
	right, full, wrong := impl.LapbNew(3), lapbOf(3, 7, 2, 20), lapbOf(3, 7, 2, 21)
	for _, x := range []struct {
		what string
		l    impl.Lapb
		size int
		want int64
	}{
		{"201 bytes", right, 201, impl.ErrForm},
		{"most bytes", right, 8000, impl.ErrForm},
		{"one more than most bytes", right, 8001, impl.ErrSize},
		{"full, and no bytes", full, 0, impl.ErrFull},
		{"full", full, 200, impl.ErrFull},
		{"full, and 201 bytes", full, 201, impl.ErrForm},
		{"full, and one more than most bytes", full, 8001, impl.ErrSize},
		{"one text too many", wrong, 1, impl.ErrForm},
		{"one text too many, and 201 bytes", wrong, 201, impl.ErrForm},
		{"one text too many, and one more than most bytes", wrong, 8001, impl.ErrSize},
		{"the zero one, and one more than most bytes", impl.Lapb{}, 8001, impl.ErrSize},
	} {
		wantLapbCode(t, x.what, impl.LapbPut(x.l, longText(x.size)), x.want)
	}
}

func TestWhatIsNotRightIsRefused(t *testing.T) {
	for at, l := range wrongLapbs() {
		what := fmt.Sprint("wrong ", at)
		wantLapbCode(t, what+" put", impl.LapbPut(l, "x"), impl.ErrForm)
		wantLapbCode(t, what+" next", impl.LapbNext(l), impl.ErrForm)
		wantLapbCode(t, what+" again", impl.LapbAgain(l), impl.ErrForm)
		for _, f := range []impl.Numbered{{Kind: 1, Text: "x"}, {Kind: 2, Nr: 7}, {Kind: 3, Nr: 3}, {}} {
			wantLapbCode(t, what+" hear", impl.LapbHear(l, f), impl.ErrForm)
		}
	}
}

// infos are FrInfos of the texts, of the numbers from ns on.
func infos(ns, nr int64, texts ...string) []impl.Numbered {
	var out []impl.Numbered
	for at, text := range texts {
		out = append(out, impl.Numbered{Kind: impl.FrInfo, Ns: (ns + int64(at)) % 8, Nr: nr, Text: text})
	}
	return out
}

func TestNextThatIsKnown(t *testing.T) {
	for _, x := range []struct {
		what string
		l    impl.Lapb
		vs   int64
		send []impl.Numbered
	}{
		{"no texts", lapbOf(3, 6, 0, 0), 6, nil},
		{"all sent, and room in the window", lapbOf(3, 6, 2, 2), 0, nil},
		{"a full window", lapbOf(3, 6, 3, 9), 1, nil},
		{"a full window of 1", lapbOf(1, 7, 1, 9), 0, nil},
		{"a full window of 7", lapbOf(7, 3, 7, 20), 2, nil},
		{"none sent", lapbOf(3, 6, 0, 9), 1, infos(6, 5, "aa", "bb", "cc")},
		{"a window that is half sent", lapbOf(4, 6, 2, 9), 2, infos(0, 5, "cc", "dd")},
		{"one sent, from 7 to 0", lapbOf(3, 6, 1, 9), 1, infos(7, 5, "bb", "cc")},
		{"fewer texts than the window", lapbOf(5, 6, 0, 3), 1, infos(6, 5, "aa", "bb", "cc")},
		{"fewer texts than the window, half sent", lapbOf(5, 6, 1, 3), 1, infos(7, 5, "bb", "cc")},
		{"as many texts as the window", lapbOf(3, 0, 0, 3), 3, infos(0, 5, "aa", "bb", "cc")},
		{"a window of 1", lapbOf(1, 7, 0, 20), 0, infos(7, 5, "aa")},
		{"a window of 7", lapbOf(7, 2, 0, 20), 1, infos(2, 5, "aa", "bb", "cc", "dd", "ee", "ff", "gg")},
		{"the last one of 7", lapbOf(7, 2, 6, 7), 1, infos(0, 5, "gg")},
	} {
		want := x.l
		want.Vs = x.vs
		wantLapbOut(t, x.what, impl.LapbNext(x.l), impl.LapbOut{Lapb: want, Send: x.send})
	}
}

func TestAgainThatIsKnown(t *testing.T) {
	for va := range int64(8) {
		for sent := range int64(8) {
			l := lapbOf(7, va, sent, 9)
			want := l
			want.Vs = va
			x := impl.LapbAgain(l)
			wantLapbOut(t, fmt.Sprint("again from ", va, " with ", sent), x, impl.LapbOut{Lapb: want})
			wantLapbOut(t, fmt.Sprint("sent again from ", va), impl.LapbNext(x.Lapb), nextByRule(want))
		}
	}
}

func TestHearOfWhatIsNotRight(t *testing.T) {
	for at, f := range wrongNumbereds() {
		for _, l := range []impl.Lapb{impl.LapbNew(7), lapbOf(3, 6, 2, 4), lapbOf(7, 1, 7, 20)} {
			wantLapbCode(t, fmt.Sprint("hear of wrong ", at), impl.LapbHear(l, f), impl.ErrForm)
		}
	}
}

// A number that is too far is refused for each kind, and what the frame carries besides is lost with it.
func TestHearOfEachNr(t *testing.T) {
	for va := range int64(8) {
		for sent := range int64(8) {
			for nr := range int64(8) {
				l := lapbOf(7, va, sent, 9)
				gone := (nr - va + 8) % 8
				for _, f := range []impl.Numbered{{Kind: 1, Ns: 5, Nr: nr, Text: "x"}, {Kind: 1, Ns: 4, Nr: nr}, {Kind: 2, Nr: nr}, {Kind: 3, Nr: nr}} {
					what, x := fmt.Sprintf("%+v of %d sent from %d", f, sent, va), impl.LapbHear(l, f)
					if gone > sent {
						wantLapbCode(t, what, x, impl.ErrRange)
						continue
					}
					if x.Code != impl.OK || x.Lapb.Va != nr || !slices.Equal(x.Lapb.Queue, l.Queue[gone:]) {
						t.Errorf("%s: %s", what, shownLapbOut(x))
					}
					wantLapbOut(t, what, x, lapbHearByRule(l, f))
				}
			}
		}
	}
}

func TestHearOfNrThatIsKnown(t *testing.T) {
	l := lapbOf(4, 6, 3, 5) // of the numbers 6, 7 and 0 were sent "aa", "bb" and "cc"
	after := func(va, vs int64, queue ...string) impl.LapbOut {
		return impl.LapbOut{Lapb: impl.Lapb{Window: 4, Vs: vs, Va: va, Vr: 5, Queue: queue, Asked: true}}
	}
	for _, x := range []struct {
		what string
		f    impl.Numbered
		want impl.LapbOut
	}{
		{"ready of none", impl.Numbered{Kind: 2, Nr: 6}, after(6, 1, "aa", "bb", "cc", "dd", "ee")},
		{"ready of one", impl.Numbered{Kind: 2, Nr: 7}, after(7, 1, "bb", "cc", "dd", "ee")},
		{"ready of two", impl.Numbered{Kind: 2, Nr: 0}, after(0, 1, "cc", "dd", "ee")},
		{"ready as far as Vs", impl.Numbered{Kind: 2, Nr: 1}, after(1, 1, "dd", "ee")},
		{"ready one farther", impl.Numbered{Kind: 2, Nr: 2}, impl.LapbOut{Code: impl.ErrRange}},
		{"ready one ahead of Va", impl.Numbered{Kind: 2, Nr: 5}, impl.LapbOut{Code: impl.ErrRange}},
		{"again of none", impl.Numbered{Kind: 3, Nr: 6}, after(6, 6, "aa", "bb", "cc", "dd", "ee")},
		{"again of one", impl.Numbered{Kind: 3, Nr: 7}, after(7, 7, "bb", "cc", "dd", "ee")},
		{"again of two", impl.Numbered{Kind: 3, Nr: 0}, after(0, 0, "cc", "dd", "ee")},
		{"again as far as Vs", impl.Numbered{Kind: 3, Nr: 1}, after(1, 1, "dd", "ee")},
		{"again one farther", impl.Numbered{Kind: 3, Nr: 2}, impl.LapbOut{Code: impl.ErrRange}},
		{"again one ahead of Va", impl.Numbered{Kind: 3, Nr: 5}, impl.LapbOut{Code: impl.ErrRange}},
		{"info one farther", impl.Numbered{Kind: 1, Ns: 5, Nr: 2, Text: "x"}, impl.LapbOut{Code: impl.ErrRange}},
	} {
		wantLapbOut(t, x.what, impl.LapbHear(l, x.f), x.want)
	}
	// What is sent once more begins with the first that was not heard.
	x := impl.LapbNext(impl.LapbHear(l, impl.Numbered{Kind: 3, Nr: 7}).Lapb)
	if want := infos(7, 5, "bb", "cc", "dd", "ee"); !slices.Equal(x.Send, want) || x.Lapb.Vs != 3 {
		t.Errorf("once more: %s", shownLapbOut(x))
	}
}

func TestHearOfAnInfo(t *testing.T) {
	for vr := range int64(8) {
		for ns := range int64(8) {
			for _, asked := range []bool{false, true} {
				l := impl.Lapb{Window: 2, Vs: 1, Va: 0, Vr: vr, Queue: []string{"a"}, Asked: asked}
				want := impl.LapbOut{Lapb: l}
				want.Lapb.Va, want.Lapb.Queue = 1, nil
				switch {
				case ns == vr:
					next := (vr + 1) % 8
					want.Lapb.Vr, want.Lapb.Asked, want.Got = next, false, []string{"text"}
					want.Send = []impl.Numbered{{Kind: impl.FrReady, Nr: next}}
				case asked:
					want.Send = []impl.Numbered{{Kind: impl.FrReady, Nr: vr}}
				default:
					want.Lapb.Asked = true
					want.Send = []impl.Numbered{{Kind: impl.FrAgain, Nr: vr}}
				}
				x := impl.LapbHear(l, impl.Numbered{Kind: impl.FrInfo, Ns: ns, Nr: 1, Text: "text"})
				wantLapbOut(t, fmt.Sprint("Ns ", ns, ", Vr ", vr, ", Asked ", asked), x, want)
			}
		}
	}
}

func TestHearOfAnInfoOfEachSize(t *testing.T) {
	l := impl.Lapb{Window: 2, Vr: 7}
	for _, size := range []int{0, 1, 199, 200} {
		text := longText(size)
		want := impl.LapbOut{Lapb: impl.Lapb{Window: 2}, Send: []impl.Numbered{{Kind: 2}}, Got: []string{text}}
		wantLapbOut(t, fmt.Sprint(size, " bytes"), impl.LapbHear(l, impl.Numbered{Kind: 1, Ns: 7, Text: text}), want)
	}
	wantLapbCode(t, "201 bytes", impl.LapbHear(l, impl.Numbered{Kind: 1, Ns: 7, Text: longText(201)}), impl.ErrForm)
}

// A second one out of order is not asked for again; the one that was lacking lets it be asked for anew.
func TestItIsAskedForButOnce(t *testing.T) {
	l := impl.LapbNew(3)
	for at, x := range []struct {
		ns     int64
		answer impl.Numbered
		asked  bool
		got    int
	}{
		{0, impl.Numbered{Kind: 2, Nr: 1}, false, 1},
		{2, impl.Numbered{Kind: 3, Nr: 1}, true, 0},
		{3, impl.Numbered{Kind: 2, Nr: 1}, true, 0},
		{0, impl.Numbered{Kind: 2, Nr: 1}, true, 0},
		{1, impl.Numbered{Kind: 2, Nr: 2}, false, 1},
		{1, impl.Numbered{Kind: 3, Nr: 2}, true, 0},
		{2, impl.Numbered{Kind: 2, Nr: 3}, false, 1},
	} {
		got := impl.LapbHear(l, impl.Numbered{Kind: 1, Ns: x.ns, Text: "x"})
		if got.Code != impl.OK || !slices.Equal(got.Send, []impl.Numbered{x.answer}) || got.Lapb.Asked != x.asked || len(got.Got) != x.got {
			t.Errorf("%d: %s", at, shownLapbOut(got))
		}
		l = got.Lapb
	}
}

func TestLapbIsByTheRule(t *testing.T) {
	c := &chance{n: 20}
	for range 20000 {
		l := c.lapb()
		if !impl.LapbRight(l) {
			t.Fatalf("right: %+v", l)
		}
		f, text := c.numberedTo(l), longText(int(c.pick(0, 1, 199, 200, 201, 8000, 8001)))
		wantLapbOut(t, "put", impl.LapbPut(l, text), putByRule(l, text))
		wantLapbOut(t, "next", impl.LapbNext(l), nextByRule(l))
		wantLapbOut(t, "again", impl.LapbAgain(l), againByRule(l))
		wantLapbOut(t, fmt.Sprintf("hear of %+v", f), impl.LapbHear(l, f), lapbHearByRule(l, f))
		if t.Failed() {
			return
		}
	}
}

// Promise 8 of what one call handed back.
func keepsLapbPromise(t *testing.T, before impl.Lapb, x impl.LapbOut) {
	t.Helper()
	if x.Code != impl.OK {
		wantLapbCode(t, "beside a code", x, x.Code)
		return
	}
	if !impl.LapbRight(x.Lapb) || !lapbRightByRule(x.Lapb) || x.Lapb.Window != before.Window {
		t.Fatalf("a right one is not right any more:\n%+v\n%s", before, shownLapbOut(x))
	}
	for _, f := range x.Send {
		if impl.NumberedBytes(f) == "" {
			t.Fatalf("one is sent that is not right: %+v", f)
		}
	}
}

// sendsWithinWindow looks at what LapbNext sent of texts of which the first has the number Va.
func sendsWithinWindow(t *testing.T, before impl.Lapb, texts []string, x impl.LapbOut) {
	t.Helper()
	at := farByRule(before.Vs, before.Va)
	for _, f := range x.Send {
		if f.Kind != impl.FrInfo || f.Ns != (before.Va+at)%8 || f.Nr != before.Vr || f.Text != texts[at] {
			t.Fatalf("the text of the number %d: %+v", at, f)
		}
		at++
	}
	if at != min(before.Window, int64(len(texts))) {
		t.Fatalf("%d are sent of %d texts in a window of %d", at, len(texts), before.Window)
	}
	if farByRule(x.Lapb.Vs, before.Va) != at || x.Lapb.Va != before.Va || len(x.Got) != 0 {
		t.Fatalf("behind what was sent: %s", shownLapbOut(x))
	}
}

// numberedWay is a Lapb on its way, with all texts that were put to it, and how many of them are gone.
type numberedWay struct {
	lapb impl.Lapb
	put  []string
	gone int
}

func (w *numberedWay) take(t *testing.T, x impl.LapbOut) {
	t.Helper()
	keepsLapbPromise(t, w.lapb, x)
	if x.Code != impl.OK {
		return
	}
	w.gone += int(farByRule(x.Lapb.Va, w.lapb.Va))
	w.lapb = x.Lapb
	if !slices.Equal(w.lapb.Queue, w.put[w.gone:]) || w.lapb.Va != int64(w.gone%8) {
		t.Fatalf("of %d texts %d are gone: %+v", len(w.put), w.gone, w.lapb)
	}
}

func (w *numberedWay) step(t *testing.T, c *chance) {
	t.Helper()
	switch c.below(8) {
	case 0, 1:
		x := impl.LapbNext(w.lapb)
		sendsWithinWindow(t, w.lapb, w.put[w.gone:], x)
		w.take(t, x)
	case 2:
		w.take(t, impl.LapbAgain(w.lapb))
	case 3, 4:
		w.take(t, impl.LapbHear(w.lapb, c.numberedTo(w.lapb)))
	default:
		text := fmt.Sprint("text ", len(w.put))
		if c.below(10) == 0 {
			text = longText(int(c.pick(0, 200, 201, 8001)))
		}
		x := impl.LapbPut(w.lapb, text)
		if x.Code == impl.OK {
			w.put = append(w.put, text)
		}
		w.take(t, x)
	}
}

// Promise 8.
func TestARightLapbStaysRight(t *testing.T) {
	c := &chance{n: 21}
	for window := int64(1); window <= 7; window++ {
		w := &numberedWay{lapb: impl.LapbNew(window)}
		for range 4000 {
			w.step(t, c)
		}
		if w.gone < 100 {
			t.Errorf("window %d: only %d went", window, w.gone)
		}
	}
}

// Promise 8 from each right one on, whether it could be come to or not.
func TestEachRightLapbStaysRight(t *testing.T) {
	c := &chance{n: 22}
	for range 5000 {
		l := c.lapb()
		for range 4 {
			f := c.numberedTo(l)
			for _, x := range []impl.LapbOut{impl.LapbPut(l, "x"), impl.LapbAgain(l), impl.LapbHear(l, f)} {
				keepsLapbPromise(t, l, x)
			}
			next := impl.LapbNext(l)
			keepsLapbPromise(t, l, next)
			sendsWithinWindow(t, l, l.Queue, next)
			if x := impl.LapbHear(next.Lapb, f); x.Code == impl.OK {
				l = x.Lapb
			}
		}
	}
}

// numberedLine is what two ends say to each other, as bytes, some of which are lost.
type numberedLine struct {
	ends [2]impl.Lapb
	got  []string
}

func (n *numberedLine) pass(t *testing.T, c *chance, to int, frames []impl.Numbered) {
	t.Helper()
	for _, f := range frames {
		if c.below(4) == 0 {
			continue
		}
		x := impl.LapbHear(n.ends[to], impl.NumberedRead(impl.NumberedBytes(f)))
		keepsLapbPromise(t, n.ends[to], x)
		if x.Code != impl.OK {
			continue
		}
		n.ends[to] = x.Lapb
		n.got = append(n.got, x.Got...)
		n.pass(t, c, 1-to, x.Send)
	}
}

func TestTextsComeOverALineThatLoses(t *testing.T) {
	c := &chance{n: 23}
	for window := int64(1); window <= 7; window++ {
		n := &numberedLine{ends: [2]impl.Lapb{impl.LapbNew(window), impl.LapbNew(window)}}
		for _, text := range letters(20) {
			n.ends[0] = impl.LapbPut(n.ends[0], text).Lapb
		}
		for rounds := 0; len(n.ends[0].Queue) > 0 && rounds < 1000; rounds++ {
			x := impl.LapbNext(n.ends[0])
			n.ends[0] = x.Lapb
			n.pass(t, c, 1, x.Send)
			n.ends[0] = impl.LapbAgain(n.ends[0]).Lapb
		}
		if !slices.Equal(n.got, letters(20)) {
			t.Errorf("window %d: %q", window, n.got)
		}
	}
}

func TestNumberedBytesThatAreKnown(t *testing.T) {
	for _, x := range []struct {
		f    impl.Numbered
		want string
	}{
		{impl.Numbered{Kind: 1}, "\x00"},
		{impl.Numbered{Kind: 1, Text: "ab"}, "\x00ab"},
		{impl.Numbered{Kind: 1, Ns: 1, Text: "\x00"}, "\x02\x00"},
		{impl.Numbered{Kind: 1, Ns: 7}, "\x0e"},
		{impl.Numbered{Kind: 1, Nr: 1}, "\x20"},
		{impl.Numbered{Kind: 1, Ns: 3, Nr: 2, Text: "x"}, "\x46x"},
		{impl.Numbered{Kind: 1, Ns: 7, Nr: 7, Text: "\xff"}, "\xee\xff"},
		{impl.Numbered{Kind: 2}, "\x01"},
		{impl.Numbered{Kind: 2, Nr: 1}, "\x21"},
		{impl.Numbered{Kind: 2, Nr: 7}, "\xe1"},
		{impl.Numbered{Kind: 3}, "\x09"},
		{impl.Numbered{Kind: 3, Nr: 4}, "\x89"},
		{impl.Numbered{Kind: 3, Nr: 7}, "\xe9"},
	} {
		if got := impl.NumberedBytes(x.f); got != x.want {
			t.Errorf("%+v: %x", x.f, got)
		}
		if got := impl.NumberedRead(x.want); got != x.f {
			t.Errorf("%x: %+v", x.want, got)
		}
	}
}

// Promise 8: right ones come back from their bytes.
func TestRightNumberedsComeBackFromTheirBytes(t *testing.T) {
	for _, f := range numberedsWithoutText() {
		sizes := []int{0}
		if f.Kind == impl.FrInfo {
			sizes = []int{0, 1, 2, 100, 199, 200}
		}
		for _, size := range sizes {
			f.Text = longText(size)
			text := impl.NumberedBytes(f)
			if text != numberedBytesByRule(f) || impl.NumberedRead(text) != f {
				t.Errorf("%+v: %x: %+v", f, text, impl.NumberedRead(text))
			}
		}
	}
}

func TestNumberedBytesOfWhatIsNotRight(t *testing.T) {
	for at, f := range wrongNumbereds() {
		if got := impl.NumberedBytes(f); got != "" {
			t.Errorf("%d: %x", at, got)
		}
	}
}

// Of all first bytes 80 are those of a right one, and 16 of these have nothing behind them.
func TestNumberedReadOfEachFirstByte(t *testing.T) {
	right := map[int]int{}
	for first := range 256 {
		for _, size := range []int{0, 1, 2, 199, 200, 201, 202, 300, 7999, 8000} {
			text := oneByte(first) + longText(size)
			got := impl.NumberedRead(text)
			if got != numberedReadByRule(text) {
				t.Errorf("%x and %d bytes: %+v", first, size, got)
			}
			if got != (impl.Numbered{}) {
				right[size]++
			}
		}
	}
	for size, want := range map[int]int{0: 80, 1: 64, 199: 64, 200: 64, 201: 0, 202: 0, 8000: 0} {
		if right[size] != want {
			t.Errorf("%d are right with %d bytes", right[size], size)
		}
	}
}

func TestNumberedReadAtTheEdges(t *testing.T) {
	for _, text := range []string{
		"",
		"\x01x", "\x01\x00", "\xe1\x01", "\x09x", "\xe9\x09",
		"\x03", "\x05", "\x07", "\x0b", "\x0d", "\x0f", "\x10", "\x11", "\x12", "\x19", "\x1e", "\x1f", "\xf0", "\xf1", "\xff",
		"\x10x", "\xffx",
		"\x00" + longText(200) + "x",
		"\x00" + longText(7999), "\x00" + longText(8000), longText(8001),
	} {
		if got := impl.NumberedRead(text); got != (impl.Numbered{}) {
			t.Errorf("%.10q of %d bytes: %+v", text, len(text), got)
		}
	}
	if got := impl.NumberedRead("\x00" + longText(200)); got != (impl.Numbered{Kind: 1, Text: longText(200)}) {
		t.Errorf("200 bytes: %+v", got)
	}
}

// roomyLapb has a Queue with room behind it, and texts that lie in memory of their own.
func roomyLapb(l impl.Lapb) impl.Lapb {
	out := make([]string, 0, len(l.Queue)+9)
	for _, text := range l.Queue {
		out = append(out, strings.Clone(text))
	}
	l.Queue = out
	return l
}

func copiedLapbOut(x impl.LapbOut) impl.LapbOut {
	x.Lapb.Queue, x.Send, x.Got = slices.Clone(x.Lapb.Queue), slices.Clone(x.Send), slices.Clone(x.Got)
	return x
}

func wantNoLapbShared(t *testing.T, what string, given []string, x impl.LapbOut) {
	t.Helper()
	var sent []string
	for _, f := range x.Send {
		sent = append(sent, f.Text)
	}
	wantApart(t, what, given, x.Lapb.Queue, sent, x.Got)
}

// spoilLapb writes over all that was handed back, and behind it.
func spoilLapb(x impl.LapbOut) {
	for _, l := range [][]string{x.Lapb.Queue, x.Got} {
		for at := range l[:cap(l)] {
			l[:cap(l)][at] = "spoilt"
		}
	}
	for at := range x.Send[:cap(x.Send)] {
		x.Send[:cap(x.Send)][at] = impl.Numbered{}
	}
}

func TestLapbsShareNoMemory(t *testing.T) {
	c := &chance{n: 24}
	for range 2000 {
		l := roomyLapb(c.lapb())
		f, text := c.numberedTo(l), strings.Clone("one more")
		f.Text = strings.Clone(f.Text)
		calls := []func() impl.LapbOut{
			func() impl.LapbOut { return impl.LapbPut(l, text) },
			func() impl.LapbOut { return impl.LapbNext(l) },
			func() impl.LapbOut { return impl.LapbAgain(l) },
			func() impl.LapbOut { return impl.LapbHear(l, f) },
		}
		room := slices.Clone(l.Queue[:cap(l.Queue)])
		for at, call := range calls {
			what := fmt.Sprint("call ", at)
			x, again := call(), call()
			wantNoLapbShared(t, what, append(slices.Clone(l.Queue), text, f.Text), x)
			want := copiedLapbOut(again)
			spoilLapb(x)
			if !slices.Equal(l.Queue[:cap(l.Queue)], room) {
				t.Fatalf("%s: what was handed in is changed: %+v", what, l)
			}
			wantLapbOut(t, what+", kept from call to call", again, want)
			wantLapbOut(t, what+", once more", call(), want)
		}
	}
}

func TestNumberedsShareNoMemory(t *testing.T) {
	f := impl.Numbered{Kind: 1, Text: strings.Repeat("plain text ", 3)}
	text := impl.NumberedBytes(f)
	if sharesText(text, f.Text) {
		t.Error("bytes share memory")
	}
	if sharesText(impl.NumberedRead(text).Text, text) {
		t.Error("what is read shares memory")
	}
}
