package tests

import (
	"fmt"
	"math"
	"slices"
	"strings"
	"testing"

	"loop.example/g00351/impl"
)

// frameSent is a frame on its way: its bytes, and the text that they were made of.
type frameSent struct{ bytes, text string }

// lineWords is the document's words about a numbered line, with the ends a and b at 0 and 1.
type lineWords struct {
	lapbs     [2]impl.Lapb
	deframers [2]impl.Deframer
	lines     [2][]frameSent
	out       impl.LineOut
}

func infoFrame(ns int, text string) string {
	return frameByRule("\x21"+oneByte(2*ns)+text, 0, false)
}

// withoutFirst is the same list, if that is empty.
func withoutFirst[T any](l []T) []T {
	if len(l) == 0 {
		return l
	}
	return l[1:]
}

// withFirstTwice is the same list, if that is empty, or has no room.
func withFirstTwice[T any](l []T) []T {
	if len(l) == 0 || len(l) == 40 {
		return l
	}
	return slices.Concat(l[:1], l)
}

func turnedBit(bytes string, n int64) string {
	at := n % int64(8*len(bytes))
	out := []byte(bytes)
	out[at/8] ^= []byte{1, 2, 4, 8, 16, 32, 64, 128}[at%8]
	return string(out)
}

func (w *lineWords) tells(end int, x impl.LapbOut) {
	if x.Code != 0 {
		return
	}
	w.lapbs[end] = x.Lapb
	for _, f := range x.Send {
		text := packByRule(33, numberedBytesByRule(f), true, true)
		if len(w.lines[end]) < 40 {
			w.lines[end] = append(slices.Clone(w.lines[end]), frameSent{bytes: frameByRule(text, 0, false), text: text})
		}
	}
	if end == 1 {
		w.out.Got = append(w.out.Got, x.Got...)
	}
}

func (w *lineWords) comesFrom(end int) {
	if len(w.lines[end]) == 0 {
		return
	}
	f, to := w.lines[end][0], 1-end
	w.lines[end] = withoutFirst(w.lines[end])
	var found []impl.Found
	w.deframers[to], found = deframeByRule(w.deframers[to], f.bytes)
	first := true
	for _, x := range found {
		if x.Kind != 1 {
			w.out.Bad++
			continue
		}
		if !first || x.Text != f.text {
			w.out.False++
		}
		first = false
		p := unpackByRule(x.Text)
		if n := numberedReadByRule(p.Text); p.Code == 0 && p.Proto == 33 && n != (impl.Numbered{}) {
			w.tells(to, lapbHearByRule(w.lapbs[to], n))
		}
	}
}

func (w *lineWords) happens(event int64) {
	if event < 0 {
		return
	}
	switch event % 8 {
	case 0:
		w.tells(0, nextByRule(w.lapbs[0]))
	case 1:
		w.comesFrom(0)
	case 2:
		w.lines[0] = withoutFirst(w.lines[0])
	case 3:
		w.lines[0] = withFirstTwice(w.lines[0])
	case 4:
		if len(w.lines[0]) > 0 {
			w.lines[0] = slices.Clone(w.lines[0])
			w.lines[0][0].bytes = turnedBit(w.lines[0][0].bytes, event/8)
		}
	case 5:
		w.comesFrom(1)
	case 6:
		w.lines[1] = withoutFirst(w.lines[1])
	case 7:
		w.tells(0, againByRule(w.lapbs[0]))
	}
}

func lineRunByRule(texts []string, window int64, script []int64, settle bool) impl.LineOut {
	switch {
	case len(texts) > 400 || len(script) > 400:
		return impl.LineOut{Code: impl.ErrSize}
	case len(texts) < 1 || len(texts) > 20 || window < 1 || window > 7:
		return impl.LineOut{Code: impl.ErrForm}
	case slices.ContainsFunc(texts, func(text string) bool { return len(text) > 200 }):
		return impl.LineOut{Code: impl.ErrForm}
	}
	w := &lineWords{lapbs: [2]impl.Lapb{{Window: window, Queue: texts}, {Window: window}}}
	for _, event := range script {
		w.happens(event)
	}
	for round := 0; settle && round < 100; round++ {
		w.happens(0)
		for end := range 2 {
			for len(w.lines[end]) > 0 {
				w.comesFrom(end)
			}
		}
		w.happens(7)
	}
	w.out.Done = len(w.lapbs[0].Queue) == 0
	return w.out
}

// meetWords is the document's words about two ends that meet.
type meetWords struct {
	t     *testing.T
	ends  [2]impl.End
	lines [2][]impl.Packet
	now   int64
}

func (w *meetWords) tells(end int, x impl.EndOut) {
	if x.Code != 0 {
		return
	}
	w.ends[end] = x.End
	for _, p := range x.Send {
		if len(w.lines[end]) < 40 {
			w.lines[end] = append(slices.Clone(w.lines[end]), p)
		}
	}
}

func (w *meetWords) happens(event int64) {
	end := int(event / 3)
	switch event {
	case 0, 3:
		if len(w.lines[end]) > 0 {
			p := w.lines[end][0]
			w.lines[end] = withoutFirst(w.lines[end])
			w.tells(1-end, hearByRule(w.t, w.ends[1-end], p, w.now))
		}
	case 1, 4:
		w.lines[end] = withoutFirst(w.lines[end])
	case 2, 5:
		w.lines[end] = withFirstTwice(w.lines[end])
	case 6:
		w.now++
		for end := range w.ends {
			w.tells(end, tickByRule(w.t, w.ends[end], w.now))
		}
	}
}

func meetRunByRule(t *testing.T, a, b impl.Config, script []int64, settle bool) impl.MeetOut {
	t.Helper()
	if len(script) > 400 {
		return impl.MeetOut{Code: impl.ErrSize}
	}
	if !configRightByRule(a) || !configRightByRule(b) {
		return impl.MeetOut{Code: impl.ErrForm}
	}
	w := &meetWords{t: t, ends: [2]impl.End{{Config: a, Asks: a, Due: -1}, {Config: b, Asks: b, Due: -1}}}
	for end := range w.ends {
		w.tells(end, doByRule(t, w.ends[end], "Open", 0))
		w.tells(end, doByRule(t, w.ends[end], "Up", 0))
	}
	for _, event := range script {
		if event >= 0 && event <= 6 {
			w.happens(event)
		}
	}
	for round := 0; settle && round < 100; round++ {
		for end := range int64(2) {
			for range len(w.lines[end]) {
				w.happens(3 * end)
			}
		}
		w.happens(6)
	}
	return impl.MeetOut{A: w.ends[0], B: w.ends[1]}
}

func sameLineOut(a, b impl.LineOut) bool {
	return slices.Equal(a.Got, b.Got) && a.Done == b.Done && a.Bad == b.Bad && a.False == b.False && a.Code == b.Code
}

func wantLineOut(t *testing.T, what string, got, want impl.LineOut) {
	t.Helper()
	if !sameLineOut(got, want) {
		t.Errorf("%s:\n got %+q\nwant %+q", what, fmt.Sprintf("%+v", got), fmt.Sprintf("%+v", want))
	}
}

func wantMeetOut(t *testing.T, what string, got, want impl.MeetOut) {
	t.Helper()
	if !sameEnd(got.A, want.A) || !sameEnd(got.B, want.B) || got.Code != want.Code {
		t.Errorf("%s:\n got %+q\nwant %+q", what, fmt.Sprintf("%+v", got), fmt.Sprintf("%+v", want))
	}
}

// turn is the event that turns that bit of the first frame.
func turn(bit int) int64 {
	return int64(4 + 8*bit)
}

// turnsInto are the events that make the other bytes of a first frame that is as long.
func turnsInto(bytes, other string) []int64 {
	var out []int64
	for bit := range 8 * len(bytes) {
		if bytes[bit/8]>>(bit%8)&1 != other[bit/8]>>(bit%8)&1 {
			out = append(out, turn(bit))
		}
	}
	return out
}

// events puts together single ones, and lists of them.
func events(parts ...any) []int64 {
	var out []int64
	for _, part := range parts {
		switch x := part.(type) {
		case int:
			out = append(out, int64(x))
		case int64:
			out = append(out, x)
		case []int64:
			out = append(out, x...)
		}
	}
	return out
}

func times(count int, parts ...any) []int64 {
	return slices.Repeat(events(parts...), count)
}

func got(texts ...string) impl.LineOut {
	return impl.LineOut{Got: texts}
}

func done(texts ...string) impl.LineOut {
	return impl.LineOut{Got: texts, Done: true}
}

func spoilt(bad, untrue int64, texts ...string) impl.LineOut {
	return impl.LineOut{Got: texts, Bad: bad, False: untrue}
}

func TestConstantsOverTheLine(t *testing.T) {
	if impl.MaxLine != 40 {
		t.Error("MaxLine is", impl.MaxLine)
	}
}

func TestLineRunThatIsKnown(t *testing.T) {
	one, two := []string{"one"}, []string{"one", "two"}
	for _, x := range []struct {
		what   string
		texts  []string
		window int64
		script []int64
		want   impl.LineOut
	}{
		{"nothing happens", two, 7, nil, got()},
		{"sent, and on its way", two, 7, events(0), got()},
		{"come, and not told yet", one, 7, events(0, 1), got("one")},
		{"told", one, 7, events(0, 1, 5), done("one")},
		{"told of the first alone", two, 7, events(0, 1, 1, 5), got("one", "two")},
		{"told of both", two, 7, events(0, 1, 1, 5, 5), done("one", "two")},
		{"the last telling is enough", two, 7, events(0, 1, 1, 6, 5), done("one", "two")},
		{"the last telling is lost", two, 7, events(0, 1, 1, 5, 6, 5), got("one", "two")},
		{"a window of one", two, 1, events(0, 0, 1, 1, 5, 5), got("one")},
		{"a window of one, filled again", two, 1, events(0, 1, 5, 0, 1, 5), done("one", "two")},
		{"the first is lost", two, 7, events(0, 2, 1), got()},
		{"the first is lost, and asked for", two, 7, events(0, 2, 1, 5, 0, 1, 1), got("one", "two")},
		{"the second is lost", two, 7, events(0, 1, 2, 1), got("one")},
		{"sent again", one, 7, events(0, 2, 7, 0, 1), got("one")},
		{"not sent again by itself", one, 7, events(0, 2, 0, 1), got()},
		{"twice there, got once", two, 7, events(0, 3, 1, 1, 1), got("one", "two")},
		{"behind itself, not behind the others", two, 7, events(0, 3, 1, 2, 1), got("one", "two")},
		{"spoilt", one, 7, events(0, turn(20), 1), spoilt(1, 0)},
		{"spoilt and lost", one, 7, events(0, turn(20), 2, 1), got()},
		{"turned, and back", one, 7, events(0, turn(20), turn(20), 1), got("one")},
		{"turned by chance of its own number", one, 7, events(0, turn(20), turn(21), 1), spoilt(1, 0)},
		{"there once more, and turned once", one, 7, events(0, 3, turn(20), 1, 1), spoilt(1, 0, "one")},
		{"turned, and there once more", one, 7, events(0, turn(20), 3, 1, 1), spoilt(2, 0)},
		{"only the first is turned", two, 7, events(0, turn(20), 2, 1, 7, 0, 1, 1), got("one", "two")},
	} {
		wantLineOut(t, x.what, impl.LineRun(x.texts, x.window, x.script, false), x.want)
	}
}

func TestSettledLinesThatAreKnown(t *testing.T) {
	two := []string{"one", "two"}
	for _, script := range [][]int64{nil, events(0), events(0, 2), events(0, 2, 1), events(0, 1, 6), times(3, 0, 7), times(400, 2)} {
		wantLineOut(t, fmt.Sprint(script), impl.LineRun(two, 1, script, true), done("one", "two"))
	}
	last := 8 * (len(infoFrame(0, "one")) - 1)
	for what, script := range map[string][]int64{
		"spoilt":        events(0, 2, turn(20), 1),
		"its last flag": events(0, turn(last), 1, 1),
	} {
		wantLineOut(t, what, impl.LineRun(two, 7, script, true), impl.LineOut{Got: two, Done: true, Bad: 1})
	}
	most := letters(20)
	for window := range int64(7) {
		wantLineOut(t, fmt.Sprint("all at once, window ", window+1), impl.LineRun(most, window+1, nil, true), done(most...))
		wantLineOut(t, fmt.Sprint("but the first, window ", window+1), impl.LineRun(most, window+1, events(0, times(7, 2)), true), done(most...))
	}
}

func TestTextsOfALine(t *testing.T) {
	script := times(20, 0, 1, 5)
	for count := range 20 {
		texts := letters(count + 1)
		wantLineOut(t, fmt.Sprint(count+1, " texts"), impl.LineRun(texts, 7, script, false), done(texts...))
	}
	for _, size := range []int{0, 1, 199, 200} {
		for at := range 3 {
			texts := letters(3)
			texts[at] = longText(size)
			wantLineOut(t, fmt.Sprint(size, " bytes at ", at), impl.LineRun(texts, 2, script, false), done(texts...))
		}
	}
	escaped := strings.Repeat("\x7e\x7d", 100)
	wantLineOut(t, "all escaped", impl.LineRun([]string{escaped, ""}, 2, script, false), done(escaped, ""))
}

func TestLineRunOfWhatIsNotRight(t *testing.T) {
	wrong := impl.LineOut{Code: impl.ErrForm}
	for _, settle := range []bool{false, true} {
		for _, count := range []int{0, 21, 22, 399, 400} {
			wantLineOut(t, fmt.Sprint(count, " texts"), impl.LineRun(make([]string, count), 7, events(0), settle), wrong)
		}
		wantLineOut(t, "no list", impl.LineRun(nil, 7, nil, settle), wrong)
		for _, size := range []int{201, 202, 8000, 8001} {
			for at := range 20 {
				texts := letters(20)
				texts[at] = longText(size)
				wantLineOut(t, fmt.Sprint(size, " bytes at ", at), impl.LineRun(texts, 7, nil, settle), wrong)
			}
		}
		for _, window := range []int64{math.MinInt64, -7, -1, 0, 8, 9, 1<<32 + 1, math.MaxInt64} {
			wantLineOut(t, fmt.Sprint("window ", window), impl.LineRun(letters(2), window, events(0, 1), settle), wrong)
		}
	}
	for _, window := range []int64{1, 7} {
		wantLineOut(t, fmt.Sprint("window ", window), impl.LineRun(letters(1), window, events(0, 1, 5), false), done("aa"))
	}
}

func TestFaultsOfLineRunInTheirOrder(t *testing.T) {
	size := impl.LineOut{Code: impl.ErrSize}
	right, many, long := letters(2), make([]string, 401), make([]int64, 401)
	for what, x := range map[string]impl.LineOut{
		"texts":                       impl.LineRun(many, 7, nil, false),
		"texts, by far":               impl.LineRun(make([]string, 5000), 7, nil, true),
		"script":                      impl.LineRun(right, 7, long, false),
		"script, by far":              impl.LineRun(right, 7, make([]int64, 5000), true),
		"both":                        impl.LineRun(many, 7, long, true),
		"texts, and no window":        impl.LineRun(many, 0, nil, false),
		"script, and no window":       impl.LineRun(right, 8, long, false),
		"script, and no texts":        impl.LineRun(nil, 7, long, true),
		"script, and a text of 201":   impl.LineRun([]string{longText(201)}, 7, long, false),
		"script, and 21 texts":        impl.LineRun(letters(21), 7, long, false),
		"texts of 8001, and a window": impl.LineRun(slices.Repeat([]string{longText(8001)}, 401), -1, nil, false),
	} {
		wantLineOut(t, what, x, size)
	}
}

func TestScriptsUpToMaxList(t *testing.T) {
	script := append(make([]int64, 399), 1)
	wantLineOut(t, "the last of 400", impl.LineRun([]string{"one"}, 7, script, false), got("one"))
	wantLineOut(t, "401", impl.LineRun([]string{"one"}, 7, append(script, 1), false), impl.LineOut{Code: impl.ErrSize})
	c := fewConfigs()[4]
	up := append(times(396, 7), 0, 3, 3, 0)
	if x := impl.MeetRun(c, c, up, false); !x.A.Up || !x.B.Up {
		t.Errorf("the last of 400: %+v", x)
	}
	for _, settle := range []bool{false, true} {
		wantMeetOut(t, "401", impl.MeetRun(c, c, append(up, 7), settle), impl.MeetOut{Code: impl.ErrSize})
	}
}

func TestEventsBelowNoughtDoNothing(t *testing.T) {
	way := events(0, 3, 1, turn(20), 1, 2, 7, 0, 1, 5, 5, 6)
	want := impl.LineRun(letters(3), 2, way, false)
	for _, event := range []int64{-1, -2, -3, -4, -5, -6, -7, -8, -9, -16, -164, math.MinInt64, math.MinInt64 + 4} {
		var script []int64
		for _, x := range way {
			script = append(script, event, x)
		}
		wantLineOut(t, fmt.Sprint(event), impl.LineRun(letters(3), 2, append(script, event), false), want)
	}
}

// Of each kind but 4 the number beside it counts for nothing.
func TestEventsOfEachKindWithANumber(t *testing.T) {
	bits := 8 * len(infoFrame(0, "aa"))
	way := events(0, 3, 1, 1, 2, 7, 0, 1, 5, 6, 5, 0, 1)
	want := lineRunByRule(letters(4), 2, way, false)
	for _, n := range []int{0, 1, bits - 1, bits, bits + 1, math.MaxInt64 / 8} {
		for kind := range int64(8) {
			script := slices.Clone(way)
			for at, event := range script {
				if event == kind {
					script[at] += 8 * int64(n)
				}
			}
			wantLineOut(t, fmt.Sprint("kind ", kind, " with ", n), impl.LineRun(letters(4), 2, script, false), want)
		}
	}
	wantLineOut(t, "the greatest event", impl.LineRun([]string{"one"}, 7, events(0, 2, math.MaxInt64, 0, 1), false), got("one"))
}

func TestEachBitThatIsTurned(t *testing.T) {
	for _, text := range []string{"one", "", "\x7e\x7d", "\x7f\x7c\x7a\x76", "\x5e\x5f\x3e\xfe\x7d\x5d"} {
		bits := 8 * len(infoFrame(0, text))
		texts := []string{text, "two"}
		for n := range 3 * bits {
			what := fmt.Sprintf("bit %d of %q", n, text)
			script := events(0, turn(n), 1)
			x := impl.LineRun(texts, 7, script, false)
			wantLineOut(t, what, x, lineRunByRule(texts, 7, script, false))
			if x.Got != nil || x.False != 0 {
				t.Errorf("%s: %+v", what, x)
			}
			wantLineOut(t, what+", and the next frame", impl.LineRun(texts, 7, append(script, 1, 1), false), lineRunByRule(texts, 7, append(script, 1, 1), false))
			wantLineOut(t, what+", turned back", impl.LineRun(texts, 7, events(0, turn(n), turn(n%bits), 1), false), got(text))
			wantLineOut(t, what+", turned at its end", impl.LineRun(texts, 7, events(0, turn(n), turn(n+bits), 1), false), got(text))
		}
	}
}

func TestEventsAtAnEmptyLine(t *testing.T) {
	for kind := range int64(8) {
		for _, n := range []int64{0, 1, 20, 1 << 40} {
			event := kind + 8*n
			wantLineOut(t, fmt.Sprint(event), impl.LineRun(letters(1), 7, events(event), false), got())
			wantLineOut(t, fmt.Sprint(event, " ahead"), impl.LineRun(letters(1), 7, events(event, 0, 1, 5), false), done("aa"))
			wantLineOut(t, fmt.Sprint(event, " behind"), impl.LineRun(letters(1), 7, events(0, 1, 5, event, event), false), done("aa"))
		}
	}
}

// bodyOf is a frame without its flags.
func bodyOf(text string) string {
	frame := frameByRule(text, 0, false)
	return frame[1 : len(frame)-1]
}

// A frame may be turned so often that it becomes another one; what is found in it is heard all the same.
func TestFramesThatBecomeOthers(t *testing.T) {
	text := strings.Repeat("a", 30)
	frame := infoFrame(0, text)
	for _, x := range []struct {
		what  string
		bytes string
		want  impl.LineOut
	}{
		{"itself", bodyOf("\x21\x00" + text), got(text)},
		{"another text", bodyOf("\x21\x00b"), spoilt(0, 1, "b")},
		{"no text", bodyOf("\x21\x00"), spoilt(0, 1, "")},
		{"two texts", bodyOf("\x21\x00b") + "\x7e" + bodyOf("\x21\x02c"), spoilt(0, 2, "b", "c")},
		{"one text twice", bodyOf("\x21\x00b") + "\x7e" + bodyOf("\x21\x00b"), spoilt(0, 2, "b")},
		{"bad, and then a text", "bad\x7e" + bodyOf("\x21\x00b"), spoilt(1, 1, "b")},
		{"a text, and then bad", bodyOf("\x21\x00b") + "\x7ebad", spoilt(1, 1, "b")},
		{"bad twice", "bad\x7eworse", spoilt(2, 0)},
		{"short of one byte", "b", spoilt(1, 0)},
		{"short of two bytes", "bb", spoilt(1, 0)},
		{"an abort", "bbb\x7d", spoilt(1, 0)},
		{"an abort of an escape alone", "\x7d", spoilt(1, 0)},
		{"an abort, and then a text", "bbb\x7d\x7e" + bodyOf("\x21\x00b"), spoilt(1, 1, "b")},
		{"flags alone", "\x7e", got()},
		{"all its bytes ahead", bodyOf("\xff\x03\x00\x21\x00b"), spoilt(0, 1, "b")},
		{"two bytes of protocol", bodyOf("\x00\x21\x00b"), spoilt(0, 1, "b")},
		{"another protocol", bodyOf("\x23\x00b"), spoilt(0, 1)},
		{"a protocol of two bytes", bodyOf("\xc0\x21\x00b"), spoilt(0, 1)},
		{"half a protocol", bodyOf("\x00"), spoilt(0, 1)},
		{"no protocol at all", bodyOf("\xff\x03"), spoilt(0, 1)},
		{"what is no protocol", bodyOf("\x00\x20\x00b"), spoilt(0, 1)},
		{"nothing numbered", bodyOf("\x21"), spoilt(0, 1)},
		{"what is not numbered", bodyOf("\x21\x03b"), spoilt(0, 1)},
		{"a text behind a FrReady", bodyOf("\x21\x01b"), spoilt(0, 1)},
		{"a FrReady", bodyOf("\x21\x01"), spoilt(0, 1)},
		{"a FrAgain", bodyOf("\x21\x09"), spoilt(0, 1)},
		{"of a Nr that is too far", bodyOf("\x21\x20b"), spoilt(0, 1)},
		{"of a Ns that is ahead", bodyOf("\x21\x02b"), spoilt(0, 1)},
	} {
		bytes := strings.Repeat("\x7e", len(frame)-len(x.bytes)-1) + x.bytes + "\x7e"
		script := events(0, turnsInto(frame, bytes), 1)
		for _, more := range [][]int64{nil, events(5, 1, 5), events(7, 0, 1, 1, 5, 5)} {
			all := append(slices.Clone(script), more...)
			y := impl.LineRun([]string{text, "two"}, 1, all, false)
			wantLineOut(t, x.what+", and on", y, lineRunByRule([]string{text, "two"}, 1, all, false))
			if more == nil {
				wantLineOut(t, x.what, y, x.want)
			}
		}
	}
}

// A byte that becomes a flag parts a frame; one that becomes an escape takes the byte behind it along.
func TestABitThatMakesAFlagOrAnEscape(t *testing.T) {
	ahead := "\x21\x00b"
	inner := "b" + tailByRule(widths()[0], ahead)
	for _, x := range []struct {
		what string
		text string
		at   int // of the byte
		bit  int
		want impl.LineOut
	}{
		{"a flag in the middle", "aaaa\x7fbbbb", 7, 0, spoilt(2, 0)},
		{"a flag, and short ahead of it", "\x7fbbbb", 3, 0, spoilt(2, 0)},
		{"a flag, and a good one ahead of it", inner + "\x7fbbbb", 6, 0, spoilt(1, 1, "b")},
		{"a flag of another bit", inner + "\xfebbbb", 6, 7, spoilt(1, 1, "b")},
		{"an escape in the middle", "aaaa\x7cbbbb", 7, 0, spoilt(1, 0)},
		{"an escape that no more is one", "aa\x7dbb", 5, 0, spoilt(1, 0)},
		{"a first flag that is lost", "aaaa", 0, 0, spoilt(0, 0)},
	} {
		wantLineOut(t, x.what, impl.LineRun([]string{x.text}, 7, events(0, turn(8*x.at+x.bit), 1), false), x.want)
	}
	last := len(infoFrame(0, "aaaa")) - 1
	wantLineOut(t, "a last flag that is lost", impl.LineRun([]string{"aaaa"}, 7, events(0, turn(8*last), 1), false), got())
	esc := events(0, 3, turn(8*last), turn(8*last+1), 1)
	wantLineOut(t, "a last flag that is an escape", impl.LineRun([]string{"aaaa"}, 7, esc, false), got())
	wantLineOut(t, "and the next flag", impl.LineRun([]string{"aaaa"}, 7, append(esc, 1), false), spoilt(1, 0, "aaaa"))
}

// Where each escape is none any more, there are more bytes than a frame may have.
func TestAFrameThatBecomesLong(t *testing.T) {
	texts := []string{strings.Repeat("\x7e", 200)}
	for count, want := range map[int]impl.LineOut{1: spoilt(1, 0), 100: spoilt(1, 0), 101: spoilt(1, 0), 150: spoilt(1, 0)} {
		script := events(0, 3)
		for at := range count {
			script = append(script, turn(8*(3+2*at)))
		}
		wantLineOut(t, fmt.Sprint(count), impl.LineRun(texts, 7, append(script, 1), false), want)
		want.Got = texts
		wantLineOut(t, fmt.Sprint(count, " and the next"), impl.LineRun(texts, 7, append(script, 1, 1), false), want)
	}
}

// What was found in part ends where the next frame begins: bad, and the first good one is the next frame's
// own; or good, and then that one is a second one, and false.
func TestDeframersGoOnFromFrameToFrame(t *testing.T) {
	two := []string{"one", "two"}
	frame := infoFrame(0, "one")
	last := 8 * (len(frame) - 1)
	late := turnsInto(frame, "\x7e"+frame[:len(frame)-1]) // all of it but its last flag, which the next frame brings
	for _, x := range []struct {
		what   string
		script []int64
		want   impl.LineOut
	}{
		{"the last flag of the first", events(0, turn(last), 1), got()},
		{"the next one is there", events(0, turn(last), 1, 1), spoilt(1, 0)},
		{"the same once more", events(0, 3, turn(last), 1, 1), spoilt(1, 0, "one")},
		{"and the one behind it", events(0, 3, turn(last), 1, 1, 1), spoilt(1, 0, "one", "two")},
		{"bad each time", events(0, 3, 3, turn(last), 1, turn(last), 1, 1), spoilt(2, 0, "one")},
		{"the first flag of the first", events(0, 3, turn(0), 1, 1, 1), spoilt(0, 0, "one", "two")},
		{"the first flag of the second", events(0, 1, turn(0), 1), spoilt(1, 0, "one")},
		{"the last flag, and the first one behind it", events(0, turn(last), 1, turn(0), 1), spoilt(1, 0)},
		{"both flags of the first", events(0, 3, turn(0), turn(last), 1, 1, 1), spoilt(0, 0, "one", "two")},
		{"a frame between is lost", events(0, 3, 3, turn(last), 1, 2, 1), spoilt(1, 0, "one")},
		{"late", events(0, late, 1), got()},
		{"late, and the same once more", events(0, 3, late, 1, 1), spoilt(0, 1, "one")},
		{"late, and another one", events(0, late, 1, 1), spoilt(0, 2, "one", "two")},
		{"late, behind a bad one", events(0, 3, 3, turn(last), 1, late, 1, 1), spoilt(1, 1, "one")},
		{"late twice", events(0, 3, 3, late, 1, late, 1, 1), spoilt(0, 1, "one")},
	} {
		wantLineOut(t, x.what, impl.LineRun(two, 7, x.script, false), x.want)
		y := impl.LineRun(two, 7, x.script, true)
		wantLineOut(t, x.what+", settled", y, lineRunByRule(two, 7, x.script, true))
		if !slices.Equal(y.Got, two) || !y.Done {
			t.Errorf("%s, settled: %+v", x.what, y)
		}
	}
}

// Each frame that comes is spoilt ahead of it, so that what is bad tells how many there were.
func TestALineHasNoMoreThanMaxLine(t *testing.T) {
	count := times(60, turn(20), 1)
	for _, x := range []struct {
		what   string
		texts  int
		window int64
		script []int64
		want   int64
	}{
		{"39 sent", 3, 3, times(13, 0, 7), 39},
		{"40 sent", 2, 2, times(20, 0, 7), 40},
		{"41 sent", 1, 1, times(41, 0, 7), 40},
		{"42 sent", 3, 3, times(14, 0, 7), 40},
		{"there 39 times", 1, 7, events(0, times(38, 3)), 39},
		{"there 40 times", 1, 7, events(0, times(39, 3)), 40},
		{"there once too often", 1, 7, events(0, times(40, 3)), 40},
		{"there far too often", 1, 7, events(0, times(100, 3)), 40},
		{"full, and one lost", 1, 7, events(0, times(100, 3), 2), 39},
		{"full, one lost, and one more", 1, 7, events(0, times(100, 3), 2, 3, 3), 40},
		{"full, and sent", 2, 2, events(0, times(38, 3), 7, 0), 40},
	} {
		wantLineOut(t, x.what, impl.LineRun(letters(x.texts), x.window, append(x.script, count...), false), spoilt(x.want, 0))
	}
}

func TestWhatComesBeyondIsLost(t *testing.T) {
	seven := letters(7)
	full := times(6, 0, 7)
	lost, come := times(35, 2), times(8, 1)
	wantLineOut(t, "the last two", impl.LineRun(seven, 7, events(full, lost, come), false), got(seven[:5]...))
	wantLineOut(t, "the second one of a full line", impl.LineRun(seven, 7, events(full, 3, lost, come), false), got(seven[:5]...))
	wantLineOut(t, "room for one", impl.LineRun(seven, 7, events(full, 2, 0, times(39, 2), come), false), got(seven[:1]...))
	wantLineOut(t, "room for all", impl.LineRun(seven, 7, events(full, lost, 7, 0, times(5, 2), come), false), got(seven...))
}

// b answers each frame that comes: with the line full, that of the last one is lost. (a sends again what
// it is asked for once more, so that what it is told then is not too far.)
func TestTheOtherLineHasNoMoreThanMaxLine(t *testing.T) {
	two := letters(2)
	for again, want := range map[int]impl.LineOut{0: done(two...), 37: done(two...), 38: done(two...), 39: got(two...), 40: got(two...), 60: got(two...)} {
		script := events(0, times(again, 3, 1), 1, 1, times(60, 0, 5))
		wantLineOut(t, fmt.Sprint(again), impl.LineRun(two, 7, script, false), want)
	}
	script := events(0, times(39, 3, 1), 1, 6, 1, times(60, 0, 5))
	wantLineOut(t, "one lost ahead of it", impl.LineRun(two, 7, script, false), done(two...))
}

// lineScript is one of several worlds by chance: such as do all, such as go well, such as fill a line.
func (c *chance) lineScript() []int64 {
	of := [][]int64{
		{0, 1, 2, 3, 4, 5, 6, 7},
		{0, 1, 1, 1, 5, 5, 5, 7, 3, 4},
		{0, 0, 1, 1, 1, 2, 3, 5, 5, 6, 7},
		{0, 7, 3, 0, 7, 1, 4},
		{0, 7, 3, 3, 1, 1, 5},
		{4, 4, 4, 0, 1, 1, 5, 3, 7},
	}[c.below(6)]
	out := make([]int64, c.pick(0, 1, 5, 20, 60, 150, 399, 400))
	for at := range out {
		out[at] = c.pick(of...)
		switch {
		case c.below(50) == 0:
			out[at] = -1 - int64(c.below(100))
		case out[at] == 4 || c.below(10) == 0:
			out[at] += 8 * c.pick(0, 1, 7, 8, int64(c.below(100)), int64(c.below(4000)), math.MaxInt64/8)
		}
	}
	return out
}

func (c *chance) lineTexts(count int) []string {
	out := make([]string, count)
	for at := range out {
		out[at] = c.lineBytes(int(c.pick(0, 1, 2, 3, 4, 9, 20, 60, 199, 200)))
	}
	return out
}

func TestLineRunIsByTheRule(t *testing.T) {
	c := &chance{n: 37}
	for range 250 {
		texts, window, script := c.lineTexts(1+c.below(20)), int64(1+c.below(7)), c.lineScript()
		for _, settle := range []bool{false, true} {
			x := impl.LineRun(texts, window, script, settle)
			if want := lineRunByRule(texts, window, script, settle); !sameLineOut(x, want) {
				t.Fatalf("%q, %d, %v, %v:\n got %+v\nwant %+v", texts, window, script, settle, x, want)
			}
		}
	}
}

// Promise 13.
func TestOverANumberedLineTheFirstTextsAreGot(t *testing.T) {
	c := &chance{n: 38}
	told := 0
	for window := range int64(7) {
		for count := range 20 {
			for range 8 {
				texts, script := c.lineTexts(count+1), c.lineScript()
				for _, settle := range []bool{false, true} {
					x := impl.LineRun(texts, window+1, script, settle)
					if x.False != 0 {
						continue
					}
					told++
					if len(x.Got) > len(texts) || !slices.Equal(x.Got, texts[:len(x.Got)]) || x.Done && len(x.Got) < len(texts) {
						t.Fatalf("%q, %d, %v, %v: %+v", texts, window+1, script, settle, x)
					}
					if settle && (!slices.Equal(x.Got, texts) || !x.Done) {
						t.Fatalf("%q, %d, %v: not all of them: %+v", texts, window+1, script, x)
					}
				}
			}
		}
	}
	if told < 1000 {
		t.Error("only", told, "told something")
	}
}

// plain has no Option, and takes all but Pfc, Acfc and Wide.
func plain() impl.Config {
	return impl.Config{Mru: 300, Accm: top32}
}

// met is an end of no Options, in that state.
func met(state, tries, due, id int64) impl.End {
	e := impl.End{Config: plain(), Asks: plain(), State: state, Tries: tries, Due: due, Id: id}
	if state == impl.StOpened {
		e.Up, e.In, e.Out = true, lineByRule(nil), lineByRule(nil)
	}
	return e
}

func TestMeetRunThatIsKnown(t *testing.T) {
	for _, x := range []struct {
		what   string
		script []int64
		a, b   impl.End
	}{
		{"nothing happens", nil, met(6, 4, 3, 1), met(6, 4, 3, 1)},
		{"a's request comes", events(0), met(6, 4, 3, 1), met(8, 4, 3, 1)},
		{"b's request comes", events(3), met(8, 4, 3, 1), met(6, 4, 3, 1)},
		{"both requests come", events(0, 3), met(8, 4, 3, 1), met(8, 4, 3, 1)},
		{"a is opened", events(0, 3, 3), met(9, 5, -1, 1), met(8, 4, 3, 1)},
		{"both are opened", events(0, 3, 3, 0), met(9, 5, -1, 1), met(9, 5, -1, 1)},
		{"b is opened", events(3, 0, 0), met(8, 4, 3, 1), met(9, 5, -1, 1)},
		{"a's request is lost", events(1, 0), met(6, 4, 3, 1), met(6, 4, 3, 1)},
		{"b's request is lost", events(4, 3), met(6, 4, 3, 1), met(6, 4, 3, 1)},
		{"b's request is lost, not its ack", events(0, 4, 3), met(7, 5, 3, 1), met(8, 4, 3, 1)},
		{"a's request is lost, not its ack", events(3, 1, 0), met(8, 4, 3, 1), met(7, 5, 3, 1)},
		{"a's request twice", events(2, 0, 0, 3, 3), met(9, 5, -1, 1), met(8, 4, 3, 1)},
		{"a's request twice, lost once", events(2, 1, 0), met(6, 4, 3, 1), met(8, 4, 3, 1)},
		{"b's request twice, lost once", events(5, 4, 3), met(8, 4, 3, 1), met(6, 4, 3, 1)},
		{"b's request behind itself", events(0, 5, 4, 3, 3), met(9, 5, -1, 1), met(8, 4, 3, 1)},
		{"b's ack twice", events(0, 4, 5, 3, 3), met(6, 4, 3, 2), met(8, 4, 3, 1)},
		{"a time below Due", events(6, 6), met(6, 4, 3, 1), met(6, 4, 3, 1)},
		{"a time at Due", events(6, 6, 6), met(6, 3, 6, 2), met(6, 3, 6, 2)},
		{"the last try", times(14, 6), met(6, 0, 15, 5), met(6, 0, 15, 5)},
		{"given up", times(15, 6), met(3, 0, -1, 5), met(3, 0, -1, 5)},
		{"heard again once given up", events(times(15, 6), 0), met(3, 0, -1, 5), met(8, 4, 18, 6)},
		{"all others", events(7, 8, -1, -6, 9, 14, math.MinInt64, math.MaxInt64), met(6, 4, 3, 1), met(6, 4, 3, 1)},
		{"an ack of an earlier request", events(0, 6, 6, 6, 4, 3), met(6, 3, 6, 2), met(8, 3, 6, 2)},
	} {
		wantMeetOut(t, x.what, impl.MeetRun(plain(), plain(), x.script, false), impl.MeetOut{A: x.a, B: x.b})
	}
}

// asking is a Config that has something to agree to with each other one of these.
func asking(mru, accm, magic int64) impl.Config {
	return impl.Config{Mru: mru, Accm: accm, Magic: magic, Pfc: true, Wide: true}
}

func TestMeetRunWithOptions(t *testing.T) {
	a, b := asking(100, 1, 5), impl.Config{Mru: 200, Accm: 2, Magic: 5, Acfc: true}
	in := impl.Line{Mru: 100, Accm: 3}
	out := impl.Line{Mru: 200, Accm: 3}
	x := impl.MeetRun(a, b, nil, true)
	if !x.A.Up || !x.B.Up || x.A.In != in || x.A.Out != out || x.B.In != out || x.B.Out != in {
		t.Errorf("in the end: %+v", x)
	}
	x = impl.MeetRun(a, b, events(0, 4, 3), false)
	without := a
	without.Pfc = false
	if x.A.Asks != without || x.A.Id != 2 || x.B.Fails != 0 {
		t.Errorf("rejected: %+v", x)
	}
	x = impl.MeetRun(a, b, events(0, 4, 3, 0, 3), false)
	want := impl.Config{Mru: 100, Accm: 3, Magic: 82}
	if x.A.Asks != want || x.A.Id != 3 || x.B.Fails != 1 || x.A.Config != a {
		t.Errorf("naked: %+v", x)
	}
	x = impl.MeetRun(a, b, events(0, 4, 3, 0, 3, 0, 3), false)
	if x.A.State != impl.StAckRcvd || x.B.State != impl.StAckSent || !slices.Equal(x.B.Peer, askByRule(want)) || x.B.Fails != 0 {
		t.Errorf("agreed to: %+v", x)
	}
}

func TestMeetRunOfWhatIsNotRight(t *testing.T) {
	wrong := impl.MeetOut{Code: impl.ErrForm}
	for _, c := range wrongConfigs() {
		for _, settle := range []bool{false, true} {
			wantMeetOut(t, fmt.Sprintf("a %+v", c), impl.MeetRun(c, plain(), events(0), settle), wrong)
			wantMeetOut(t, fmt.Sprintf("b %+v", c), impl.MeetRun(plain(), c, nil, settle), wrong)
			wantMeetOut(t, fmt.Sprintf("both %+v", c), impl.MeetRun(c, c, nil, settle), wrong)
		}
	}
}

func TestFaultsOfMeetRunInTheirOrder(t *testing.T) {
	size, long := impl.MeetOut{Code: impl.ErrSize}, make([]int64, 401)
	for _, c := range wrongConfigs() {
		wantMeetOut(t, "a", impl.MeetRun(c, plain(), long, false), size)
		wantMeetOut(t, "b", impl.MeetRun(plain(), c, long, true), size)
		wantMeetOut(t, "both", impl.MeetRun(c, c, make([]int64, 5000), false), size)
	}
}

func TestOtherEventsOfAMeetDoNothing(t *testing.T) {
	a, b := asking(100, 1, 5), asking(200, 2, 7)
	way := events(0, 3, 2, 0, 6, 3, 5, 1, 6, 4, 0, 6, 3, 0)
	want := impl.MeetRun(a, b, way, false)
	for _, event := range []int64{math.MinInt64, -8, -7, -6, -3, -1, 7, 8, 10, 13, 14, 70, 1 << 32, math.MaxInt64} {
		var script []int64
		for _, x := range way {
			script = append(script, event, x)
		}
		wantMeetOut(t, fmt.Sprint(event), impl.MeetRun(a, b, append(script, event), false), want)
	}
}

// A packet that is refused, and a time that is not yet, leave both ends, and their lines, as they are.
func TestWhatTellsACodeDoesNothing(t *testing.T) {
	late := events(0, 6, 6, 6, 4, 2)
	for _, x := range []struct{ ahead, behind []int64 }{
		{late, events(3)},
		{events(0, 3, 3, 0), events(6, 6, 6, 6, 6, 6)},
		{nil, events(6, 6)},
	} {
		ahead := impl.MeetRun(plain(), plain(), x.ahead, false)
		wantMeetOut(t, fmt.Sprint(x), impl.MeetRun(plain(), plain(), append(slices.Clone(x.ahead), x.behind...), false), ahead)
	}
}

// sideEvents are what a script says of one of both lines.
type sideEvents struct{ come, lost, more int }

// theEnds are the end that sends on such a line, and the one to which it goes.
func (s sideEvents) theEnds(x impl.MeetOut) (impl.End, impl.End) {
	if s.come == 0 {
		return x.A, x.B
	}
	return x.B, x.A
}

// An end asks again behind so many of its first request: that is heard, if there was room for it.
func TestALineOfPacketsHasNoMoreThanMaxLine(t *testing.T) {
	for _, s := range []sideEvents{{0, 1, 2}, {3, 4, 5}} {
		other := sideEvents{3 - s.come, 5 - s.lost, 7 - s.more}
		for again, heard := range map[int]bool{0: true, 1: true, 37: true, 38: true, 39: false, 40: false, 100: false} {
			script := events(times(again, s.more), 6, 6, 6, times(min(again+1, 40), s.lost), s.come)
			x := impl.MeetRun(plain(), plain(), script, false)
			if _, to := s.theEnds(x); (to.State == impl.StAckSent) != heard {
				t.Errorf("%d of the line %+v: %+v", again, s, x)
			}
		}
		full := events(times(38, s.more), 6, 6, 6)
		behind := events(times(39, s.lost), s.come, other.lost, other.lost, other.come)
		for what, script := range map[string][]int64{
			"full":                  events(full, behind),
			"there once too often":  events(full, s.more, behind),
			"one lost, one in turn": events(full, s.lost, s.more, behind),
		} {
			x := impl.MeetRun(plain(), plain(), script, false)
			if from, _ := s.theEnds(x); from.State != impl.StAckRcvd {
				t.Errorf("%s, %+v: %+v", what, s, x)
			}
		}
	}
}

// An answer that comes into a full line is lost.
func TestAnswersBeyondMaxLineAreLost(t *testing.T) {
	for _, s := range []sideEvents{{0, 1, 2}, {3, 4, 5}} {
		other := sideEvents{3 - s.come, 5 - s.lost, 7 - s.more}
		for again, heard := range map[int]bool{0: true, 38: true, 39: false, 50: false} {
			script := events(times(again, other.more), s.come, times(min(again+1, 40), other.lost), other.come)
			x := impl.MeetRun(plain(), plain(), script, false)
			if from, _ := s.theEnds(x); (from.State == impl.StAckRcvd) != heard {
				t.Errorf("%d of the line %+v: %+v", again, other, x)
			}
		}
	}
}

// Behind a script that took so long the timers end in the midst of the first steps, and both ask once more.
func TestSettledMeetsThatAreKnown(t *testing.T) {
	up := func(id int64) impl.End { return met(9, 5, -1, id) }
	for _, x := range []struct {
		what   string
		script []int64
		a, b   impl.End
	}{
		{"at once", nil, up(1), up(1)},
		{"a time later", events(6), up(1), up(1)},
		{"at Due, before b is told", events(6, 6), up(2), up(2)},
		{"at Due", events(6, 6, 6), up(2), up(2)},
		{"all is lost", events(1, 4), up(2), up(2)},
		{"b's request is lost", events(4), up(2), up(2)},
		{"given up, both lines empty", events(times(5, 1, 4, 6, 6, 6)), met(3, 0, -1, 5), met(3, 0, -1, 5)},
		{"opened ahead of it", events(0, 3, 3, 0), up(1), up(1)},
	} {
		wantMeetOut(t, x.what, impl.MeetRun(plain(), plain(), x.script, true), impl.MeetOut{A: x.a, B: x.b})
	}
}

// meetScript is one of several worlds by chance: such as do all, such as lose, such as double, such as go well.
func (c *chance) meetScript() []int64 {
	of := [][]int64{
		{0, 1, 2, 3, 4, 5, 6, 7, -1},
		{6, 6, 6, 6, 1, 4, 0, 3},
		{0, 2, 2, 3, 5, 5, 6},
		{0, 0, 0, 3, 3, 3, 2, 5, 6},
		{0, 3, 6, 6, 6, 6, 6, 6},
		{2, 5, 2, 5, 0, 3},
	}[c.below(6)]
	out := make([]int64, c.pick(0, 1, 3, 8, 20, 60, 150, 399, 400))
	for at := range out {
		out[at] = c.pick(of...)
	}
	return out
}

// meetConfigs have now and then the same Magic, so that both have to give it up.
func (c *chance) meetConfigs() (impl.Config, impl.Config) {
	a, b := c.config(), c.config()
	if c.below(3) == 0 {
		b.Magic = a.Magic
	}
	return a, b
}

func TestMeetRunIsByTheRule(t *testing.T) {
	c := &chance{n: 39}
	for range 500 {
		a, b := c.meetConfigs()
		script := c.meetScript()
		for _, settle := range []bool{false, true} {
			x := impl.MeetRun(a, b, script, settle)
			wantMeetOut(t, fmt.Sprintf("%+v, %+v, %v, %v", a, b, script, settle), x, meetRunByRule(t, a, b, script, settle))
			if t.Failed() {
				return
			}
		}
	}
}

// agrees: is it what the end of mine takes in, if both have come to agree?
func agrees(in impl.Line, mine, peer impl.Config) bool {
	return in.Mru == mine.Mru && (in.Accm == mine.Accm|peer.Accm || in.Accm == top32) &&
		in.Pfc == (mine.Pfc && peer.Pfc) && in.Acfc == (mine.Acfc && peer.Acfc) && in.Wide == (mine.Wide && peer.Wide)
}

func wantTakenIn(t *testing.T, what string, x impl.MeetOut) {
	t.Helper()
	if x.A.In != x.B.Out || x.B.In != x.A.Out || !agrees(x.A.In, x.A.Config, x.B.Config) || !agrees(x.B.In, x.B.Config, x.A.Config) {
		t.Errorf("%s: not what the other one gives out: %+v", what, x)
	}
}

// Promise 12.
func TestTwoEndsComeToBeOpened(t *testing.T) {
	c := &chance{n: 40}
	opened, givenUp := 0, 0
	for range 4000 {
		a, b := c.meetConfigs()
		script := c.meetScript()
		what := fmt.Sprintf("%+v, %+v, %v", a, b, script)
		for _, settle := range []bool{false, true} {
			x := impl.MeetRun(a, b, script, settle)
			if x.Code != impl.OK || !impl.EndRight(x.A) || !impl.EndRight(x.B) || x.A.Config != a || x.B.Config != b {
				t.Fatalf("%s: %+v", what, x)
			}
			switch {
			case x.A.Up && x.B.Up:
				opened++
				wantTakenIn(t, what, x)
			case settle && x.A.State != impl.StStopped && x.B.State != impl.StStopped:
				t.Fatalf("%s: neither opened nor given up: %+v", what, x)
			case settle:
				givenUp++
			}
		}
	}
	if opened < 3000 || givenUp < 100 {
		t.Error("opened", opened, "and given up", givenUp)
	}
}

func TestInAFairWorldBothEndsAreOpened(t *testing.T) {
	want := func(a, b impl.Config) {
		x := impl.MeetRun(a, b, nil, true)
		if !x.A.Up || !x.B.Up {
			t.Fatalf("%+v, %+v: %+v", a, b, x)
		}
		wantTakenIn(t, "fair", x)
	}
	c, all := &chance{n: 41}, rightConfigs()
	for _, a := range all {
		want(a, all[c.below(len(all))])
		want(a, a)
	}
	for _, a := range fewConfigs() {
		for _, b := range fewConfigs() {
			want(a, b)
		}
	}
}

// roomy is a copy of a list, with room behind it that is written to.
func roomy[T any](l []T, filled T) []T {
	out := append(slices.Clone(l), filled, filled, filled)
	return out[:len(l)]
}

func TestLineRunSharesNoMemory(t *testing.T) {
	c := &chance{n: 42}
	for range 300 {
		texts := roomy(c.lineTexts(1+c.below(20)), "behind")
		script := roomy(c.lineScript(), 99)
		window, settle := int64(1+c.below(7)), c.below(2) == 0
		allTexts, allScript := slices.Clone(texts[:cap(texts)]), slices.Clone(script[:cap(script)])
		x, again := impl.LineRun(texts, window, script, settle), impl.LineRun(texts, window, script, settle)
		wantApart(t, "texts", texts, x.Got, again.Got)
		want := again
		want.Got = slices.Clone(again.Got)
		for at := range x.Got[:cap(x.Got)] {
			x.Got[:cap(x.Got)][at] = "spoilt"
		}
		if !slices.Equal(texts[:cap(texts)], allTexts) || !slices.Equal(script[:cap(script)], allScript) {
			t.Fatalf("what was handed in is changed: %q, %v", texts, script)
		}
		wantLineOut(t, "kept from call to call", again, want)
		wantLineOut(t, "once more", impl.LineRun(texts, window, script, settle), want)
	}
}

func TestMeetRunSharesNoMemory(t *testing.T) {
	c := &chance{n: 43}
	for range 300 {
		a, b := c.meetConfigs()
		script := roomy(c.meetScript(), 99)
		settle := c.below(2) == 0
		all := slices.Clone(script[:cap(script)])
		x, again := impl.MeetRun(a, b, script, settle), impl.MeetRun(a, b, script, settle)
		wantApart(t, "options", optionTexts(x.A.Mine), optionTexts(x.A.Peer), optionTexts(x.B.Mine), optionTexts(x.B.Peer),
			optionTexts(again.A.Mine, again.A.Peer, again.B.Mine, again.B.Peer))
		want := impl.MeetOut{A: copiedEnd(again.A), B: copiedEnd(again.B)}
		wantListsApart(t, x)
		if !slices.Equal(script[:cap(script)], all) {
			t.Fatalf("what was handed in is changed: %v", script)
		}
		wantMeetOut(t, "kept from call to call", again, want)
		wantMeetOut(t, "once more", impl.MeetRun(a, b, script, settle), want)
	}
}

// wantListsApart writes over one list after the other, and behind it; the others stay as they are.
func wantListsApart(t *testing.T, x impl.MeetOut) {
	t.Helper()
	lists := [][]impl.Option{x.A.Mine, x.A.Peer, x.B.Mine, x.B.Peer}
	for at, l := range lists {
		var before [][]impl.Option
		for _, other := range lists {
			before = append(before, slices.Clone(other))
		}
		for place := range l[:cap(l)] {
			l[:cap(l)][place] = impl.Option{Kind: 99, Data: "spoilt"}
		}
		for which, other := range lists {
			if which != at && !slices.Equal(other, before[which]) {
				t.Errorf("lists %d and %d share memory", at, which)
			}
		}
	}
}
