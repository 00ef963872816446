package tests

import (
	"encoding/hex"
	"fmt"
	"regexp"
	"slices"
	"strings"
	"testing"

	"loop.example/g00351/impl"
)

// deskAsks are the Options of a desk's first request, in hex.
const deskAsks = "020600000000" + "050600000007" + "0702" + "0802"

// knownFrame is the frame of 123456789, whose sum is known from elsewhere.
const (
	knownText  = "313233343536373839"
	knownFrame = "7e" + knownText + "6e907e"
)

func hexByRule(text string) string {
	if len(text) > 4000 {
		return ""
	}
	return fmt.Sprintf("%x", text)
}

func hexReadByRule(word string) string {
	text, err := hex.DecodeString(word)
	if err != nil || hexByRule(string(text)) != word {
		return ""
	}
	return string(text)
}

// deskForm is what the document's table has in its first column, in one pattern.
var deskForm = regexp.MustCompile(`^(?:(?:frame|bytes|do|hear) [^ \n]+|tick (?:0|[1-9][0-9]{0,8})|line)\n$`)

// deskWords is a desk by the document's words, over the second writings of the chapters ahead.
type deskWords struct {
	deframer impl.Deframer
	end      impl.End
	now      int64
}

func newDeskWords() *deskWords {
	return &deskWords{end: impl.End{Config: deskConfig(), Asks: deskConfig(), Due: -1}}
}

func deskConfig() impl.Config {
	return impl.Config{Mru: 300, Accm: 0, Magic: 7, Pfc: true, Acfc: true}
}

func (d *deskWords) tells(t *testing.T, line string) string {
	t.Helper()
	first, word, _ := strings.Cut(line, " ")
	switch first {
	case "frame":
		text := hexReadByRule(word)
		if len(text) < 1 || len(text) > 300 {
			return "-"
		}
		return hexByRule(frameByRule(text, 0, false))
	case "bytes":
		return d.finds(hexReadByRule(word))
	case "line":
		if !d.end.Up {
			return "down"
		}
		return fmt.Sprintf("up %d %d", d.end.In.Mru, d.end.Out.Mru)
	}
	x := d.happens(t, first, word)
	if x.Code != impl.OK {
		return fmt.Sprintf("error %d", x.Code)
	}
	d.end = x.End
	told := fmt.Sprintf("state %d", x.End.State)
	for _, p := range x.Send {
		told += " " + hexByRule(packetBytesByRule(p))
	}
	return told
}

func (d *deskWords) finds(bytes string) string {
	var found []impl.Found
	d.deframer, found = deframeByRule(d.deframer, bytes)
	told := ""
	for _, f := range found {
		told += fmt.Sprintf(" %d", f.Kind)
		if f.Kind == impl.FrGood {
			told += ":" + hexByRule(f.Text)
		}
	}
	if told == "" {
		return "-"
	}
	return told[1:]
}

func (d *deskWords) happens(t *testing.T, first, word string) impl.EndOut {
	t.Helper()
	switch first {
	case "do":
		return doByRule(t, d.end, word, d.now)
	case "hear":
		read := packetReadByRule(hexReadByRule(word))
		if read.Code != impl.OK {
			return impl.EndOut{Code: read.Code}
		}
		return hearByRule(t, d.end, read.Packet, d.now)
	}
	var more int64
	if _, err := fmt.Sscan(word, &more); err != nil {
		t.Fatalf("no number: %q", word)
	}
	d.now = min(topTime, d.now+more)
	return tickByRule(t, d.end, d.now)
}

func deskRunByRule(t *testing.T, text string) impl.DeskOut {
	t.Helper()
	if len(text) > 8000 {
		return impl.DeskOut{Code: impl.ErrSize}
	}
	told, d, at := "", newDeskWords(), int64(0)
	for line := range strings.Lines(text) {
		if at == 40 || !deskForm.MatchString(line) {
			return impl.DeskOut{Line: at, Code: impl.ErrSyntax}
		}
		told += d.tells(t, line[:len(line)-1]) + "\n"
		at++
	}
	return impl.DeskOut{Text: told}
}

// wantDeskOut holds DeskFault against it, too: it is the same without Text.
func wantDeskOut(t *testing.T, what, text string, want impl.DeskOut) {
	t.Helper()
	if got := impl.DeskRun(text); got != want {
		t.Errorf("%s: DeskRun(%.200q): got %.400q line %d code %d, want %.400q line %d code %d",
			what, text, got.Text, got.Line, got.Code, want.Text, want.Line, want.Code)
	}
	want.Text = ""
	if got := impl.DeskFault(text); got != want {
		t.Errorf("%s: DeskFault(%.200q): got %.100q line %d code %d, want line %d code %d",
			what, text, got.Text, got.Line, got.Code, want.Line, want.Code)
	}
}

func wantNoLine(t *testing.T, what, text string, line int64) {
	t.Helper()
	wantDeskOut(t, what, text, impl.DeskOut{Line: line, Code: impl.ErrSyntax})
}

// wantTold takes lines and what they tell in turn.
func wantTold(t *testing.T, what string, turns ...string) {
	t.Helper()
	text, told := "", ""
	for at := 0; at < len(turns); at += 2 {
		text += turns[at] + "\n"
		told += turns[at+1] + "\n"
	}
	wantDeskOut(t, what, text, impl.DeskOut{Text: told})
}

func opened(turns ...string) []string {
	return append([]string{"do Open", "state 1", "do Up", "state 6 01010014" + deskAsks}, turns...)
}

func up(turns ...string) []string {
	return append(opened("hear 02010014"+deskAsks, "state 7", "hear 01090004", "state 9 02090004"), turns...)
}

func deskLines(count int) string {
	return strings.Repeat("line\n", count)
}

func TestConstantsOfADesk(t *testing.T) {
	if impl.MaxDesk != 40 {
		t.Errorf("MaxDesk is %d", impl.MaxDesk)
	}
}

func TestHexThatIsKnown(t *testing.T) {
	for _, x := range [][2]string{
		{"", ""}, {"a", "61"}, {"\x00", "00"}, {"\x09", "09"}, {"\x0a", "0a"}, {"\x0f", "0f"}, {"\x10", "10"},
		{"\x7e", "7e"}, {"\x9a", "9a"}, {"\xa9", "a9"}, {"\xf0", "f0"}, {"\xff", "ff"},
		{"hello", "68656c6c6f"}, {"\x01\x23\x45\x67\x89\xab\xcd\xef", "0123456789abcdef"}, {"\u00e9\n ", "c3a90a20"},
	} {
		if got := impl.Hex(x[0]); got != x[1] {
			t.Errorf("Hex(%q): got %q, want %q", x[0], got, x[1])
		}
		if got := impl.HexRead(x[1]); got != x[0] {
			t.Errorf("HexRead(%q): got %q, want %q", x[1], got, x[0])
		}
	}
}

func TestHexOfEachByte(t *testing.T) {
	for n := range 256 {
		text, word := oneByte(n), fmt.Sprintf("%02x", n)
		if got := impl.Hex(text); got != word {
			t.Errorf("Hex of the byte %d: %q", n, got)
		}
		if got := impl.HexRead(word); got != text {
			t.Errorf("HexRead(%q): %q", word, got)
		}
	}
	if got := impl.HexRead(impl.Hex(everyByte())); got != everyByte() {
		t.Errorf("every byte came back as %q", got)
	}
}

func TestHexUpToMostBytes(t *testing.T) {
	for _, size := range []int{1, 2, 255, 3999, 4000, 4001, 7999, 8000, 8001, 20000} {
		text, want := longText(size), ""
		if size <= 4000 {
			want = fmt.Sprintf("%x", text)
		}
		if got := impl.Hex(text); got != want {
			t.Errorf("Hex of %d bytes has %d digits", size, len(got))
		}
	}
	for _, size := range []int{1, 3999, 4000, 4001, 5000} {
		text, want := longText(size), ""
		if size <= 4000 {
			want = text
		}
		if got := impl.HexRead(fmt.Sprintf("%x", text)); got != want {
			t.Errorf("HexRead of %d digits has %d bytes", 2*size, len(got))
		}
	}
	for _, count := range []int{7999, 8001, 8003} {
		if got := impl.HexRead(strings.Repeat("6", count)); got != "" {
			t.Errorf("HexRead of %d digits has %d bytes", count, len(got))
		}
	}
}

func TestHexReadOfWhatIsNoHex(t *testing.T) {
	for _, word := range []string{
		"6", "f", "616", "61626", "6A", "A6", "AA", "FF", "aF", "Fa", "61FF", "ff61Aa", "g0", "0g", "6g", "/0", "0/", ":0", "0:",
		"@0", "0@", "`0", "0`", "  ", " 6", "6 ", "61 ", " 61", "61 62", "61 6", "0x61", "0x", "-1", "+1", "61-1", "_1", "1_", "61\n", "6\n",
		"\x00\x00", "\xff\xff", "\u00e9", "61\u00e9", "\u0661\u0662", "--", "..", "61zz", "zz61", "61626364656667686", "6162636465666768g9",
	} {
		if got := impl.HexRead(word); got != "" {
			t.Errorf("HexRead(%q): got %q", word, got)
		}
	}
}

func TestHexReadOfEachPair(t *testing.T) {
	for upper := range 256 {
		for lower := range 256 {
			pair := oneByte(upper) + oneByte(lower)
			if got, want := impl.HexRead(pair), hexReadByRule(pair); got != want {
				t.Errorf("HexRead(%q): got %q, want %q", pair, got, want)
			}
			if got := impl.HexRead("61" + pair + "7a"); (got != "") != (impl.HexRead(pair) != "") {
				t.Errorf("HexRead of %q within others: %q", pair, got)
			}
		}
	}
}

func TestTextsComeBackFromTheirHex(t *testing.T) {
	c := &chance{n: 44}
	for range 2000 {
		text := c.lineBytes(c.below(80)) + longText(c.below(20))
		word := impl.Hex(text)
		if word != hexByRule(text) || impl.HexRead(word) != text {
			t.Errorf("%q: %q, and back %q", text, word, impl.HexRead(word))
		}
		if word == "" {
			continue
		}
		at := c.below(len(word))
		bad := word[:at] + oneByte(c.below(256)) + word[at+1:]
		if got, want := impl.HexRead(bad), hexReadByRule(bad); got != want {
			t.Errorf("HexRead(%q): got %q, want %q", bad, got, want)
		}
		if got := impl.HexRead(word[:at] + word[at+1:]); got != "" {
			t.Errorf("without the digit %d of %q: %q", at, word, got)
		}
	}
}

func TestDeskWords(t *testing.T) {
	want := []string{"bytes", "do", "frame", "hear", "line", "tick"}
	got := impl.DeskWords()
	if !slices.Equal(got, want) || !slices.IsSorted(got) {
		t.Errorf("got %q", got)
	}
	for _, word := range want {
		line := word + " 0\n"
		if word == "line" {
			line = "line\n"
		}
		if x := impl.DeskFault(line); x.Code != impl.OK {
			t.Errorf("%q begins no line", word)
		}
	}
}

func TestWhatIsWrittenIntoDeskWordsIsNotSeenInTheNext(t *testing.T) {
	first := impl.DeskWords()
	want := slices.Clone(first)
	for at := range first {
		first[at] = "spoilt"
	}
	_ = append(first[:3], "spoilt", "too")
	if got := impl.DeskWords(); !slices.Equal(got, want) {
		t.Errorf("the next: %q", got)
	}
	wantTold(t, "behind it", "line", "down", "frame 6", "-", "bytes 6", "-", "do x", "error 6", "hear x", "error 4", "tick 1", "error 8")
	wantNoLine(t, "behind it", "spoilt\n", 0)
}

func TestFrameLines(t *testing.T) {
	most := longText(300)
	wantTold(t, "known", "frame "+knownText, knownFrame)
	wantTold(t, "escaped, but nothing mapped",
		"frame 7e", hexByRule(frameByRule("\x7e", 0, false)),
		"frame 7d7e7d", hexByRule(frameByRule("\x7d\x7e\x7d", 0, false)),
		"frame 000a1f", hexByRule("\x7e\x00\x0a\x1f"+tailByRule(widths()[0], "\x00\x0a\x1f")+"\x7e"))
	wantTold(t, "the most", "frame "+hexByRule(most), hexByRule(frameByRule(most, 0, false)))
	wantTold(t, "too many", "frame "+hexByRule(longText(301)), "-")
	wantTold(t, "far too many", "frame "+hexByRule(longText(3996)), "-")
	for _, word := range []string{"6", "616", "6A", "FF", "xy", "-", "0x61", "61\t", "61\r", "\t", "\x00", "\xff", "\u00e9\u00e9", "hello"} {
		wantTold(t, "no hex", "frame "+word, "-", "frame 61", "7e61"+hexByRule(tailByRule(widths()[0], "a"))+"7e")
	}
	wantTold(t, "a frame is not found by itself", "frame 61", hexByRule(frameByRule("a", 0, false)), "bytes 7e7e", "-")
}

func TestBytesLines(t *testing.T) {
	bad := "7e" + knownText + "6e917e"
	long := "7e" + strings.Repeat("61", 305) + "7e"
	for _, x := range []struct{ what, bytes, told string }{
		{"good", knownFrame, "1:" + knownText},
		{"bad", bad, "2"},
		{"short", "7e61627e", "3"},
		{"abort", "7e61627d7e", "4"},
		{"long", long, "5"},
		{"nothing", "616263", "-"},
		{"a flag", "7e", "-"},
		{"flags", "7e7e7e", "-"},
		{"no end", knownFrame[:len(knownFrame)-2], "-"},
		{"each kind", knownFrame + bad + "7e617e" + "7e7d7e" + long + knownFrame, "1:" + knownText + " 2 3 4 5 1:" + knownText},
		{"one flag between", knownFrame + knownFrame[2:], "1:" + knownText + " 1:" + knownText},
		{"a wide one is bad", hexByRule(frameByRule("hello", 0, true)), "2"},
		{"nothing is mapped", hexByRule(frameByRule("\x00\x11", 0, false)), "1:0011"},
		{"escaped", hexByRule(frameByRule("\x7e\x7d", mapFull, false)), "1:7e7d"},
		{"the most", hexByRule(frameByRule(longText(300), 0, false)), "1:" + hexByRule(longText(300))},
	} {
		wantTold(t, x.what, "bytes "+x.bytes, x.told)
		behind := "line\nbytes " + knownFrame + "\nbytes 7e7e\nbytes " + x.bytes + "\nbytes 7e\n"
		wantDeskOut(t, x.what+", behind others", behind, deskRunByRule(t, behind))
	}
	for _, word := range []string{"7", "7E617E", "7e617", "xy", "-", "7e61\t", "\r", "\x00", "hello"} {
		wantTold(t, "no hex does nothing", "bytes 7e61", "-", "bytes "+word, "-", "bytes 7e", "3")
	}
}

func TestFoundsGoOnInTheNextLine(t *testing.T) {
	for at := 2; at < len(knownFrame); at += 2 {
		wantTold(t, "good", "bytes "+knownFrame[:at], "-", "line", "down", "bytes "+knownFrame[at:], "1:"+knownText)
	}
	wantTold(t, "bad", "bytes 7e3132", "-", "frame 61", hexByRule(frameByRule("a", 0, false)), "bytes 337e", "2")
	wantTold(t, "short", "bytes 7e", "-", "bytes 61", "-", "bytes 627e", "3")
	wantTold(t, "abort", "bytes 7e617d", "-", "bytes 7e", "4")
	wantTold(t, "an escape kept", "bytes "+hexByRule(frameByRule("~", 0, false)[:2]), "-", "bytes "+hexByRule(frameByRule("~", 0, false)[2:]), "1:7e")
	wantTold(t, "long", "bytes 7e"+strings.Repeat("61", 304), "-", "bytes 61", "-", "bytes 7e", "5", "bytes 617e", "3")
	wantTold(t, "not long", "bytes 7e"+strings.Repeat("61", 304), "-", "bytes 7e", "2")
	wantTold(t, "the end of one is the beginning of the next",
		"bytes "+knownFrame, "1:"+knownText, "bytes "+knownFrame[2:], "1:"+knownText, "bytes 617e627e", "3 3")
	wantTold(t, "whatever the end does", append(opened("bytes "+knownFrame[:8], "-"),
		"do Down", "state 1", "tick 5", "error 8", "hear 00", "error 4", "bytes "+knownFrame[8:], "1:"+knownText)...)
}

func TestABytesLineTellsFourHundred(t *testing.T) {
	for _, count := range []int{1, 2, 399, 400, 401, 450} {
		want := strings.TrimSpace(strings.Repeat("3 ", min(count, 400)))
		wantTold(t, fmt.Sprint(count), "bytes 7e"+strings.Repeat("617e", count)+"62", want, "bytes 7e", "3")
	}
}

func TestDoLines(t *testing.T) {
	wantTold(t, "opened, up", "do Open", "state 1", "do Up", "state 6 01010014"+deskAsks)
	wantTold(t, "up, opened", "do Up", "state 2", "do Open", "state 6 01010014"+deskAsks)
	wantTold(t, "closed", opened("do Close", "state 4 05020004")...)
	wantTold(t, "closed while down", "do Open", "state 1", "do Close", "state 0", "do Up", "state 2", "do Close", "state 2")
	wantTold(t, "down", opened("do Down", "state 1", "do Up", "state 6 01020014"+deskAsks)...)
	wantTold(t, "refused by the state", "do Down", "error 8", "do Up", "state 2", "do Up", "error 8", "do Down", "state 0", "do Down", "error 8")
	wantTold(t, "opened twice", "do Open", "state 1", "do Open", "state 1")
	wantTold(t, "up and down", up("do Up", "error 8", "line", "up 300 300", "do Down", "state 1", "line", "down")...)
}

func TestDoLinesOfEachEvent(t *testing.T) {
	told := map[string]string{"Up": "state 2", "Down": "error 8", "Open": "state 1", "Close": "state 0"}
	for _, event := range fsmEvents() {
		want, known := told[event]
		if !known {
			want = "error 6"
		}
		wantTold(t, event, "do "+event, want)
	}
	for _, event := range append(wrongEvents(), "Up\r", "Up\t", "\tUp", "\r", "\t", "-", "do", "line", longText(900)) {
		if event == "" || strings.ContainsAny(event, " \n") {
			continue
		}
		wantTold(t, "none", "do Open", "state 1", "do "+event, "error 6", "do Up", "state 6 01010014"+deskAsks)
	}
}

func TestHearLinesThatAreRefused(t *testing.T) {
	short, syntax, state := "error 4", "error 3", "error 8"
	for _, x := range [][2]string{
		{"0", short}, {"00", short}, {"x", short}, {"-", short}, {"0101", short}, {"010100", short}, {"0101000", short}, {"0101000x", short},
		{"0105000G", short}, {"050100FF", short}, {"05010004\t", short}, {"05010004\r", short}, {"\x05\x01\x00\x04", short},
		{"05010000", syntax}, {"05010003", syntax}, {"05010005", syntax}, {"050100ff", syntax}, {"0501ffff", syntax}, {"05010100" + strings.Repeat("61", 252), syntax},
		{"050100ff" + strings.Repeat("61", 251), syntax}, {"05010006ff", syntax},
		{"0101000501", syntax}, {"010100060101", syntax}, {"01010006010361", syntax}, {"03010006010361", syntax}, {"04010005ff", syntax},
		{"02010004", state}, {"02020014" + deskAsks, state}, {"02010014" + strings.Replace(deskAsks, "07", "08", 1), state},
		{"03020004", state}, {"04000004", state}, {"03020006010361", state},
		{"07010004", short}, {"07ff0004aa", short},
	} {
		wantTold(t, "refused, and nothing comes of it", opened("hear "+x[0], x[1], "hear 02010014"+deskAsks, "state 7")...)
	}
	for _, packet := range []string{"02010014" + deskAsks, "01010004", "05010004", "06010004", "09010008abcdabcd", "ff010004", "07010004"} {
		wantTold(t, "in the states 0 and 1", "hear "+packet, state, "do Open", "state 1", "hear "+packet, state)
	}
	wantTold(t, "of the Packet ahead of the state", "hear 01", short, "hear 01010003", syntax, "hear 01010004", state)
}

func TestHearLines(t *testing.T) {
	wantTold(t, "a request that is agreed to", opened("hear 01090008010400c8", "state 8 02090008010400c8")...)
	wantTold(t, "one that is naked", opened("hear 0109000801040001", "state 6 030900080104012c")...)
	wantTold(t, "one that is rejected", opened("hear 01090007090104", "error 3", "hear 01090007090304", "state 6 03090007090302", "hear 0109000603026162", "state 6 040900060302")...)
	wantTold(t, "our own Magic", opened("hear 0109000a050600000007", "state 6 0309000a050600000054")...)
	wantTold(t, "a nak of our own", opened("hear 0301000801040064", "state 6 01020018"+"01040064"+deskAsks)...)
	wantTold(t, "a reject of our own", opened("hear 040100060702", "state 6 01020012"+strings.Replace(deskAsks, "0702", "", 1))...)
	wantTold(t, "in the state 3", opened("tick 3", "state 6 01020014"+deskAsks, "tick 3", "state 6 01030014"+deskAsks,
		"tick 3", "state 6 01040014"+deskAsks, "tick 3", "state 6 01050014"+deskAsks, "tick 3", "state 3",
		"hear 01070004", "state 8 01060014"+deskAsks+" 02070004")...)
	wantTold(t, "what is behind a packet", opened("hear 050100046162", "state 6 06010004")...)
	wantTold(t, "an unknown code", opened("hear 0c01000561", "state 6 070200090c01000561")...)
	wantTold(t, "an echo", up("hear 0904000800000001", "state 9 0a04000800000007", "hear 0904000a000000016162", "state 9 0a04000a000000076162",
		"hear 09040004", "state 9", "hear 0a04000800000001", "state 9", "hear 0b040004", "state 9")...)
	wantTold(t, "a code that is rejected", up("hear 0701000509", "state 9", "hear 0701000505", "state 5 05020004", "line", "down")...)
	wantTold(t, "the most Data", opened("hear 0c0100fe"+strings.Repeat("61", 250), "state 6 070200fe0c0100fe"+strings.Repeat("61", 246))...)
	wantTold(t, "a request to end", up("hear 05330004", "state 5 06330004", "line", "down", "tick 2", "error 8", "tick 1", "state 3")...)
}

func TestTickLines(t *testing.T) {
	wantTold(t, "nothing is due", "tick 0", "error 8", "tick 1", "error 8", "tick 999999999", "error 8")
	wantTold(t, "below Due, and at it", opened("tick 2", "error 8", "tick 0", "error 8", "tick 1", "state 6 01020014"+deskAsks)...)
	wantTold(t, "beyond Due", opened("tick 4", "state 6 01020014"+deskAsks, "tick 2", "error 8", "tick 1", "state 6 01030014"+deskAsks)...)
	wantTold(t, "by ones", opened("tick 1", "error 8", "tick 1", "error 8", "tick 1", "state 6 01020014"+deskAsks)...)
	wantTold(t, "the time is there ahead of the end", append([]string{"tick 10", "error 8"},
		opened("tick 2", "error 8", "tick 1", "state 6 01020014"+deskAsks)...)...)
	wantTold(t, "a time at which a packet is heard", opened("tick 2", "error 8", "hear 02010014"+deskAsks, "state 7",
		"tick 2", "error 8", "tick 1", "state 6 01020014"+deskAsks)...)
	wantTold(t, "at once behind a great one", opened("tick 999999999", "state 6 01020014"+deskAsks, "tick 0", "error 8")...)
	wantTold(t, "a closing that is not heard of", opened("do Close", "state 4 05020004", "tick 3", "state 4 05030004", "tick 3", "state 4 05040004",
		"tick 3", "state 4 05050004", "tick 3", "state 4 05060004", "tick 3", "state 2", "tick 3", "error 8")...)
}

// A time above MaxTime would be none, and an end would tell so (error 1).
func TestTheTimeIsAtMostMaxTime(t *testing.T) {
	again := "state 6 01020014" + deskAsks
	wantTold(t, "three below it", append([]string{"tick 999999997", "error 8"},
		opened("tick 2", "error 8", "tick 1", again, "tick 3", "error 8", "do Close", "state 4 05030004")...)...)
	for _, ticks := range [][]string{
		{"999999998"}, {"999999999"}, {"999999999", "1"}, {"999999998", "2"}, {"999999999", "2"}, {"999999999", "999999999", "999999999"},
	} {
		var turns []string
		for _, n := range ticks {
			turns = append(turns, "tick "+n, "error 8")
		}
		wantTold(t, fmt.Sprint(ticks), append(turns, opened("tick 3", "error 8", "tick 999999999", "error 8", "tick 0", "error 8",
			"hear 02010014"+deskAsks, "state 7", "tick 9", "error 8", "do Close", "state 4 05020004", "tick 5", "error 8")...)...)
	}
	wantTold(t, "all at once", opened("tick 999999999", again, "tick 1", "error 8", "tick 999999999", "error 8", "do Down", "state 1")...)
}

func TestLineLines(t *testing.T) {
	wantTold(t, "down in each state but 9", "line", "down", "do Up", "state 2", "line", "down", "do Down", "state 0", "do Open", "state 1", "line", "down",
		"do Up", "state 6 01010014"+deskAsks, "line", "down", "hear 01090004", "state 8 02090004", "line", "down",
		"hear 02010014"+deskAsks, "state 9", "line", "up 300 300", "line", "up 300 300", "do Close", "state 4 05020004", "line", "down")
	wantTold(t, "the Mru of In ahead of that of Out", opened("hear 0301000801040064", "state 6 0102001801040064"+deskAsks,
		"hear 01020008010400c8", "state 8 02020008010400c8", "hear 0202001801040064"+deskAsks, "state 9", "line", "up 100 200")...)
	wantTold(t, "Mrus of two and three digits", opened("hear 0301000801040040", "state 6 0102001801040040"+deskAsks,
		"hear 010200080104012b", "state 8 020200080104012b", "hear 0202001801040040"+deskAsks, "state 9", "line", "up 64 299")...)
}

// twoWordKinds are right lines of all kinds that have two words.
func twoWordKinds() []string {
	return []string{"frame 61", "bytes 7e", "do Up", "hear 61", "tick 1"}
}

// wrongLines are none: of each kind with a word too many or too few, a blank too many, other signs, or another first word.
func wrongLines() []string {
	out := []string{
		"", " ", "  ", "\t", "\r", "\x00", "\xff", "-", "61", "0", "help", "Up", "state 1", "error 6", "down", "up 300 300", "bytes:7e",
		"line 1", "line line", "line -", "line 1 2", "line frame 61", "a line", "1 line",
	}
	for _, n := range wrongNumberWords() {
		out = append(out, "tick "+n)
	}
	for _, line := range twoWordKinds() {
		first, word, _ := strings.Cut(line, " ")
		out = append(out, first, first+" ", first+"  ", line+" "+word, line+" x", first+"  "+word, line+" "+word+" "+word, word+" "+first, word,
			first+"\t"+word, first+"\r"+word, first+"\u00a0"+word, first+word, first+"\x00 "+word)
	}
	for _, line := range append(twoWordKinds(), "line") {
		first, word, two := strings.Cut(line, " ")
		rest := line[len(first):]
		out = append(out, " "+line, "  "+line, line+" ", line+"  ", "\t"+line, "\r"+line, "x"+line, "\ufeff"+line,
			strings.ToUpper(first)+rest, strings.ToUpper(first[:1])+first[1:]+rest, first[:len(first)-1]+strings.ToUpper(first[len(first)-1:])+rest,
			first+"s"+rest, first[1:]+rest, first[:len(first)-1]+rest, first+"\r"+rest, first+"\t"+rest)
		if two && first == "tick" {
			out = append(out, line+"\r", line+"\t", "tick\t"+word, "tick \t"+word)
		}
		if !two {
			out = append(out, line+"\r", line+"\t", line+"\x00", line+line, line+"."+line)
		}
	}
	return out
}

// wrongNumberWords are words, or none, that are no N.
func wrongNumberWords() []string {
	return []string{
		"", "00", "01", "001", "000000000", "000000001", "0000000001", "010", "1000000000", "1234567890", "9999999999", "0123456789",
		"9223372036854775807", "9223372036854775808", "18446744073709551617", "99999999999999999999999999",
		"-1", "+1", "-0", "+0", "--1", "-", "+", "1-", "1+", "1.", "1.0", ".1", "1,0", "1e3", "1_0", "0x1", "0b1", "0o1", "1a", "a", "a1", "N", "f",
		"1\t", "\t1", "1\r", "1\x00", "\x001", "1\xff", "\uff11", "\u0661", "one", "1'000", "12345678a", "a23456789",
	}
}

func TestNumbersOfATick(t *testing.T) {
	for _, n := range []string{"0", "1", "2", "9", "10", "99", "100", "101", "12345678", "100000000", "123456789", "999999999"} {
		wantTold(t, "a number", "tick "+n, "error 8")
	}
	for _, n := range wrongNumberWords() {
		wantNoLine(t, "no number", "tick "+n+"\n", 0)
		wantNoLine(t, "no number", "line\ntick 1\ntick "+n+"\nline\n", 2)
	}
}

func TestLinesThatAreNone(t *testing.T) {
	for _, line := range wrongLines() {
		wantNoLine(t, "alone", line+"\n", 0)
		wantNoLine(t, "behind another", "line\n"+line+"\n", 1)
		wantNoLine(t, "ahead of another", line+"\nline\n", 0)
		wantNoLine(t, "ahead of one that is none", "line\n"+line+"\nx\n", 1)
		wantNoLine(t, "the 40th", deskLines(39)+line+"\n", 39)
		wantNoLine(t, "the 41st", deskLines(40)+line+"\n", 40)
		wantNoLine(t, "behind all kinds", "do Open\ndo Up\nhear 02010014"+deskAsks+"\ntick 1\nbytes 7e\nframe 61\nline\n"+line+"\n", 7)
	}
}

// Beside the blank and the line feed no sign parts words or lines.
func TestEachSignInALine(t *testing.T) {
	for n := range 256 {
		sign := oneByte(n)
		for _, text := range []string{
			"line" + sign + "\n", sign + "line\n", "do" + sign + "Up\n", "do " + sign + "\n", "do " + sign + "Up\n", "do Up" + sign + "\n",
			"frame 6" + sign + "\n", "frame " + sign + "1\n", "frame" + sign + "61\n", "tick " + sign + "\n", "tick 1" + sign + "\n", "tick " + sign + "1\n",
			sign, sign + "\n", "line\n" + sign, "line\n" + sign + "\n", "line" + sign + "line\n", "hear 05" + sign + "10004\n", "bytes 7e6" + sign + "7e\n",
		} {
			wantDeskOut(t, "a sign", text, deskRunByRule(t, text))
		}
	}
}

func TestDeskOfNoLinesAndOfMany(t *testing.T) {
	wantDeskOut(t, "no line", "", impl.DeskOut{})
	wantNoLine(t, "an empty line", "\n", 0)
	wantNoLine(t, "empty lines", "\n\n\n", 0)
	wantNoLine(t, "an empty line behind one", "line\n\n", 1)
	wantNoLine(t, "an empty line between", "line\n\nline\n", 1)
	for _, count := range []int{1, 2, 39, 40} {
		wantDeskOut(t, "lines", deskLines(count), impl.DeskOut{Text: strings.Repeat("down\n", count)})
		wantNoLine(t, "an empty one more", deskLines(count)+"\n", int64(count))
	}
	for _, count := range []int{41, 42, 80, 1000, 1600} {
		wantNoLine(t, "too many", deskLines(count), 40)
		wantNoLine(t, "too many, the last none", deskLines(count-1)+"x\n", 40)
		wantNoLine(t, "too many, the last without its end", strings.TrimSuffix(deskLines(count), "\n"), 40)
	}
	for _, at := range []int{0, 1, 20, 38, 39} {
		wantNoLine(t, "too many, an earlier one none", deskLines(at)+"x\n"+deskLines(45), int64(at))
	}
}

func TestALineWithoutItsLineFeed(t *testing.T) {
	for _, line := range append(twoWordKinds(), "line", "x", " ", "tick", "tick 01", "line ", "line\r", "lin") {
		wantNoLine(t, "alone", line, 0)
		wantNoLine(t, "behind one", "line\n"+line, 1)
		wantNoLine(t, "behind an empty one", "\n"+line, 0)
		wantNoLine(t, "behind one that is none", "line\nx\n"+line, 1)
		wantNoLine(t, "the 40th", deskLines(39)+line, 39)
		wantNoLine(t, "the 41st", deskLines(40)+line, 40)
	}
	wantNoLine(t, "with a carriage return in its place", "line\rline\r", 0)
	wantNoLine(t, "with both", "line\r\nline\r\n", 0)
}

func TestFaultsOfADeskInTheirOrder(t *testing.T) {
	size := impl.DeskOut{Code: impl.ErrSize}
	wantDeskOut(t, "the most bytes", "frame "+strings.Repeat("6", 7993)+"\n", impl.DeskOut{Text: "-\n"})
	wantDeskOut(t, "the most bytes, all hex", "bytes "+strings.Repeat("61", 3995)+"7"+"x\n", impl.DeskOut{Text: "-\n"})
	wantDeskOut(t, "one more", "frame "+strings.Repeat("6", 7994)+"\n", size)
	wantDeskOut(t, "one more without a line feed", strings.Repeat("x", 8001), size)
	wantNoLine(t, "the most without a line feed", strings.Repeat("x", 8000), 0)
	wantDeskOut(t, "more lines than are read", deskLines(1601), size)
	wantNoLine(t, "as many as are read", deskLines(1600), 40)
	wantDeskOut(t, "size ahead of a line that is none", "x\n"+strings.Repeat("y", 7999), size)
	wantNoLine(t, "a line that is none", "x\n"+strings.Repeat("y", 7998), 0)
	wantNoLine(t, "only blanks", strings.Repeat(" ", 7999)+"\n", 0)
	wantNoLine(t, "only line feeds", strings.Repeat("\n", 8000), 0)
	wantNoLine(t, "a refused event ahead of one that is none", "do x\nhear 00\ntick 1\nx\n", 3)
}

// deskHex is a word of bytes, or at times one that is no hex.
func (c *chance) deskHex(text string) string {
	word := hexByRule(text)
	switch {
	case word == "" || c.below(25) == 0:
		return []string{"-", "x", "6", "616", "6A", "\t", "61\r", "\xff", "zz"}[c.below(9)]
	case c.below(40) == 0:
		return word[1:] + "g"
	}
	return word
}

func (c *chance) deskBytes() string {
	text := ""
	for range 1 + c.below(3) {
		switch c.below(4) {
		case 0:
			text += c.lineBytes(1 + c.below(12))
		case 1:
			text += frameByRule(c.lineBytes(1+c.below(12)), 0, false)
		case 2:
			whole := frameByRule(longText(1+c.below(9)), 0, false)
			text += whole[:c.below(len(whole))+1]
		default:
			whole := frameByRule(longText(1+c.below(9)), 0, false)
			text += whole[c.below(len(whole)):]
		}
	}
	if c.below(60) == 0 {
		text += longText(303 + c.below(4))
	}
	return text
}

// packetFor is mostly one that opens a desk's end.
func (c *chance) packetFor(e impl.End, all []impl.Option) string {
	p := c.packetTo(e, all)
	switch c.below(6) {
	case 0, 1:
		p = impl.Packet{Code: 2, Id: e.Id, Data: optionsBytesByRule(e.Mine)}
	case 2:
		p = impl.Packet{Code: 3, Id: e.Id, Data: "\x01\x04\x00" + oneByte(100+c.below(2))}
	case 3:
		asked := askByRule(impl.Config{Mru: c.pick(64, 100, 200, 299, 300), Accm: c.pick(0, top32), Magic: c.pick(0, 1, 9)})
		p = impl.Packet{Code: 1, Id: int64(c.below(256)), Data: optionsBytesByRule(asked)}
	}
	text := packetBytesByRule(p)
	switch c.below(20) {
	case 0:
		return text[:c.below(len(text)+1)]
	case 1:
		return text + longText(c.below(9))
	}
	return text
}

func (c *chance) deskLine(d *deskWords, all []impl.Option) string {
	switch c.below(14) {
	case 0:
		return "frame " + c.deskHex(c.lineBytes(int(c.pick(0, 1, 2, 3, 9, 20, 40))))
	case 1, 2:
		return "bytes " + c.deskHex(c.deskBytes())
	case 3:
		return "do " + []string{"Up", "Down", "Open", "Close", fsmEvents()[c.below(16)], "up", "x", "\r"}[c.below(8)]
	case 4, 5:
		return "do " + []string{"Up", "Open"}[c.below(2)]
	case 6, 7:
		return "tick " + fmt.Sprint(c.pick(0, 1, 1, 2, 3, 3, 3, 4, 10, 500, 999999998, 999999999))
	case 8, 9:
		return "line"
	}
	return "hear " + c.deskHex(c.packetFor(d.end, all))
}

// desk has so many lines, or as many as one text may have bytes of, and what each of them tells by the document's words.
// To some of them nobody speaks, so that their ends try till they give up.
func (c *chance) desk(t *testing.T, count int, all []impl.Option) (lines, told []string) {
	t.Helper()
	d, size, alone := newDeskWords(), 0, c.below(4) == 0
	for range count {
		line := c.deskLine(d, all)
		if alone && strings.HasPrefix(line, "hear") {
			line = "tick 3"
		}
		if size += len(line) + 1; size > impl.MaxBytes {
			break
		}
		lines = append(lines, line+"\n")
		told = append(told, d.tells(t, line)+"\n")
	}
	return lines, told
}

func TestDeskRunIsByTheRule(t *testing.T) {
	c, all := &chance{n: 45}, policyOptions()
	seen := map[string]int{}
	for range 2000 {
		lines, told := c.desk(t, c.below(41), all)
		wantDeskOut(t, "by the rule", strings.Join(lines, ""), impl.DeskOut{Text: strings.Join(told, "")})
		for at, line := range lines {
			first, _, _ := strings.Cut(strings.TrimSpace(line), " ")
			seen[first+" "+told[at][:min(len(told[at])-1, 7)]]++
		}
	}
	for _, kind := range []string{"line down", "line up 300", "line up 100", "bytes -", "bytes 1:", "bytes 2", "bytes 3", "bytes 4", "frame -", "frame 7e",
		"do error 6", "do error 8", "do state 9", "do state 4", "hear error 3", "hear error 4", "hear error 8", "hear state 9", "hear state 5",
		"tick error 8", "tick state 3", "tick state 6", "tick state 8"} {
		count := 0
		for what, n := range seen {
			if strings.HasPrefix(what, kind) {
				count += n
			}
		}
		if count < 5 {
			t.Errorf("%q came but %d times", kind, count)
		}
	}
}

// Promise 14.
func TestEachLineOfADeskTellsALine(t *testing.T) {
	c, all := &chance{n: 46}, policyOptions()
	for n := range 400 {
		lines, _ := c.desk(t, n%41, all)
		whole := impl.DeskRun(strings.Join(lines, ""))
		if whole.Code != impl.OK || whole.Line != 0 || strings.Count(whole.Text, "\n") != len(lines) {
			t.Fatalf("%d lines tell %q, with the code %d", len(lines), whole.Text, whole.Code)
		}
		before := ""
		for at := range lines {
			x := impl.DeskRun(strings.Join(lines[:at+1], ""))
			tells, begins := strings.CutPrefix(x.Text, before)
			if x.Code != impl.OK || !begins || !strings.HasPrefix(whole.Text, x.Text) {
				t.Fatalf("the first %d of %q tell %q, all of them %q", at+1, lines, x.Text, whole.Text)
			}
			if len(tells) < 2 || strings.Index(tells, "\n") != len(tells)-1 || strings.TrimSpace(tells)+"\n" != tells || strings.Contains(tells, "  ") {
				t.Fatalf("the line %q tells %q", lines[at], tells)
			}
			before = x.Text
		}
		if before != whole.Text {
			t.Fatalf("line by line %q, at once %q", before, whole.Text)
		}
	}
}

// Promise 14, of texts that are refused: nothing is told of the lines ahead of the first one that is none.
func TestOfARefusedDeskNothingIsTold(t *testing.T) {
	c, all := &chance{n: 47}, policyOptions()
	wrong := wrongLines()
	for n := range 4000 {
		lines, _ := c.desk(t, n%41, all)
		at := c.below(len(lines) + 1)
		lines = slices.Insert(lines, at, wrong[c.below(len(wrong))]+"\n")
		for range c.below(3) {
			lines = append(lines, wrong[c.below(len(wrong))]+"\n")
		}
		text := strings.Join(lines, "")
		// Without its line feed an empty last line would be no line.
		if lines[len(lines)-1] != "\n" && c.below(4) == 0 {
			text = strings.TrimSuffix(text, "\n")
		}
		want := impl.DeskOut{Line: int64(at), Code: impl.ErrSyntax}
		if len(text) > impl.MaxBytes {
			want = impl.DeskOut{Code: impl.ErrSize}
		}
		wantDeskOut(t, "refused", text, want)
	}
}

func TestNothingIsKeptFromDeskToDesk(t *testing.T) {
	c, all := &chance{n: 48}, policyOptions()
	var texts []string
	var told []impl.DeskOut
	for range 40 {
		lines, _ := c.desk(t, 1+c.below(40), all)
		texts = append(texts, strings.Join(lines, ""))
		told = append(told, impl.DeskRun(texts[len(texts)-1]))
		impl.DeskRun("do Open\ndo Up\ntick 9\nbytes 7e61\nx\n")
	}
	for at, text := range texts {
		wantDeskOut(t, "once more", text, told[at])
	}
}

// agreedRequests are Options that a desk's end agrees to.
func agreedRequests() [][]impl.Option {
	out := [][]impl.Option{nil}
	for _, o := range policyOptions() {
		out = append(out, []impl.Option{o})
	}
	for _, c := range rightConfigs() {
		out = append(out, askByRule(c))
	}
	c := &chance{n: 49}
	for range 3000 {
		out = append(out, c.endOptions(policyOptions()))
	}
	return slices.DeleteFunc(out, func(l []impl.Option) bool { return replyByRule(deskConfig(), l).Code != impl.CfAck })
}

// Promise 15.
func TestAnEndThatIsOpenedUpAndAgreesIsUp(t *testing.T) {
	c := &chance{n: 50}
	requests := agreedRequests()
	mrus := map[int64]int{}
	for _, request := range requests {
		data := optionsBytesByRule(request)
		id := int64(c.below(256))
		mru := lineByRule(request).Mru
		mrus[mru]++
		isUp := fmt.Sprintf("up 300 %d", mru)
		asks := "hear " + hexByRule(packetBytesByRule(impl.Packet{Code: impl.CfRequest, Id: id, Data: data}))
		agrees := " " + hexByRule(packetBytesByRule(impl.Packet{Code: impl.CfAck, Id: id, Data: data}))
		acks := "hear 02010014" + deskAsks
		closing := []string{"line", isUp, "do Close", "state 4 05020004", "line", "down", "hear 06020004", "state 2", "line", "down"}
		for _, start := range [][]string{
			{"line", "down", "do Open", "state 1", "line", "down", "do Up", "state 6 01010014" + deskAsks, "line", "down"},
			{"line", "down", "do Up", "state 2", "line", "down", "do Open", "state 6 01010014" + deskAsks, "line", "down"},
		} {
			wantTold(t, "asked, then agreed to", slices.Concat(start, []string{asks, "state 8" + agrees, "line", "down", acks, "state 9"}, closing)...)
			wantTold(t, "agreed to, then asked", slices.Concat(start, []string{acks, "state 7", "line", "down", asks, "state 9" + agrees}, closing)...)
		}
	}
	if len(requests) < 100 || len(mrus) < 6 {
		t.Errorf("but %d requests, of %d Mrus", len(requests), len(mrus))
	}
}

// Promise 15: up and down take turns as often as it is closed, and opened again.
func TestAnEndIsOpenedAndClosedAgain(t *testing.T) {
	var turns []string
	turns = append(turns, "do Up", "state 2")
	for id := 1; id < 9; id += 2 {
		turns = append(turns, "do Open", fmt.Sprintf("state 6 01%02x0014%s", id, deskAsks),
			"hear 01090004", "state 8 02090004", fmt.Sprintf("hear 02%02x0014%s", id, deskAsks), "state 9", "line", "up 300 300",
			"do Close", fmt.Sprintf("state 4 05%02x0004", id+1), "line", "down", fmt.Sprintf("hear 06%02x0004", id+1), "state 2", "line", "down")
	}
	wantTold(t, "again and again", turns...)
	wantTold(t, "an ack of an earlier request", opened("tick 3", "state 6 01020014"+deskAsks, "hear 02010014"+deskAsks, "error 8",
		"hear 01090004", "state 8 02090004", "line", "down", "hear 02020014"+deskAsks, "state 9", "line", "up 300 300")...)
	wantTold(t, "a request that is not agreed to", opened("hear 02010014"+deskAsks, "state 7", "hear 0109000801040001", "state 7 030900080104012c",
		"line", "down", "hear 010a00080104012c", "state 9 020a00080104012c", "line", "up 300 300")...)
}

// cutBytes is the hex of bytes in so many parts, each of a byte at least.
func (c *chance) cutBytes(word string, count int) []string {
	var parts []string
	for ; count > 1 && len(word) > 2*count; count-- {
		at := 2 * (1 + c.below(len(word)/2-count+1))
		parts = append(parts, word[:at])
		word = word[at:]
	}
	return append(parts, word)
}

// Promise 15 stands on this: what a desk frames it finds, at once or in parts.
func TestFramedBytesAreFoundAtOnceOrInParts(t *testing.T) {
	c := &chance{n: 51}
	for n := range 600 {
		text := c.lineBytes(1 + n%300)
		if n%3 == 0 {
			text = longText(1 + n%300)
		}
		framed := strings.TrimSpace(impl.DeskRun("frame " + hexByRule(text) + "\n").Text)
		if framed != hexByRule(frameByRule(text, 0, false)) {
			t.Fatalf("%q is framed as %q", text, framed)
		}
		found := "1:" + hexByRule(text)
		wantTold(t, "at once", "bytes "+framed, found)
		wantTold(t, "twice at once", "bytes "+framed+framed, found+" "+found)
		var turns []string
		parts := c.cutBytes(framed, 1+c.below(40))
		for _, part := range parts {
			turns = append(turns, "bytes "+part, "-")
		}
		turns[len(turns)-1] = found
		wantTold(t, fmt.Sprintf("in %d parts", len(parts)), turns...)
	}
}

func TestDesksShareNoMemory(t *testing.T) {
	text := longText(40)
	word := impl.Hex(text)
	wantApart(t, "Hex", []string{text}, []string{word}, []string{impl.Hex(text)})
	wantApart(t, "HexRead", []string{word}, []string{impl.HexRead(word)}, []string{impl.HexRead(word)})
	desk := "frame " + word + "\ndo Open\ndo Up\nhear 05010004\nline\nbytes " + knownFrame + "\n"
	wantApart(t, "DeskRun", []string{desk}, []string{impl.DeskRun(desk).Text}, []string{impl.DeskRun(desk).Text})
}
