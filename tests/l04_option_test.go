package tests

import (
	"fmt"
	"math"
	"slices"
	"strings"
	"testing"

	"loop.example/g00351/impl"
)

func oneByte(n int) string {
	return string([]byte{byte(n)})
}

func optionsRightByRule(l []impl.Option) bool {
	for _, o := range l {
		if o.Kind < 1 || o.Kind > 255 || len(o.Data) > 20 {
			return false
		}
	}
	return len(l) <= 20
}

// optionBytesByRule lays even an option that is not right, so that wrong bytes can be made.
func optionBytesByRule(kind int, data string) string {
	return oneByte(kind) + oneByte(len(data)+2) + data
}

func optionsBytesByRule(l []impl.Option) string {
	out := ""
	for _, o := range l {
		out += optionBytesByRule(int(o.Kind), o.Data)
	}
	return out
}

// optionsReadByRule is the document's words: the right ones whose bytes these are.
func optionsReadByRule(text string) impl.OptionsOut {
	if len(text) > 8000 {
		return impl.OptionsOut{Code: impl.ErrSize}
	}
	var l []impl.Option
	for rest := text; len(rest) >= 2; {
		size := int(rest[1])
		if size < 2 || size > len(rest) {
			break
		}
		l = append(l, impl.Option{Kind: int64(rest[0]), Data: rest[2:size]})
		rest = rest[size:]
	}
	if !optionsRightByRule(l) || optionsBytesByRule(l) != text {
		return impl.OptionsOut{Code: impl.ErrSyntax}
	}
	return impl.OptionsOut{Options: l}
}

func packetBytesByRule(p impl.Packet) string {
	if p.Code < 0 || p.Code > 255 || p.Id < 0 || p.Id > 255 || len(p.Data) > 250 {
		return ""
	}
	size := len(p.Data) + 4
	return oneByte(int(p.Code)) + oneByte(int(p.Id)) + oneByte(size/256) + oneByte(size%256) + p.Data
}

func packetReadByRule(text string) impl.PacketOut {
	if len(text) > 8000 {
		return impl.PacketOut{Code: impl.ErrSize}
	}
	if len(text) < 4 {
		return impl.PacketOut{Code: impl.ErrShort}
	}
	size := int(text[2])*256 + int(text[3])
	if size < 4 || size > 254 || size > len(text) {
		return impl.PacketOut{Code: impl.ErrSyntax}
	}
	return impl.PacketOut{Packet: impl.Packet{Code: int64(text[0]), Id: int64(text[1]), Data: text[4:size]}}
}

func manyOptions(count int, o impl.Option) []impl.Option {
	return slices.Repeat([]impl.Option{o}, count)
}

// rightOptions has lists of none, of one, of each length of Data, and of the most.
func rightOptions() [][]impl.Option {
	out := [][]impl.Option{
		nil,
		{},
		{{Kind: impl.OptPfc}},
		{{Kind: 1}, {Kind: 255}},
		{{Kind: impl.OptMru, Data: "\x01\x00"}, {Kind: impl.OptPfc}},
		{{Kind: 7}, {Kind: 7}, {Kind: 1, Data: "\x07\x02"}, {Kind: 7}},
		{{Kind: 2, Data: "\x02\x02"}, {Kind: 2}, {Kind: 2, Data: "\x00"}},
		{{Kind: 9, Data: "gr\u00fc\u00dfe"}, {Kind: 3, Data: "\xff\xfe\x80"}},
		manyOptions(19, impl.Option{Kind: 8}),
		manyOptions(20, impl.Option{Kind: 8}),
		manyOptions(20, impl.Option{Kind: 255, Data: longText(20)}),
	}
	var each []impl.Option
	for size := range 21 {
		out = append(out, []impl.Option{{Kind: int64(size + 1), Data: longText(size)}})
		each = append(each, impl.Option{Kind: int64(255 - size), Data: strings.Repeat("\xff", size)})
	}
	return append(out, each[:20], each[1:])
}

// wrongOptions has lists that are not right by just one of their items, or by their count.
func wrongOptions() [][]impl.Option {
	good := impl.Option{Kind: 1, Data: "ab"}
	out := [][]impl.Option{
		manyOptions(21, good),
		manyOptions(impl.MaxList, good),
		manyOptions(impl.MaxList+1, good),
	}
	for _, bad := range []impl.Option{
		{}, {Kind: 0, Data: "ab"}, {Kind: 256}, {Kind: 257, Data: "ab"}, {Kind: -1}, {Kind: -255}, {Kind: -256}, {Kind: 1<<32 + 1},
		{Kind: math.MaxInt64}, {Kind: math.MinInt64}, {Kind: math.MinInt64 + 1},
		{Kind: 1, Data: longText(21)}, {Kind: 255, Data: longText(254)}, {Kind: 1, Data: longText(256)}, {Kind: 1, Data: longText(impl.MaxBytes + 1)},
	} {
		out = append(out, []impl.Option{bad}, []impl.Option{bad, good}, []impl.Option{good, bad}, append(manyOptions(19, good), bad))
	}
	return out
}

func somePackets() []impl.Packet {
	out := []impl.Packet{
		{}, {Code: 1, Id: 5, Data: "ab"}, {Code: 255, Id: 255}, {Code: 0, Id: 255, Data: "x"}, {Code: 255, Id: 0, Data: "\x00"},
		{Code: impl.CfRequest, Id: 1, Data: "\x01\x04\x01\x00\x07\x02"}, {Code: 1, Id: 2, Data: "gr\u00fc\u00dfe\xff\x80"},
	}
	for size := range 251 {
		out = append(out, impl.Packet{Code: int64(size), Id: int64(255 - size), Data: longText(size)})
	}
	return out
}

func wrongPackets() []impl.Packet {
	var out []impl.Packet
	for _, n := range []int64{-1, -255, -256, 256, 257, 1 << 32, math.MaxInt64, math.MinInt64} {
		out = append(out, impl.Packet{Code: n}, impl.Packet{Id: n}, impl.Packet{Code: n, Id: n, Data: "ab"}, impl.Packet{Code: 1, Id: n, Data: longText(250)})
	}
	for _, size := range []int{251, 252, 256, 300, impl.MaxBytes, impl.MaxBytes + 1} {
		out = append(out, impl.Packet{Code: 1, Id: 1, Data: longText(size)})
	}
	return out
}

func shown(l []impl.Option) string {
	s := fmt.Sprintf("%d options %+q", len(l), fmt.Sprint(l))
	return s[:min(len(s), 300)]
}

func shownPacket(p impl.Packet) string {
	return fmt.Sprintf("packet %d, %d, %d bytes %.60q", p.Code, p.Id, len(p.Data), p.Data)
}

func wantOptions(t *testing.T, what, text string, want impl.OptionsOut) {
	t.Helper()
	got := impl.OptionsRead(text)
	if got.Code != want.Code || !slices.Equal(got.Options, want.Options) {
		t.Errorf("%s: of %d bytes %.60q:\n got code %d, %s\nwant code %d, %s", what, len(text), text, got.Code, shown(got.Options), want.Code, shown(want.Options))
	}
}

func wantPacket(t *testing.T, what, text string, want impl.PacketOut) {
	t.Helper()
	if got := impl.PacketRead(text); got != want {
		t.Errorf("%s: of %d bytes %.60q:\n got code %d, %s\nwant code %d, %s", what, len(text), text, got.Code, shownPacket(got.Packet), want.Code, shownPacket(want.Packet))
	}
}

func TestConstantsOfPacketsAndOptions(t *testing.T) {
	got := []int{impl.MaxOptions, impl.OptMru, impl.OptAccm, impl.OptMagic, impl.OptPfc, impl.OptAcfc, impl.OptFcs,
		impl.CfRequest, impl.CfAck, impl.CfNak, impl.CfReject, impl.TmRequest, impl.TmAck, impl.CdReject, impl.EcRequest, impl.EcReply, impl.Discard}
	if want := []int{20, 1, 2, 5, 7, 8, 9, 1, 2, 3, 4, 5, 6, 7, 9, 10, 11}; !slices.Equal(got, want) {
		t.Errorf("got %v, want %v", got, want)
	}
}

func TestOptionsRight(t *testing.T) {
	for _, l := range rightOptions() {
		if !impl.OptionsRight(l) {
			t.Errorf("right: %s", shown(l))
		}
	}
	for _, l := range wrongOptions() {
		if impl.OptionsRight(l) {
			t.Errorf("not right: %s", shown(l))
		}
	}
	for kind := int64(-300); kind <= 600; kind++ {
		if got := impl.OptionsRight([]impl.Option{{Kind: kind}}); got != (kind >= 1 && kind <= 255) {
			t.Errorf("kind %d: %v", kind, got)
		}
	}
	for size := range 300 {
		if got := impl.OptionsRight([]impl.Option{{Kind: 1, Data: longText(size)}}); got != (size <= 20) {
			t.Errorf("%d bytes: %v", size, got)
		}
	}
	for count := range impl.MaxList + 2 {
		if got := impl.OptionsRight(manyOptions(count, impl.Option{Kind: 1})); got != (count <= 20) {
			t.Errorf("%d options: %v", count, got)
		}
	}
}

func TestOptionsBytes(t *testing.T) {
	for _, c := range []struct {
		l    []impl.Option
		want string
	}{
		{nil, ""},
		{[]impl.Option{{Kind: 7}}, "\x07\x02"},
		{[]impl.Option{{Kind: 255, Data: "\x00"}}, "\xff\x03\x00"},
		{[]impl.Option{{Kind: 1, Data: "\x01\x00"}, {Kind: 7}}, "\x01\x04\x01\x00\x07\x02"},
		{[]impl.Option{{Kind: 7}, {Kind: 1, Data: "\x01\x00"}}, "\x07\x02\x01\x04\x01\x00"},
		{[]impl.Option{{Kind: 5, Data: "abcdefghijklmnopqrst"}}, "\x05\x16abcdefghijklmnopqrst"},
	} {
		if got := impl.OptionsBytes(c.l); got != c.want {
			t.Errorf("%s: got %x, want %x", shown(c.l), got, c.want)
		}
	}
	for _, l := range rightOptions() {
		if got, want := impl.OptionsBytes(l), optionsBytesByRule(l); got != want {
			t.Errorf("%s: got %x, want %x", shown(l), got, want)
		}
	}
	for _, l := range wrongOptions() {
		if got := impl.OptionsBytes(l); got != "" {
			t.Errorf("not right: %s: %x", shown(l), got)
		}
	}
}

// Promise 4, its first half.
func TestRightOptionsComeBackFromTheirBytes(t *testing.T) {
	for _, l := range rightOptions() {
		wantOptions(t, "come back", impl.OptionsBytes(l), impl.OptionsOut{Options: l})
	}
	c := chance{n: 4}
	for range 3000 {
		l := make([]impl.Option, c.below(21))
		for at := range l {
			l[at] = impl.Option{Kind: int64(1 + c.below(255)), Data: c.lineBytes(c.below(21))}
		}
		wantOptions(t, "come back by chance", impl.OptionsBytes(l), impl.OptionsOut{Options: l})
	}
}

// Promise 4 the other way round: nothing is read but what would be told just so.
func TestBytesOfOptionsThatAreReadAreToldJustSo(t *testing.T) {
	c := chance{n: 5}
	read := 0
	for range 40000 {
		text := make([]byte, c.below(12))
		for at := range text {
			text[at] = byte(c.below(5))
		}
		got := impl.OptionsRead(string(text))
		if got.Code == impl.OK {
			read++
			if told := impl.OptionsBytes(got.Options); told != string(text) || !impl.OptionsRight(got.Options) {
				t.Errorf("%x is read as %s, which is told as %x", text, shown(got.Options), told)
			}
		}
		wantOptions(t, "by chance", string(text), optionsReadByRule(string(text)))
	}
	if read < 1000 {
		t.Errorf("only %d were read", read)
	}
}

func TestOptionsReadAtTheEdges(t *testing.T) {
	refused := impl.OptionsOut{Code: impl.ErrSyntax}
	for _, c := range []struct {
		what, text string
		want       impl.OptionsOut
	}{
		{"the empty text", "", impl.OptionsOut{}},
		{"one byte", "\x07", refused},
		{"one byte of 0", "\x00", refused},
		{"a count of 0", "\x07\x00", refused},
		{"a count of 1", "\x07\x01", refused},
		{"a count of 1, and more", "\x07\x01\x07\x02", refused},
		{"a count of 2", "\x07\x02", impl.OptionsOut{Options: []impl.Option{{Kind: 7}}}},
		{"a count of 3, and no byte", "\x07\x03", refused},
		{"a count of 3", "\x07\x03x", impl.OptionsOut{Options: []impl.Option{{Kind: 7, Data: "x"}}}},
		{"a count of 22", "\x01\x16" + longText(20), impl.OptionsOut{Options: []impl.Option{{Kind: 1, Data: longText(20)}}}},
		{"a count of 22, and a byte too few", "\x01\x16" + longText(19), refused},
		{"a count of 23", "\x01\x17" + longText(21), refused},
		{"a count of 255", "\x01\xff" + longText(253), refused},
		{"a kind of 0", "\x00\x02", refused},
		{"a kind of 0, with data", "\x00\x04ab", refused},
		{"a kind of 0 in the middle", "\x07\x02\x00\x02\x07\x02", refused},
		{"a kind of 255", "\xff\x02", impl.OptionsOut{Options: []impl.Option{{Kind: 255}}}},
		{"a byte behind them", "\x07\x02\x08", refused},
		{"a byte of 0 behind them", "\x07\x02\x00", refused},
		{"a wrong one behind a right one", "\x07\x02\x08\x01", refused},
		{"a count that reaches over the next one", "\x07\x05\x08\x02", refused},
		{"the most", strings.Repeat("\x07\x02", 20), impl.OptionsOut{Options: manyOptions(20, impl.Option{Kind: 7})}},
		{"one more than the most", strings.Repeat("\x07\x02", 21), refused},
		{"the most, and a byte", strings.Repeat("\x07\x02", 20) + "\x07", refused},
		{"the most, of the most bytes", strings.Repeat("\x09\x16"+longText(20), 20), impl.OptionsOut{Options: manyOptions(20, impl.Option{Kind: 9, Data: longText(20)})}},
		{"one more, of the most bytes", strings.Repeat("\x09\x16"+longText(20), 21), refused},
	} {
		wantOptions(t, c.what, c.text, c.want)
	}
}

func TestOptionsReadIsByTheRule(t *testing.T) {
	for a := range 256 {
		wantOptions(t, "one byte", oneByte(a), optionsReadByRule(oneByte(a)))
		for b := range 256 {
			two := oneByte(a) + oneByte(b)
			for _, text := range []string{two, two + "\x07", two + "\x07\x02", "\x07\x02" + two, two + longText(20), two + longText(21), two + longText(300)} {
				wantOptions(t, "two bytes", text, optionsReadByRule(text))
			}
		}
	}
	for kind := range 256 {
		for size := range 254 {
			text := optionBytesByRule(kind, longText(size))
			wantOptions(t, "one option", text, optionsReadByRule(text))
		}
	}
	for _, text := range sumTexts() {
		wantOptions(t, "text", text, optionsReadByRule(text))
	}
}

// One option that is spoilt, or cut, refuses all of them: none is handed back beside the code.
func TestOptionsReadHandsBackNothingBesideACode(t *testing.T) {
	whole := impl.OptionsBytes([]impl.Option{{Kind: 1, Data: "\x01\x00"}, {Kind: 5, Data: "abcd"}, {Kind: 7}})
	for cut := range len(whole) + 1 {
		text := whole[:cut]
		wantOptions(t, "cut", text, optionsReadByRule(text))
		if got := impl.OptionsRead(text); got.Code != impl.OK && got.Options != nil {
			t.Errorf("cut at %d: code %d, %s", cut, got.Code, shown(got.Options))
		}
	}
}

func TestOptionsReadUpToMostBytes(t *testing.T) {
	for _, text := range []string{strings.Repeat("\x07\x02", 4001), longText(impl.MaxBytes + 2), strings.Repeat("\x00", impl.MaxBytes+2)} {
		wantOptions(t, "the most", text[:impl.MaxBytes], impl.OptionsOut{Code: impl.ErrSyntax})
		wantOptions(t, "one more", text[:impl.MaxBytes+1], impl.OptionsOut{Code: impl.ErrSize})
		wantOptions(t, "two more", text, impl.OptionsOut{Code: impl.ErrSize})
	}
}

func TestPacketBytes(t *testing.T) {
	for _, c := range []struct {
		p    impl.Packet
		want string
	}{
		{impl.Packet{}, "\x00\x00\x00\x04"},
		{impl.Packet{Code: 1, Id: 5, Data: "ab"}, "\x01\x05\x00\x06ab"},
		{impl.Packet{Code: 255, Id: 255}, "\xff\xff\x00\x04"},
		{impl.Packet{Code: 0, Id: 255, Data: "\x00"}, "\x00\xff\x00\x05\x00"},
		{impl.Packet{Code: 9, Id: 0, Data: longText(250)}, "\x09\x00\x00\xfe" + longText(250)},
	} {
		if got := impl.PacketBytes(c.p); got != c.want {
			t.Errorf("%s: got %x, want %x", shownPacket(c.p), got, c.want)
		}
	}
	for _, p := range somePackets() {
		if got, want := impl.PacketBytes(p), packetBytesByRule(p); got != want {
			t.Errorf("%s: got %x, want %x", shownPacket(p), got, want)
		}
	}
	for _, p := range wrongPackets() {
		if got := impl.PacketBytes(p); got != "" {
			t.Errorf("%s: %x", shownPacket(p), got)
		}
	}
	for n := int64(-300); n <= 600; n++ {
		for _, p := range []impl.Packet{{Code: n, Id: 1, Data: "x"}, {Code: 1, Id: n, Data: "x"}} {
			if got := impl.PacketBytes(p); (got != "") != (n >= 0 && n <= 255) {
				t.Errorf("%s: %x", shownPacket(p), got)
			}
		}
	}
}

// Promise 4, its second half: what is behind a packet counts for nothing.
func TestRightPacketComesBackFromItsBytes(t *testing.T) {
	for _, p := range somePackets() {
		text := impl.PacketBytes(p)
		for _, behind := range []string{"", "\x00", "pad", text, longText(300), longText(impl.MaxBytes - len(text))} {
			wantPacket(t, "comes back", text+behind, impl.PacketOut{Packet: p})
		}
	}
	for code := range int64(256) {
		for id := range int64(256) {
			p := impl.Packet{Code: code, Id: id, Data: "\x04x"}
			wantPacket(t, "each code and id", impl.PacketBytes(p), impl.PacketOut{Packet: p})
		}
	}
}

func TestPacketReadAtTheEdges(t *testing.T) {
	short := impl.PacketOut{Code: impl.ErrShort}
	refused := impl.PacketOut{Code: impl.ErrSyntax}
	of := func(size int) impl.PacketOut {
		return impl.PacketOut{Packet: impl.Packet{Code: 1, Id: 2, Data: longText(size)}}
	}
	for _, c := range []struct {
		what, text string
		want       impl.PacketOut
	}{
		{"the empty text", "", short},
		{"one byte", "\x01", short},
		{"two bytes", "\x01\x02", short},
		{"three bytes", "\x01\x02\x00", short},
		{"three bytes of too great a number", "\x01\x02\xff", short},
		{"three bytes of too small a number", "\x00\x00\x00", short},
		{"a number of 0", "\x01\x02\x00\x00", refused},
		{"a number of 3", "\x01\x02\x00\x03", refused},
		{"a number of 3, and more", "\x01\x02\x00\x03abc", refused},
		{"a number of 4", "\x01\x02\x00\x04", of(0)},
		{"a number of 4, and more", "\x01\x02\x00\x04abc", of(0)},
		{"a number of 5, of one more than there are", "\x01\x02\x00\x05", refused},
		{"a number of 5", "\x01\x02\x00\x05\x00", of(1)},
		{"a number of 254", "\x01\x02\x00\xfe" + longText(250), of(250)},
		{"a number of 254, and more", "\x01\x02\x00\xfe" + longText(300), of(250)},
		{"a number of 254, of one more than there are", "\x01\x02\x00\xfe" + longText(249), refused},
		{"a number of 255", "\x01\x02\x00\xff" + longText(251), refused},
		{"a number of 256", "\x01\x02\x01\x00" + longText(252), refused},
		{"a number of 260, whose lower byte would do", "\x01\x02\x01\x04" + longText(256), refused},
		{"the lower byte first", "\x01\x02\x04\x00", refused},
		{"the lower byte first, of all bytes", "\x01\x02\x04\x00" + longText(1020), refused},
		{"a number of 65535", "\x01\x02\xff\xff" + longText(7000), refused},
		{"codes of 0", "\x00\x00\x00\x04", impl.PacketOut{}},
		{"codes of 255", "\xff\xff\x00\x04", impl.PacketOut{Packet: impl.Packet{Code: 255, Id: 255}}},
	} {
		wantPacket(t, c.what, c.text, c.want)
	}
}

func TestPacketReadIsByTheRule(t *testing.T) {
	for upper := range 256 {
		for lower := range 256 {
			head := "\x05\xfa" + oneByte(upper) + oneByte(lower)
			for _, size := range []int{0, 1, 249, 250, 251, 252, 600} {
				wantPacket(t, "each number", head+longText(size), packetReadByRule(head+longText(size)))
			}
		}
	}
	for size := range 600 {
		for number := max(0, size-2); number <= size+2; number++ {
			text := (oneByte(7) + oneByte(8) + oneByte(number/256) + oneByte(number%256) + longText(size))[:size]
			wantPacket(t, "a number near the bytes", text, packetReadByRule(text))
		}
	}
	for _, text := range sumTexts() {
		wantPacket(t, "text", text, packetReadByRule(text))
	}
}

func TestPacketReadUpToMostBytes(t *testing.T) {
	for _, head := range []string{"\x01\x02\x00\x04", "\x01\x02\x00\xfe", "\x01\x02\x00\x03", "\x01\x02\x1f\x40", "\x01\x02\x1f\x41"} {
		most := head + longText(impl.MaxBytes-4)
		wantPacket(t, "the most", most, packetReadByRule(most))
		wantPacket(t, "one more", most+"x", impl.PacketOut{Code: impl.ErrSize})
		wantPacket(t, "two more", most+"xy", impl.PacketOut{Code: impl.ErrSize})
	}
}

func TestOptionsThatAreHandedInAreNotChanged(t *testing.T) {
	spare := impl.Option{Kind: 99, Data: "spare"}
	for _, l := range append(rightOptions(), wrongOptions()...) {
		room := append(slices.Clone(l), spare, spare)
		before := slices.Clone(room)
		given := room[:len(l)]
		impl.OptionsRight(given)
		impl.OptionsBytes(given)
		if !slices.Equal(room, before) {
			t.Errorf("changed: %s", shown(l))
		}
	}
}

func TestOptionsShareNoMemory(t *testing.T) {
	l := []impl.Option{{Kind: 3, Data: strings.Repeat("long ", 4)}, {Kind: 4, Data: strings.Repeat("more ", 4)}}
	text := impl.OptionsBytes(l)
	if sharesText(text, l[0].Data) || sharesText(text, l[1].Data) {
		t.Error("the bytes share memory with the options")
	}
	if one := impl.OptionsBytes(l[:1]); sharesText(one, l[0].Data) {
		t.Error("the bytes share memory with one option")
	}
	got := impl.OptionsRead(text)
	for _, o := range got.Options {
		if sharesText(o.Data, text) {
			t.Errorf("%q shares memory with the bytes", o.Data)
		}
	}
	got.Options[0] = impl.Option{}
	wantOptions(t, "kept from call to call", text, impl.OptionsOut{Options: l})
}

func TestPacketsOfCodesShareNoMemory(t *testing.T) {
	p := impl.Packet{Code: 1, Id: 2, Data: strings.Repeat("plain text ", 3)}
	text := impl.PacketBytes(p)
	if sharesText(text, p.Data) {
		t.Error("the bytes share memory with the packet")
	}
	for _, sent := range []string{text, text + "pad"} {
		if got := impl.PacketRead(sent); sharesText(got.Packet.Data, sent) {
			t.Errorf("the packet shares memory with its %d bytes", len(sent))
		}
	}
}
