package tests

import (
	"math"
	"strings"
	"testing"

	"loop.example/g00351/impl"
)

func protoByRule(n int64) bool {
	if n < 0 || n > 65535 {
		return false
	}
	lower, upper := n%256, n/256
	return lower%2 == 1 && upper%2 == 0
}

// packByRule is the document's words, piece by piece.
func packByRule(proto int64, text string, acfc, pfc bool) string {
	if !protoByRule(proto) || len(text) > 8000 {
		return ""
	}
	out := ""
	if !acfc || proto == 0xC021 {
		out += "\xff\x03"
	}
	if !pfc || proto == 0xC021 || proto/256 != 0 {
		out += string([]byte{byte(proto / 256)})
	}
	out += string([]byte{byte(proto % 256)}) + text
	if len(out) > 8000 {
		return ""
	}
	return out
}

func unpackByRule(text string) impl.PppOut {
	if len(text) > 8000 {
		return impl.PppOut{Code: impl.ErrSize}
	}
	text = strings.TrimPrefix(text, "\xff\x03")
	if text == "" {
		return impl.PppOut{Code: impl.ErrShort}
	}
	if text[0]%2 == 1 {
		return impl.PppOut{Proto: int64(text[0]), Text: text[1:]}
	}
	if len(text) == 1 {
		return impl.PppOut{Code: impl.ErrShort}
	}
	proto := int64(text[0])*256 + int64(text[1])
	if !protoByRule(proto) {
		return impl.PppOut{Code: impl.ErrSyntax}
	}
	return impl.PppOut{Proto: proto, Text: text[2:]}
}

// A shape is what may be left out of a packet.
type shape struct{ acfc, pfc bool }

func shapes() []shape {
	return []shape{{false, false}, {false, true}, {true, false}, {true, true}}
}

// someProtos are right; the upper bytes of some are 0.
func someProtos() []int64 {
	return []int64{1, 3, impl.ProtoData, impl.ProtoMulti, 253, 255, 0x0201, 0x0203, 0x02FF, 0x4001, 0x8021, impl.ProtoLcp, 0xC023, 0xC0FF, 0xFE03, 0xFEFF}
}

func wrongProtos() []int64 {
	return []int64{0, 2, 254, 256, 257, 0x01FF, 0x0200, 0x0301, 0xC020, 0xC121, 0xFF03, 65534, 65535, 65536, 65537, 1<<16 + 33, 1<<32 + 33,
		-1, -2, -33, -255, -65535, -65503, math.MaxInt64, math.MinInt64, math.MinInt64 + 33}
}

func packetTexts() []string {
	return append(sumTexts(), "\x03", "\x03\x03", "\xff", "\xff\x03", "\xff\x03\x00\x21", "\x00", "\x21", "\x00\x21x", "hello")
}

// looksFronted asks for what promise 3 leaves out: a front that is none.
func looksFronted(packet string, proto int64, s shape) bool {
	return strings.HasPrefix(packet, "\xff\x03") && s.acfc && proto != impl.ProtoLcp
}

func wantUnpack(t *testing.T, what, text string, want impl.PppOut) {
	t.Helper()
	if got := impl.PppUnpack(text); got != want {
		t.Errorf("%s: of %d bytes %.40q: got code %d, protocol %d, %d bytes %.40q; want code %d, protocol %d, %d bytes",
			what, len(text), text, got.Code, got.Proto, len(got.Text), got.Text, want.Code, want.Proto, len(want.Text))
	}
}

func TestProtoRight(t *testing.T) {
	for n := int64(-70000); n <= 140000; n++ {
		if got := impl.ProtoRight(n); got != protoByRule(n) {
			t.Fatalf("%d: %v", n, got)
		}
	}
	for _, n := range wrongProtos() {
		if impl.ProtoRight(n) {
			t.Errorf("%d is no protocol", n)
		}
	}
	for _, n := range someProtos() {
		if !impl.ProtoRight(n) {
			t.Errorf("%d is a protocol", n)
		}
	}
}

func TestPackThatIsKnown(t *testing.T) {
	for _, c := range []struct {
		proto     int64
		acfc, pfc bool
		want      string
	}{
		{impl.ProtoData, false, false, "\xff\x03\x00\x21x"},
		{impl.ProtoData, false, true, "\xff\x03\x21x"},
		{impl.ProtoData, true, false, "\x00\x21x"},
		{impl.ProtoData, true, true, "\x21x"},
		{impl.ProtoMulti, true, true, "\x3dx"},
		{0x8021, false, false, "\xff\x03\x80\x21x"},
		{0x8021, false, true, "\xff\x03\x80\x21x"},
		{0x8021, true, false, "\x80\x21x"},
		{0x8021, true, true, "\x80\x21x"},
		{0x0201, true, true, "\x02\x01x"},
		{1, true, true, "\x01x"},
		{255, true, true, "\xffx"},
		{255, true, false, "\x00\xffx"},
		{0xFEFF, false, true, "\xff\x03\xfe\xffx"},
	} {
		if got := impl.PppPack(c.proto, "x", c.acfc, c.pfc); got != c.want {
			t.Errorf("%x %v %v: got %x, want %x", c.proto, c.acfc, c.pfc, got, c.want)
		}
	}
}

// The protocol by which it is agreed on what is left out has all of its bytes, whatever is asked for.
func TestPackOfLcpHasAllItsBytes(t *testing.T) {
	for _, s := range shapes() {
		if got := impl.PppPack(impl.ProtoLcp, "x", s.acfc, s.pfc); got != "\xff\x03\xc0\x21x" {
			t.Errorf("%v: %x", s, got)
		}
		if got := impl.PppPack(impl.ProtoLcp, "", s.acfc, s.pfc); got != "\xff\x03\xc0\x21" {
			t.Errorf("%v, the empty text: %x", s, got)
		}
	}
	for _, near := range []int64{0xC023, 0xC221, 0x4021, 0x8021} {
		if got, want := impl.PppPack(near, "x", true, true), string([]byte{byte(near >> 8), byte(near)})+"x"; got != want {
			t.Errorf("%x: got %x, want %x", near, got, want)
		}
	}
}

func TestPackIsByTheRule(t *testing.T) {
	for _, s := range shapes() {
		for proto := int64(-300); proto <= 66000; proto++ {
			if got, want := impl.PppPack(proto, "hi", s.acfc, s.pfc), packByRule(proto, "hi", s.acfc, s.pfc); got != want {
				t.Fatalf("%v of %d: got %x, want %x", s, proto, got, want)
			}
		}
		for _, proto := range append(someProtos(), wrongProtos()...) {
			for _, text := range packetTexts() {
				if got, want := impl.PppPack(proto, text, s.acfc, s.pfc), packByRule(proto, text, s.acfc, s.pfc); got != want {
					t.Errorf("%v of %d %q: got %x, want %x", s, proto, text, got, want)
				}
			}
		}
	}
}

func TestPackOfWhatIsNoProtocol(t *testing.T) {
	for _, proto := range wrongProtos() {
		for _, s := range shapes() {
			for _, text := range []string{"", "x", longText(impl.MaxBytes), longText(impl.MaxBytes + 1)} {
				if got := impl.PppPack(proto, text, s.acfc, s.pfc); got != "" {
					t.Errorf("%v of %d and %d bytes: %d bytes", s, proto, len(text), len(got))
				}
			}
		}
	}
}

// The whole packet counts, not the text alone.
func TestPackUpToMostBytes(t *testing.T) {
	for _, proto := range someProtos() {
		for _, s := range shapes() {
			head := len(packByRule(proto, "", s.acfc, s.pfc))
			for size := impl.MaxBytes - 5; size <= impl.MaxBytes+5; size++ {
				text := longText(size)
				got := impl.PppPack(proto, text, s.acfc, s.pfc)
				if want := packByRule(proto, text, s.acfc, s.pfc); got != want || (got != "") != (head+size <= impl.MaxBytes) {
					t.Errorf("%v of %d and %d bytes: got %d bytes, want %d", s, proto, size, len(got), len(want))
				}
			}
		}
	}
}

// Promise 3.
func TestTextOfAProtocolComesBackFromItsPacket(t *testing.T) {
	for _, s := range shapes() {
		for proto := int64(0); proto <= 65535; proto++ {
			if impl.ProtoRight(proto) {
				wantUnpack(t, "each protocol", impl.PppPack(proto, "hello", s.acfc, s.pfc), impl.PppOut{Proto: proto, Text: "hello"})
				wantUnpack(t, "each protocol alone", impl.PppPack(proto, "", s.acfc, s.pfc), impl.PppOut{Proto: proto})
			}
		}
		for _, proto := range someProtos() {
			for _, text := range append(packetTexts(), longText(impl.MaxBytes-4)) {
				packet := impl.PppPack(proto, text, s.acfc, s.pfc)
				if packet == "" || looksFronted(packet, proto, s) {
					if packet == "" || proto != 255 || !s.pfc || text[0] != 3 {
						t.Errorf("%v of %d %.40q must come back: %.40q", s, proto, text, packet)
					}
					continue
				}
				wantUnpack(t, "comes back", packet, impl.PppOut{Proto: proto, Text: text})
			}
		}
	}
}

// What promise 3 leaves out: the front counts for nothing, even where it was a protocol and its text.
func TestAPacketThatOnlyLooksFronted(t *testing.T) {
	wantUnpack(t, "no protocol behind", impl.PppPack(255, "\x03", true, true), impl.PppOut{Code: impl.ErrShort})
	wantUnpack(t, "another protocol behind", impl.PppPack(255, "\x03\x21x", true, true), impl.PppOut{Proto: 33, Text: "x"})
	wantUnpack(t, "fronted itself", impl.PppPack(255, "\x03\x21x", false, true), impl.PppOut{Proto: 255, Text: "\x03\x21x"})
	wantUnpack(t, "of two bytes", impl.PppPack(255, "\x03\x21x", true, false), impl.PppOut{Proto: 255, Text: "\x03\x21x"})
	wantUnpack(t, "another text", impl.PppPack(255, "\x02\x21x", true, true), impl.PppOut{Proto: 255, Text: "\x02\x21x"})
}

func TestUnpackAtTheEdges(t *testing.T) {
	for _, c := range []struct {
		text string
		want impl.PppOut
	}{
		{"", impl.PppOut{Code: impl.ErrShort}},
		{"\xff\x03", impl.PppOut{Code: impl.ErrShort}},
		{"\xff", impl.PppOut{Proto: 255}},
		{"\x03", impl.PppOut{Proto: 3}},
		{"\x01", impl.PppOut{Proto: 1}},
		{"\x00", impl.PppOut{Code: impl.ErrShort}},
		{"\x20", impl.PppOut{Code: impl.ErrShort}},
		{"\xfe", impl.PppOut{Code: impl.ErrShort}},
		{"\x00\x00", impl.PppOut{Code: impl.ErrSyntax}},
		{"\x00\x20", impl.PppOut{Code: impl.ErrSyntax}},
		{"\xc0\x20text", impl.PppOut{Code: impl.ErrSyntax}},
		{"\x00\x01", impl.PppOut{Proto: 1}},
		{"\x00\xff", impl.PppOut{Proto: 255}},
		{"\xfe\xff", impl.PppOut{Proto: 0xFEFF}},
		{"\xc0\x21text", impl.PppOut{Proto: impl.ProtoLcp, Text: "text"}},
		{"\xff\x03\x00", impl.PppOut{Code: impl.ErrShort}},
		{"\xff\x03\x00\x20", impl.PppOut{Code: impl.ErrSyntax}},
		{"\xff\x03\x21", impl.PppOut{Proto: 33}},
		{"\xff\x03\x00\x21", impl.PppOut{Proto: 33}},
		{"\xff\x03\xff", impl.PppOut{Proto: 255}},
		{"\xff\x03\xff\x03", impl.PppOut{Proto: 255, Text: "\x03"}},
		{"\xff\x03\xff\x03\x00\x21x", impl.PppOut{Proto: 255, Text: "\x03\x00\x21x"}},
		{"\xff\x03\x03\xff", impl.PppOut{Proto: 3, Text: "\xff"}},
		{"\xff\x02\x21", impl.PppOut{Proto: 255, Text: "\x02\x21"}},
		{"\xfe\x03\x21", impl.PppOut{Proto: 0xFE03, Text: "\x21"}},
		{"\x03\xff\x21", impl.PppOut{Proto: 3, Text: "\xff\x21"}},
		{"\x21\xff\x03", impl.PppOut{Proto: 33, Text: "\xff\x03"}},
		{"\x00\xff\x03\x21", impl.PppOut{Proto: 255, Text: "\x03\x21"}},
	} {
		wantUnpack(t, "edge", c.text, c.want)
	}
}

func TestUnpackIsByTheRule(t *testing.T) {
	for a := range 256 {
		one := string([]byte{byte(a)})
		wantUnpack(t, "one byte", one, unpackByRule(one))
		wantUnpack(t, "one behind the front", "\xff\x03"+one, unpackByRule("\xff\x03"+one))
		for b := range 256 {
			two := one + string([]byte{byte(b)})
			for _, text := range []string{two, two + "x", two + "\x21", "\xff\x03" + two, "\xff\x03" + two + "\x00y"} {
				wantUnpack(t, "two bytes", text, unpackByRule(text))
			}
		}
	}
	for _, text := range packetTexts() {
		wantUnpack(t, "text", text, unpackByRule(text))
	}
}

func TestUnpackUpToMostBytes(t *testing.T) {
	for _, head := range []string{"\x21", "\x00\x21", "\xff\x03\x21", "\xff\x03\xc0\x21"} {
		text := longText(impl.MaxBytes - len(head))
		wantUnpack(t, "the most", head+text, unpackByRule(head+text))
	}
	for _, head := range []string{"\x21", "\xff\x03\xc0\x21", "\x00\x20", "\x00"} {
		for more := 1; more < 4; more++ {
			wantUnpack(t, "too many", head+longText(impl.MaxBytes+more-len(head)), impl.PppOut{Code: impl.ErrSize})
		}
	}
}

func TestPacketsShareNoMemory(t *testing.T) {
	text := strings.Repeat("plain text ", 3)
	for _, s := range shapes() {
		packet := impl.PppPack(impl.ProtoData, text, s.acfc, s.pfc)
		if sharesText(packet, text) {
			t.Errorf("%v: what is packed shares memory", s)
		}
		if got := impl.PppUnpack(packet); sharesText(got.Text, packet) {
			t.Errorf("%v: what is unpacked shares memory", s)
		}
	}
}
