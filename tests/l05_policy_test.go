package tests

import (
	"math"
	"slices"
	"strings"
	"testing"

	"loop.example/g00351/impl"
)

const top32 = int64(1)<<32 - 1

// bytesByRule: so many bytes of a number, the highest first.
func bytesByRule(n int64, size int) string {
	out := ""
	for range size {
		out = oneByte(int(n%256)) + out
		n /= 256
	}
	return out
}

func numberByRule(data string) int64 {
	n := int64(0)
	for at := range len(data) {
		n = n*256 + int64(data[at])
	}
	return n
}

func configRightByRule(c impl.Config) bool {
	return 64 <= c.Mru && c.Mru <= 300 && 0 <= c.Accm && c.Accm <= top32 && 0 <= c.Magic && c.Magic <= top32
}

func askByRule(c impl.Config) []impl.Option {
	var l []impl.Option
	if c.Mru != 300 {
		l = append(l, impl.Option{Kind: 1, Data: bytesByRule(c.Mru, 2)})
	}
	if c.Accm != top32 {
		l = append(l, impl.Option{Kind: 2, Data: bytesByRule(c.Accm, 4)})
	}
	if c.Magic != 0 {
		l = append(l, impl.Option{Kind: 5, Data: bytesByRule(c.Magic, 4)})
	}
	if c.Pfc {
		l = append(l, impl.Option{Kind: 7})
	}
	if c.Acfc {
		l = append(l, impl.Option{Kind: 8})
	}
	if c.Wide {
		l = append(l, impl.Option{Kind: 9, Data: "\x04"})
	}
	return l
}

// oneByRule is the code and the option that answer one of a Kind that was not there before.
func oneByRule(c impl.Config, o impl.Option) (int64, impl.Option) {
	n := numberByRule(o.Data)
	good, nak := false, ""
	type form struct{ kind, size int64 }
	switch (form{o.Kind, int64(len(o.Data))}) {
	case form{1, 2}:
		good, nak = n >= 64 && n <= 300, bytesByRule(c.Mru, 2)
	case form{2, 4}:
		good, nak = c.Accm&^n == 0, bytesByRule(c.Accm|n, 4)
	case form{5, 4}:
		other := (c.Magic + 77) % (top32 + 1)
		if other == 0 {
			other = 1
		}
		good, nak = n != 0 && n != c.Magic, bytesByRule(other, 4)
	case form{7, 0}:
		good = c.Pfc
	case form{8, 0}:
		good = c.Acfc
	case form{9, 1}:
		good, nak = n == 2 || n == 4 && c.Wide, "\x02"
	}
	switch {
	case good:
		return impl.CfAck, o
	case nak != "":
		return impl.CfNak, impl.Option{Kind: o.Kind, Data: nak}
	}
	return impl.CfReject, o
}

func replyByRule(c impl.Config, l []impl.Option) impl.Answer {
	if !configRightByRule(c) || !optionsRightByRule(l) {
		return impl.Answer{}
	}
	answers := map[int64][]impl.Option{}
	for at, o := range l {
		code, told := oneByRule(c, o)
		if slices.ContainsFunc(l[:at], func(was impl.Option) bool { return was.Kind == o.Kind }) {
			code, told = impl.CfReject, o
		}
		answers[code] = append(answers[code], told)
	}
	for _, code := range []int64{impl.CfReject, impl.CfNak} {
		if len(answers[code]) > 0 {
			return impl.Answer{Code: code, Options: answers[code]}
		}
	}
	return impl.Answer{Code: impl.CfAck, Options: l}
}

func lessByRule(c impl.Config, l []impl.Option) impl.Config {
	if len(l) > 400 {
		return impl.Config{}
	}
	if !configRightByRule(c) || !optionsRightByRule(l) {
		return c
	}
	for _, o := range l {
		n := numberByRule(o.Data)
		switch {
		case o.Kind == 1 && len(o.Data) == 2 && n >= 64 && n <= 300:
			c.Mru = n
		case o.Kind == 2 && len(o.Data) == 4:
			c.Accm = n
		case o.Kind == 5 && len(o.Data) == 4:
			c.Magic = n
		case o.Kind == 9 && o.Data == "\x02":
			c.Wide = false
		}
	}
	return c
}

func withoutByRule(c impl.Config, l []impl.Option) impl.Config {
	if len(l) > 400 {
		return impl.Config{}
	}
	if !configRightByRule(c) || !optionsRightByRule(l) {
		return c
	}
	for _, o := range l {
		switch o.Kind {
		case 1:
			c.Mru = 300
		case 2:
			c.Accm = top32
		case 5:
			c.Magic = 0
		case 7:
			c.Pfc = false
		case 8:
			c.Acfc = false
		case 9:
			c.Wide = false
		}
	}
	return c
}

func lineByRule(l []impl.Option) impl.Line {
	if !optionsRightByRule(l) {
		return impl.Line{}
	}
	x := impl.Line{Mru: 300, Accm: top32}
	for _, o := range l {
		switch {
		case o.Kind == 1 && len(o.Data) == 2 && numberByRule(o.Data) >= 64 && numberByRule(o.Data) <= 300:
			x.Mru = numberByRule(o.Data)
		case o.Kind == 2 && len(o.Data) == 4:
			x.Accm = numberByRule(o.Data)
		case o.Kind == 7 && o.Data == "":
			x.Pfc = true
		case o.Kind == 8 && o.Data == "":
			x.Acfc = true
		case o.Kind == 9 && o.Data == "\x04":
			x.Wide = true
		}
	}
	return x
}

func configMrus() []int64 {
	return []int64{64, 65, 200, 255, 256, 299, 300}
}

func configAccms() []int64 {
	return []int64{0, 1, 0x000A0000, 0x01020304, 0x80000000, top32 - 1, top32}
}

// configMagics has those at which a nak's number is 0 modulo 2^32, and both beside it.
func configMagics() []int64 {
	return []int64{0, 1, 9, 77, 0x01020304, top32 - 77, top32 - 76, top32 - 75, top32 - 1, top32}
}

func switches() []impl.Config {
	var out []impl.Config
	for n := range 8 {
		out = append(out, impl.Config{Pfc: n&1 != 0, Acfc: n&2 != 0, Wide: n&4 != 0})
	}
	return out
}

func rightConfigs() []impl.Config {
	var out []impl.Config
	for _, mru := range configMrus() {
		for _, accm := range configAccms() {
			for _, magic := range configMagics() {
				for _, c := range switches() {
					c.Mru, c.Accm, c.Magic = mru, accm, magic
					out = append(out, c)
				}
			}
		}
	}
	return out
}

// fewConfigs are enough to hold long lists against.
func fewConfigs() []impl.Config {
	return []impl.Config{
		{Mru: 200, Accm: 1, Magic: 9, Pfc: true},
		{Mru: 64, Accm: 0, Magic: 0, Acfc: true},
		{Mru: 300, Accm: top32, Magic: top32, Wide: true},
		{Mru: 299, Accm: 0x80000001, Magic: top32 - 76, Pfc: true, Acfc: true, Wide: true},
		{Mru: 300, Accm: top32},
	}
}

// wrongConfigs are not right by just one of their numbers, or by all.
func wrongConfigs() []impl.Config {
	out := []impl.Config{{}, {Pfc: true, Acfc: true, Wide: true}, {Mru: 301, Accm: -1, Magic: -1}}
	for _, c := range switches() {
		for _, n := range []int64{math.MinInt64, -1, 0, 63, 301, 65535, 1<<32 + 64, math.MaxInt64} {
			x := c
			x.Mru, x.Accm, x.Magic = n, 1, 9
			out = append(out, x)
		}
		for _, n := range []int64{math.MinInt64, -top32, -1, top32 + 1, top32 + 2, 1 << 40, math.MaxInt64} {
			x, y := c, c
			x.Mru, x.Accm, x.Magic = 200, n, 9
			y.Mru, y.Accm, y.Magic = 200, 1, n
			out = append(out, x, y)
		}
	}
	return out
}

// policyOptions has, of each Kind that counts, Data of each number that matters, and of one byte fewer and one more.
func policyOptions() []impl.Option {
	var out []impl.Option
	add := func(kind int64, data ...string) {
		for _, d := range data {
			out = append(out, impl.Option{Kind: kind, Data: d})
		}
	}
	for _, n := range []int64{0, 1, 63, 64, 65, 200, 255, 256, 299, 300, 301, 320, 0x4000, 65535} {
		add(impl.OptMru, bytesByRule(n, 2))
	}
	add(impl.OptMru, "", "\x64", "\x00\x00\x64", "\x00\x64\x00", "\x00\x00\x00\x64")
	for _, n := range append(configAccms(), 2, 3, 0x7FFFFFFF) {
		add(impl.OptAccm, bytesByRule(n, 4))
	}
	add(impl.OptAccm, "", "\xff\xff\xff", "\xff\xff\xff\xff\xff", "\x00\x00\x00\x00\x01")
	for _, n := range append(configMagics(), 78, 86, 154) {
		add(impl.OptMagic, bytesByRule(n, 4))
	}
	add(impl.OptMagic, "", "abc", "abcde", longText(20))
	add(impl.OptPfc, "", "\x00", "\x01", "ab")
	add(impl.OptAcfc, "", "\x00", "\x01", "ab")
	for n := range 256 {
		add(impl.OptFcs, oneByte(n))
	}
	add(impl.OptFcs, "", "\x00\x04", "\x04\x00", "\x02\x02", "\x04\x04")
	for _, kind := range []int64{3, 4, 6, 10, 11, 13, 100, 254, 255} {
		add(kind, "", "\x04", "\x00\x64", "abcd", longText(20))
	}
	return out
}

func (c *chance) options(all []impl.Option) []impl.Option {
	l := make([]impl.Option, c.below(8))
	for at := range l {
		kind := int64(1 + c.below(10))
		l[at] = all[c.below(len(all))]
		if c.below(2) == 0 {
			l[at] = impl.Option{Kind: kind, Data: c.lineBytes(c.below(6))}
		}
	}
	return l
}

func (c *chance) config() impl.Config {
	pick := func(of []int64) int64 { return of[c.below(len(of))] }
	x := switches()[c.below(8)]
	x.Mru, x.Accm, x.Magic = pick(configMrus()), pick(configAccms()), pick(configMagics())
	return x
}

func sameAnswer(a, b impl.Answer) bool {
	return a.Code == b.Code && slices.Equal(a.Options, b.Options)
}

func wantReply(t *testing.T, what string, c impl.Config, l []impl.Option, want impl.Answer) {
	t.Helper()
	if got := impl.Reply(c, l); !sameAnswer(got, want) {
		t.Errorf("%s: %+v to %s:\n got code %d, %s\nwant code %d, %s", what, c, shown(l), got.Code, shown(got.Options), want.Code, shown(want.Options))
	}
}

func wantLess(t *testing.T, what string, c impl.Config, l []impl.Option, want impl.Config) {
	t.Helper()
	if got := impl.Less(c, l); got != want {
		t.Errorf("%s: %+v by %s:\n got %+v\nwant %+v", what, c, shown(l), got, want)
	}
}

func wantWithout(t *testing.T, what string, c impl.Config, l []impl.Option, want impl.Config) {
	t.Helper()
	if got := impl.Without(c, l); got != want {
		t.Errorf("%s: %+v by %s:\n got %+v\nwant %+v", what, c, shown(l), got, want)
	}
}

func wantLine(t *testing.T, what string, l []impl.Option, want impl.Line) {
	t.Helper()
	if got := impl.LineOf(l); got != want {
		t.Errorf("%s: of %s:\n got %+v\nwant %+v", what, shown(l), got, want)
	}
}

func TestConfigRight(t *testing.T) {
	for _, c := range rightConfigs() {
		if !impl.ConfigRight(c) {
			t.Errorf("right: %+v", c)
		}
	}
	for _, c := range wrongConfigs() {
		if impl.ConfigRight(c) {
			t.Errorf("not right: %+v", c)
		}
	}
	for n := int64(-400); n <= 700; n++ {
		if got := impl.ConfigRight(impl.Config{Mru: n}); got != (n >= 64 && n <= 300) {
			t.Errorf("Mru %d: %v", n, got)
		}
	}
	for n := int64(-5); n <= 5; n++ {
		for _, at := range []int64{0, top32} {
			want := at+n >= 0 && at+n <= top32
			if got := impl.ConfigRight(impl.Config{Mru: 64, Accm: at + n}); got != want {
				t.Errorf("Accm %d: %v", at+n, got)
			}
			if got := impl.ConfigRight(impl.Config{Mru: 64, Magic: at + n}); got != want {
				t.Errorf("Magic %d: %v", at+n, got)
			}
		}
	}
}

func TestAsk(t *testing.T) {
	for _, x := range []struct {
		what string
		c    impl.Config
		want []impl.Option
	}{
		{"nothing", impl.Config{Mru: 300, Accm: top32}, nil},
		{"all", impl.Config{Mru: 299, Accm: 0, Magic: 0x01020304, Pfc: true, Acfc: true, Wide: true}, []impl.Option{
			{Kind: 1, Data: "\x01\x2b"}, {Kind: 2, Data: "\x00\x00\x00\x00"}, {Kind: 5, Data: "\x01\x02\x03\x04"}, {Kind: 7}, {Kind: 8}, {Kind: 9, Data: "\x04"}}},
		{"the least Mru", impl.Config{Mru: 64, Accm: top32}, []impl.Option{{Kind: 1, Data: "\x00\x40"}}},
		{"an Accm one below the most", impl.Config{Mru: 300, Accm: top32 - 1}, []impl.Option{{Kind: 2, Data: "\xff\xff\xff\xfe"}}},
		{"a Magic of 1", impl.Config{Mru: 300, Accm: top32, Magic: 1}, []impl.Option{{Kind: 5, Data: "\x00\x00\x00\x01"}}},
		{"the most Magic", impl.Config{Mru: 300, Accm: top32, Magic: top32}, []impl.Option{{Kind: 5, Data: "\xff\xff\xff\xff"}}},
		{"Pfc", impl.Config{Mru: 300, Accm: top32, Pfc: true}, []impl.Option{{Kind: 7}}},
		{"Acfc", impl.Config{Mru: 300, Accm: top32, Acfc: true}, []impl.Option{{Kind: 8}}},
		{"Wide", impl.Config{Mru: 300, Accm: top32, Wide: true}, []impl.Option{{Kind: 9, Data: "\x04"}}},
	} {
		if got := impl.Ask(x.c); !slices.Equal(got, x.want) {
			t.Errorf("%s: got %s, want %s", x.what, shown(got), shown(x.want))
		}
	}
	for _, c := range rightConfigs() {
		got, want := impl.Ask(c), askByRule(c)
		if !slices.Equal(got, want) || !impl.OptionsRight(got) {
			t.Errorf("%+v: got %s, want %s", c, shown(got), shown(want))
		}
	}
	for _, c := range wrongConfigs() {
		if got := impl.Ask(c); len(got) != 0 {
			t.Errorf("not right: %+v: %s", c, shown(got))
		}
	}
}

// What Ask lays, LineOf takes as it was meant.
func TestLineOfWhatIsAsked(t *testing.T) {
	for _, c := range rightConfigs() {
		wantLine(t, "asked", impl.Ask(c), impl.Line{Mru: c.Mru, Accm: c.Accm, Pfc: c.Pfc, Acfc: c.Acfc, Wide: c.Wide})
	}
}

func ack(l ...impl.Option) impl.Answer    { return impl.Answer{Code: impl.CfAck, Options: l} }
func nak(l ...impl.Option) impl.Answer    { return impl.Answer{Code: impl.CfNak, Options: l} }
func reject(l ...impl.Option) impl.Answer { return impl.Answer{Code: impl.CfReject, Options: l} }

func TestReplyToOneOption(t *testing.T) {
	c := impl.Config{Mru: 200, Accm: 0x00010002, Magic: 9}
	all := impl.Config{Mru: 300, Accm: 0, Magic: top32 - 76, Pfc: true, Acfc: true, Wide: true}
	for _, x := range []struct {
		what string
		c    impl.Config
		o    impl.Option
		code int64
		told string
	}{
		{"Mru 0", c, impl.Option{Kind: 1, Data: "\x00\x00"}, impl.CfNak, "\x00\xc8"},
		{"Mru 63", c, impl.Option{Kind: 1, Data: "\x00\x3f"}, impl.CfNak, "\x00\xc8"},
		{"Mru 64", c, impl.Option{Kind: 1, Data: "\x00\x40"}, impl.CfAck, "\x00\x40"},
		{"Mru 300", c, impl.Option{Kind: 1, Data: "\x01\x2c"}, impl.CfAck, "\x01\x2c"},
		{"Mru 301", c, impl.Option{Kind: 1, Data: "\x01\x2d"}, impl.CfNak, "\x00\xc8"},
		{"Mru 301, to one of 300", all, impl.Option{Kind: 1, Data: "\x01\x2d"}, impl.CfNak, "\x01\x2c"},
		{"Mru the lower byte first", c, impl.Option{Kind: 1, Data: "\x40\x00"}, impl.CfNak, "\x00\xc8"},
		{"Mru of one byte", c, impl.Option{Kind: 1, Data: "\x64"}, impl.CfReject, "\x64"},
		{"Mru of three", c, impl.Option{Kind: 1, Data: "\x00\x00\x64"}, impl.CfReject, "\x00\x00\x64"},
		{"Accm of just these bits", c, impl.Option{Kind: 2, Data: "\x00\x01\x00\x02"}, impl.CfAck, "\x00\x01\x00\x02"},
		{"Accm of more bits", c, impl.Option{Kind: 2, Data: "\xff\xff\xff\xff"}, impl.CfAck, "\xff\xff\xff\xff"},
		{"Accm that lacks one", c, impl.Option{Kind: 2, Data: "\x80\x01\x00\x01"}, impl.CfNak, "\x80\x01\x00\x03"},
		{"Accm that lacks all", c, impl.Option{Kind: 2, Data: "\x00\x00\x00\x00"}, impl.CfNak, "\x00\x01\x00\x02"},
		{"Accm 0, to one of 0", all, impl.Option{Kind: 2, Data: "\x00\x00\x00\x00"}, impl.CfAck, "\x00\x00\x00\x00"},
		{"Accm of three bytes", c, impl.Option{Kind: 2, Data: "\x01\x00\x02"}, impl.CfReject, "\x01\x00\x02"},
		{"Accm of five", c, impl.Option{Kind: 2, Data: "\x00\x00\x01\x00\x02"}, impl.CfReject, "\x00\x00\x01\x00\x02"},
		{"Magic 0", c, impl.Option{Kind: 5, Data: "\x00\x00\x00\x00"}, impl.CfNak, "\x00\x00\x00\x56"},
		{"Magic as c's", c, impl.Option{Kind: 5, Data: "\x00\x00\x00\x09"}, impl.CfNak, "\x00\x00\x00\x56"},
		{"Magic one more", c, impl.Option{Kind: 5, Data: "\x00\x00\x00\x0a"}, impl.CfAck, "\x00\x00\x00\x0a"},
		{"Magic 0, where the nak would be 0", all, impl.Option{Kind: 5, Data: "\x00\x00\x00\x00"}, impl.CfNak, "\x00\x00\x00\x01"},
		{"Magic as c's, where the nak would be 0", all, impl.Option{Kind: 5, Data: "\xff\xff\xff\xb3"}, impl.CfNak, "\x00\x00\x00\x01"},
		{"Magic of three bytes", c, impl.Option{Kind: 5, Data: "abc"}, impl.CfReject, "abc"},
		{"Magic of five", c, impl.Option{Kind: 5, Data: "abcde"}, impl.CfReject, "abcde"},
		{"Pfc without", c, impl.Option{Kind: 7}, impl.CfReject, ""},
		{"Pfc with", all, impl.Option{Kind: 7}, impl.CfAck, ""},
		{"Pfc of a byte", all, impl.Option{Kind: 7, Data: "\x01"}, impl.CfReject, "\x01"},
		{"Acfc without", c, impl.Option{Kind: 8}, impl.CfReject, ""},
		{"Acfc with", all, impl.Option{Kind: 8}, impl.CfAck, ""},
		{"Acfc of a byte", all, impl.Option{Kind: 8, Data: "\x01"}, impl.CfReject, "\x01"},
		{"Fcs 2", c, impl.Option{Kind: 9, Data: "\x02"}, impl.CfAck, "\x02"},
		{"Fcs 2, wide", all, impl.Option{Kind: 9, Data: "\x02"}, impl.CfAck, "\x02"},
		{"Fcs 4", c, impl.Option{Kind: 9, Data: "\x04"}, impl.CfNak, "\x02"},
		{"Fcs 4, wide", all, impl.Option{Kind: 9, Data: "\x04"}, impl.CfAck, "\x04"},
		{"Fcs 3, wide", all, impl.Option{Kind: 9, Data: "\x03"}, impl.CfNak, "\x02"},
		{"Fcs 6, wide", all, impl.Option{Kind: 9, Data: "\x06"}, impl.CfNak, "\x02"},
		{"Fcs 0", c, impl.Option{Kind: 9, Data: "\x00"}, impl.CfNak, "\x02"},
		{"Fcs of no byte", all, impl.Option{Kind: 9}, impl.CfReject, ""},
		{"Fcs of two", all, impl.Option{Kind: 9, Data: "\x00\x02"}, impl.CfReject, "\x00\x02"},
		{"another kind", all, impl.Option{Kind: 3, Data: "abcd"}, impl.CfReject, "abcd"},
		{"another kind without Data", all, impl.Option{Kind: 255}, impl.CfReject, ""},
	} {
		wantReply(t, x.what, x.c, []impl.Option{x.o}, impl.Answer{Code: x.code, Options: []impl.Option{{Kind: x.o.Kind, Data: x.told}}})
	}
}

func TestReplyToEachKindOfEachSize(t *testing.T) {
	for _, c := range fewConfigs() {
		for kind := int64(1); kind <= 255; kind++ {
			for size := range 21 {
				l := []impl.Option{{Kind: kind, Data: longText(size)}}
				wantReply(t, "each kind and size", c, l, replyByRule(c, l))
				zero := []impl.Option{{Kind: kind, Data: strings.Repeat("\x00", size)}}
				wantReply(t, "of bytes 0", c, zero, replyByRule(c, zero))
			}
		}
	}
	for _, c := range rightConfigs() {
		for _, o := range policyOptions() {
			wantReply(t, "each option that matters", c, []impl.Option{o}, replyByRule(c, []impl.Option{o}))
		}
	}
}

func TestReplyPutsTogether(t *testing.T) {
	c := impl.Config{Mru: 200, Accm: 1, Magic: 9, Pfc: true}
	good, goodAccm := impl.Option{Kind: 7}, impl.Option{Kind: 2, Data: "\x00\x00\x00\x03"}
	badMru, badMagic, badFcs := impl.Option{Kind: 1, Data: "\x00\x10"}, impl.Option{Kind: 5, Data: "\x00\x00\x00\x00"}, impl.Option{Kind: 9, Data: "\x04"}
	nakMru, nakMagic, nakFcs := impl.Option{Kind: 1, Data: "\x00\xc8"}, impl.Option{Kind: 5, Data: "\x00\x00\x00\x56"}, impl.Option{Kind: 9, Data: "\x02"}
	acfc, strange, long := impl.Option{Kind: 8}, impl.Option{Kind: 77, Data: "what"}, impl.Option{Kind: 1, Data: "\x00\x00\x64"}
	for _, x := range []struct {
		what string
		l    []impl.Option
		want impl.Answer
	}{
		{"none", nil, ack()},
		{"good ones, as they stand", []impl.Option{good, goodAccm}, ack(good, goodAccm)},
		{"good ones the other way round", []impl.Option{goodAccm, good}, ack(goodAccm, good)},
		{"a nak among good ones", []impl.Option{good, badMru, goodAccm}, nak(nakMru)},
		{"naks in the order of the options", []impl.Option{badFcs, good, badMagic, badMru}, nak(nakFcs, nakMagic, nakMru)},
		{"a reject among good ones", []impl.Option{good, acfc, goodAccm}, reject(acfc)},
		{"rejects in the order of the options", []impl.Option{strange, good, acfc, long}, reject(strange, acfc, long)},
		{"a reject behind a nak", []impl.Option{badMru, good, acfc}, reject(acfc)},
		{"a reject ahead of a nak", []impl.Option{acfc, good, badMru}, reject(acfc)},
		{"a reject between naks", []impl.Option{badMru, strange, badMagic, acfc, badFcs}, reject(strange, acfc)},
		{"a good one once more", []impl.Option{good, goodAccm, good}, reject(good)},
		{"a good one twice more", []impl.Option{good, good, good}, reject(good, good)},
		{"another one of a kind", []impl.Option{{Kind: 1, Data: "\x00\x64"}, {Kind: 1, Data: "\x00\x65"}}, reject(impl.Option{Kind: 1, Data: "\x00\x65"})},
		{"a nak once more", []impl.Option{badMru, badMru}, reject(badMru)},
		{"a good one behind a nak of its kind", []impl.Option{badMru, {Kind: 1, Data: "\x00\x64"}}, reject(impl.Option{Kind: 1, Data: "\x00\x64"})},
		{"a good one behind a reject of its kind", []impl.Option{long, {Kind: 1, Data: "\x00\x64"}}, reject(long, impl.Option{Kind: 1, Data: "\x00\x64"})},
		{"a reject once more", []impl.Option{acfc, acfc}, reject(acfc, acfc)},
		{"a strange one once more", []impl.Option{strange, strange, good}, reject(strange, strange)},
	} {
		wantReply(t, x.what, c, x.l, x.want)
	}
}

func TestReplyToListsOfAllLengths(t *testing.T) {
	for _, c := range fewConfigs() {
		for _, o := range []impl.Option{{Kind: 7}, {Kind: 9, Data: "\x02"}, {Kind: 1, Data: "\x00\x10"}, {Kind: 200, Data: longText(20)}} {
			for _, count := range []int{0, 1, 19, 20, 21, impl.MaxList - 1, impl.MaxList, impl.MaxList + 1} {
				l := manyOptions(count, o)
				wantReply(t, "many of a kind", c, l, replyByRule(c, l))
			}
		}
		for _, l := range rightOptions() {
			wantReply(t, "right", c, l, replyByRule(c, l))
		}
		for _, l := range wrongOptions() {
			wantReply(t, "not right", c, l, impl.Answer{})
		}
	}
}

func TestReplyOfAWrongConfig(t *testing.T) {
	for _, c := range wrongConfigs() {
		for _, l := range [][]impl.Option{nil, {{Kind: 7}}, {{Kind: 9, Data: "\x02"}}, {{Kind: 1, Data: "\x00\x10"}}, {{Kind: 3}}, {{}}, manyOptions(21, impl.Option{Kind: 7})} {
			wantReply(t, "not right", c, l, impl.Answer{})
		}
	}
}

func TestPolicyIsByTheRule(t *testing.T) {
	by := chance{n: 6}
	all := policyOptions()
	codes := map[int64]int{}
	for range 40000 {
		c, l := by.config(), by.options(all)
		if by.below(2) == 0 {
			l = impl.Ask(by.config())
		}
		want := replyByRule(c, l)
		codes[want.Code]++
		wantReply(t, "by chance", c, l, want)
		wantLess(t, "by chance", c, l, lessByRule(c, l))
		wantWithout(t, "by chance", c, l, withoutByRule(c, l))
		wantLine(t, "by chance", l, lineByRule(l))
	}
	for _, code := range []int64{impl.CfAck, impl.CfNak, impl.CfReject} {
		if codes[code] < 1000 {
			t.Errorf("only %d of the code %d", codes[code], code)
		}
	}
}

// agreedAfter asks as long as there is something to take back, and tells in how many turns all was agreed to.
func agreedAfter(t *testing.T, mine, peer impl.Config) int {
	t.Helper()
	rejected := map[int64]bool{}
	for turn := range 4 {
		asked := impl.Ask(mine)
		answer := impl.Reply(peer, asked)
		switch answer.Code {
		case impl.CfAck:
			if !slices.Equal(answer.Options, asked) {
				t.Errorf("%+v agrees to %s, and not to %s", peer, shown(answer.Options), shown(asked))
			}
			return turn
		case impl.CfNak:
			mine = impl.Less(mine, answer.Options)
		case impl.CfReject:
			for _, o := range answer.Options {
				if rejected[o.Kind] {
					t.Errorf("%+v rejects %d again", peer, o.Kind)
				}
				rejected[o.Kind] = true
			}
			mine = impl.Without(mine, answer.Options)
		default:
			t.Errorf("%+v answers %s with the code %d", peer, shown(asked), answer.Code)
			return -1
		}
		if !impl.ConfigRight(mine) {
			t.Errorf("not right: %+v", mine)
		}
	}
	t.Errorf("%+v and %+v do not agree", mine, peer)
	return -1
}

// Promise 5, its first half: what is naked, and asked for as that says, is agreed to at once.
func TestWhatIsNakedIsAgreedToAsThatSays(t *testing.T) {
	naked := 0
	for _, mine := range rightConfigs() {
		for _, accm := range configAccms() {
			for _, magic := range []int64{mine.Magic, mine.Magic ^ 1, top32 - 76} {
				peer := impl.Config{Mru: 100, Accm: accm, Magic: magic, Pfc: true, Acfc: true, Wide: mine.Mru%2 == 0}
				answer := impl.Reply(peer, impl.Ask(mine))
				if answer.Code != impl.CfNak {
					continue
				}
				naked++
				again := impl.Ask(impl.Less(mine, answer.Options))
				wantReply(t, "asked for as the nak says", peer, again, ack(again...))
			}
		}
	}
	if naked < 10000 {
		t.Errorf("only %d were naked", naked)
	}
}

// The options of a nak are themselves good, whatever was asked for.
func TestWhatANakSaysIsGood(t *testing.T) {
	for _, peer := range rightConfigs() {
		for _, o := range policyOptions() {
			if answer := impl.Reply(peer, []impl.Option{o}); answer.Code == impl.CfNak {
				wantReply(t, "as the nak says", peer, answer.Options, ack(answer.Options...))
			}
		}
	}
}

// Promise 5, its second half: what is rejected, and asked for without, is not rejected again.
func TestWhatIsRejectedIsNotRejectedAgain(t *testing.T) {
	rejected := 0
	for _, mine := range rightConfigs() {
		for _, peer := range fewConfigs() {
			answer := impl.Reply(peer, impl.Ask(mine))
			if answer.Code != impl.CfReject {
				continue
			}
			rejected++
			again := impl.Ask(impl.Without(mine, answer.Options))
			for _, o := range again {
				if slices.ContainsFunc(answer.Options, func(was impl.Option) bool { return was.Kind == o.Kind }) {
					t.Errorf("%+v asks again for what was rejected: %s", mine, shown(again))
				}
			}
			if next := impl.Reply(peer, again); next.Code == impl.CfReject {
				t.Errorf("%+v rejects %s, and then %s", peer, shown(answer.Options), shown(next.Options))
			}
		}
	}
	if rejected < 5000 {
		t.Errorf("only %d were rejected", rejected)
	}
}

// Promise 5, both halves behind each other: a reject, then a nak, and all is agreed to.
func TestTwoConfigsAgreeInTheEnd(t *testing.T) {
	turns := [4]int{}
	for _, mine := range rightConfigs() {
		for _, peer := range fewConfigs() {
			turn := agreedAfter(t, mine, peer)
			if turn < 0 || turn > 2 {
				t.Errorf("%+v and %+v take %d turns", mine, peer, turn)
				continue
			}
			turns[turn]++
		}
	}
	if turns[0] == 0 || turns[1] == 0 || turns[2] == 0 {
		t.Errorf("turns: %v", turns)
	}
}

func TestLess(t *testing.T) {
	c := impl.Config{Mru: 200, Accm: 1, Magic: 9, Pfc: true, Acfc: true, Wide: true}
	mru := func(n int64) impl.Option { return impl.Option{Kind: 1, Data: bytesByRule(n, 2)} }
	accm := func(n int64) impl.Option { return impl.Option{Kind: 2, Data: bytesByRule(n, 4)} }
	magic := func(n int64) impl.Option { return impl.Option{Kind: 5, Data: bytesByRule(n, 4)} }
	with := func(mru, accm, magic int64, wide bool) impl.Config {
		return impl.Config{Mru: mru, Accm: accm, Magic: magic, Pfc: true, Acfc: true, Wide: wide}
	}
	for _, x := range []struct {
		what string
		l    []impl.Option
		want impl.Config
	}{
		{"none", nil, c},
		{"Mru 63", []impl.Option{mru(63)}, c},
		{"Mru 64", []impl.Option{mru(64)}, with(64, 1, 9, true)},
		{"Mru 300", []impl.Option{mru(300)}, with(300, 1, 9, true)},
		{"Mru 301", []impl.Option{mru(301)}, c},
		{"Mru above c's", []impl.Option{mru(201)}, with(201, 1, 9, true)},
		{"Mru of one byte", []impl.Option{{Kind: 1, Data: "\x64"}}, c},
		{"Mru of three", []impl.Option{{Kind: 1, Data: "\x00\x00\x64"}}, c},
		{"Mru, the last counts", []impl.Option{mru(100), mru(150), mru(120)}, with(120, 1, 9, true)},
		{"Mru, the last that is right counts", []impl.Option{mru(100), mru(150), mru(63), {Kind: 1, Data: "\x64"}}, with(150, 1, 9, true)},
		{"Accm 0", []impl.Option{accm(0)}, with(200, 0, 9, true)},
		{"Accm of all bits", []impl.Option{accm(top32)}, with(200, top32, 9, true)},
		{"Accm of three bytes", []impl.Option{{Kind: 2, Data: "abc"}}, c},
		{"Accm of five", []impl.Option{{Kind: 2, Data: "abcde"}}, c},
		{"Accm, the last counts", []impl.Option{accm(7), accm(3), {Kind: 2}}, with(200, 3, 9, true)},
		{"Magic 0", []impl.Option{magic(0)}, with(200, 1, 0, true)},
		{"Magic, the most", []impl.Option{magic(top32)}, with(200, 1, top32, true)},
		{"Magic of three bytes", []impl.Option{{Kind: 5, Data: "abc"}}, c},
		{"Magic of five", []impl.Option{{Kind: 5, Data: "abcde"}}, c},
		{"Magic, the last counts", []impl.Option{magic(7), magic(3), {Kind: 5}}, with(200, 1, 3, true)},
		{"Fcs 2", []impl.Option{{Kind: 9, Data: "\x02"}}, with(200, 1, 9, false)},
		{"Fcs 4", []impl.Option{{Kind: 9, Data: "\x04"}}, c},
		{"Fcs 2, and then 4", []impl.Option{{Kind: 9, Data: "\x02"}, {Kind: 9, Data: "\x04"}}, with(200, 1, 9, false)},
		{"Fcs of two bytes", []impl.Option{{Kind: 9, Data: "\x00\x02"}}, c},
		{"Fcs of no byte", []impl.Option{{Kind: 9}}, c},
		{"Pfc and Acfc", []impl.Option{{Kind: 7}, {Kind: 8}, {Kind: 7, Data: "\x00"}}, c},
		{"another kind", []impl.Option{{Kind: 3, Data: "\x00\x64"}, {Kind: 255, Data: "\x02"}}, c},
		{"all at once", []impl.Option{{Kind: 9, Data: "\x02"}, magic(5), accm(6), mru(70)}, with(70, 6, 5, false)},
	} {
		wantLess(t, x.what, c, x.l, x.want)
	}
	narrow := impl.Config{Mru: 200, Accm: 1, Magic: 9}
	wantLess(t, "Fcs 4 does not widen", narrow, []impl.Option{{Kind: 9, Data: "\x04"}}, narrow)
	wantLess(t, "Pfc and Acfc are not switched on", narrow, []impl.Option{{Kind: 7}, {Kind: 8}}, narrow)
}

func TestWithout(t *testing.T) {
	c := impl.Config{Mru: 200, Accm: 1, Magic: 9, Pfc: true, Acfc: true, Wide: true}
	for _, data := range []string{"", "\x00", "\x00\x64", "\x02", "abcd", longText(20)} {
		for _, x := range []struct {
			kind int64
			want impl.Config
		}{
			{1, impl.Config{Mru: 300, Accm: 1, Magic: 9, Pfc: true, Acfc: true, Wide: true}},
			{2, impl.Config{Mru: 200, Accm: top32, Magic: 9, Pfc: true, Acfc: true, Wide: true}},
			{5, impl.Config{Mru: 200, Accm: 1, Magic: 0, Pfc: true, Acfc: true, Wide: true}},
			{7, impl.Config{Mru: 200, Accm: 1, Magic: 9, Acfc: true, Wide: true}},
			{8, impl.Config{Mru: 200, Accm: 1, Magic: 9, Pfc: true, Wide: true}},
			{9, impl.Config{Mru: 200, Accm: 1, Magic: 9, Pfc: true, Acfc: true}},
			{3, c},
			{255, c},
		} {
			o := impl.Option{Kind: x.kind, Data: data}
			wantWithout(t, "one", c, []impl.Option{o}, x.want)
			wantWithout(t, "several of a kind", c, []impl.Option{o, {Kind: 100}, {Kind: x.kind}}, x.want)
		}
	}
	wantWithout(t, "none", c, nil, c)
	wantWithout(t, "all that was asked for", c, impl.Ask(c), impl.Config{Mru: 300, Accm: top32})
	nothing := impl.Config{Mru: 300, Accm: top32}
	wantWithout(t, "nothing is switched on", nothing, impl.Ask(c), nothing)
}

func TestLessAndWithoutByTheRule(t *testing.T) {
	for _, c := range fewConfigs() {
		for _, o := range policyOptions() {
			for _, l := range [][]impl.Option{{o}, {o, o}, {o, {Kind: 1, Data: "\x00\x63"}, {Kind: 2, Data: "abcd"}}, {{Kind: 5, Data: "abcd"}, {Kind: 9, Data: "\x02"}, o}} {
				wantLess(t, "each option", c, l, lessByRule(c, l))
				wantWithout(t, "each option", c, l, withoutByRule(c, l))
			}
		}
		for _, l := range rightOptions() {
			wantLess(t, "right", c, l, lessByRule(c, l))
			wantWithout(t, "right", c, l, withoutByRule(c, l))
		}
	}
}

// Options or a Config that are not right leave the Config as it is; a list that is too long is refused ahead of that.
func TestLessAndWithoutOfWhatIsNotRight(t *testing.T) {
	telling := [][]impl.Option{{{Kind: 1, Data: "\x00\x64"}}, {{Kind: 2, Data: "abcd"}, {Kind: 5, Data: "abcd"}}, {{Kind: 9, Data: "\x02"}, {Kind: 7}, {Kind: 8}}}
	for _, c := range wrongConfigs() {
		for _, l := range append(telling, nil, []impl.Option{{}}) {
			wantLess(t, "not right c", c, l, c)
			wantWithout(t, "not right c", c, l, c)
		}
		wantLess(t, "not right c, too long a list", c, manyOptions(impl.MaxList+1, impl.Option{Kind: 7}), impl.Config{})
		wantWithout(t, "not right c, too long a list", c, manyOptions(impl.MaxList+1, impl.Option{Kind: 7}), impl.Config{})
	}
	for _, c := range fewConfigs() {
		for _, l := range wrongOptions() {
			wantLess(t, "not right", c, l, lessByRule(c, l))
			wantWithout(t, "not right", c, l, withoutByRule(c, l))
		}
		for _, o := range []impl.Option{{Kind: 1, Data: "\x00\x63"}, {Kind: 9, Data: "\x02"}, {Kind: 7}} {
			for count, want := range map[int]impl.Config{0: c, 21: c, impl.MaxList: c, impl.MaxList + 1: {}} {
				wantLess(t, "many", c, manyOptions(count, o), want)
				wantWithout(t, "many", c, manyOptions(count, o), want)
			}
			wantLess(t, "the most", c, manyOptions(20, o), lessByRule(c, []impl.Option{o}))
			wantWithout(t, "the most", c, manyOptions(20, o), withoutByRule(c, []impl.Option{o}))
		}
	}
}

func TestLineOf(t *testing.T) {
	plain := impl.Line{Mru: 300, Accm: top32}
	for _, x := range []struct {
		what string
		l    []impl.Option
		want impl.Line
	}{
		{"none", nil, plain},
		{"Mru", []impl.Option{{Kind: 1, Data: "\x00\x64"}}, impl.Line{Mru: 100, Accm: top32}},
		{"Mru of 300", []impl.Option{{Kind: 1, Data: "\x01\x2c"}}, plain},
		{"Mru of one byte", []impl.Option{{Kind: 1, Data: "\x64"}}, plain},
		{"Mru of three", []impl.Option{{Kind: 1, Data: "\x00\x00\x64"}}, plain},
		{"Mru, the last counts", []impl.Option{{Kind: 1, Data: "\x00\x64"}, {Kind: 1, Data: "\x00\x65"}}, impl.Line{Mru: 101, Accm: top32}},
		{"Mru, the last as it is laid counts", []impl.Option{{Kind: 1, Data: "\x00\x64"}, {Kind: 1}}, impl.Line{Mru: 100, Accm: top32}},
		{"Mru of 5, which no right Config has", []impl.Option{{Kind: 1, Data: "\x00\x05"}}, plain},
		{"Mru of 100, and of 0, which no right Config has", []impl.Option{{Kind: 1, Data: "\x00\x64"}, {Kind: 1, Data: "\x00\x00"}}, impl.Line{Mru: 100, Accm: top32}},
		{"Mru of 100, and of 300, the last counts", []impl.Option{{Kind: 1, Data: "\x00\x64"}, {Kind: 1, Data: "\x01\x2c"}}, plain},
		{"Accm", []impl.Option{{Kind: 2, Data: "\x00\x00\x00\x00"}}, impl.Line{Mru: 300}},
		{"Accm of three bytes", []impl.Option{{Kind: 2, Data: "\x00\x00\x00"}}, plain},
		{"Accm of five", []impl.Option{{Kind: 2, Data: "\x00\x00\x00\x00\x00"}}, plain},
		{"Accm, the last counts", []impl.Option{{Kind: 2, Data: "\x00\x00\x00\x00"}, {Kind: 2, Data: "\x01\x02\x03\x04"}}, impl.Line{Mru: 300, Accm: 0x01020304}},
		{"Magic", []impl.Option{{Kind: 5, Data: "abcd"}}, plain},
		{"Pfc", []impl.Option{{Kind: 7}}, impl.Line{Mru: 300, Accm: top32, Pfc: true}},
		{"Pfc of a byte", []impl.Option{{Kind: 7, Data: "\x01"}}, plain},
		{"Pfc, and one of a byte", []impl.Option{{Kind: 7}, {Kind: 7, Data: "\x00"}}, impl.Line{Mru: 300, Accm: top32, Pfc: true}},
		{"Acfc", []impl.Option{{Kind: 8}}, impl.Line{Mru: 300, Accm: top32, Acfc: true}},
		{"Acfc of a byte", []impl.Option{{Kind: 8, Data: "\x01"}}, plain},
		{"Fcs 4", []impl.Option{{Kind: 9, Data: "\x04"}}, impl.Line{Mru: 300, Accm: top32, Wide: true}},
		{"Fcs 2", []impl.Option{{Kind: 9, Data: "\x02"}}, plain},
		{"Fcs 4, and 2, which is not as it is laid", []impl.Option{{Kind: 9, Data: "\x04"}, {Kind: 9, Data: "\x02"}}, impl.Line{Mru: 300, Accm: top32, Wide: true}},
		{"Fcs of two bytes", []impl.Option{{Kind: 9, Data: "\x00\x04"}}, plain},
		{"another kind", []impl.Option{{Kind: 3, Data: "\x00\x64"}, {Kind: 4}}, plain},
		{"all, in another order", []impl.Option{{Kind: 9, Data: "\x04"}, {Kind: 8}, {Kind: 7}, {Kind: 2, Data: "\x00\x00\x00\x05"}, {Kind: 1, Data: "\x00\x46"}}, impl.Line{Mru: 70, Accm: 5, Pfc: true, Acfc: true, Wide: true}},
	} {
		wantLine(t, x.what, x.l, x.want)
	}
	for _, o := range policyOptions() {
		for _, l := range [][]impl.Option{{o}, {o, {Kind: 1, Data: "\x00\x64"}, {Kind: 2, Data: "abcd"}}, {{Kind: 1, Data: "\x00\x64"}, {Kind: 2, Data: "abcd"}, {Kind: 9, Data: "\x04"}, o}} {
			wantLine(t, "each option", l, lineByRule(l))
		}
	}
	for _, l := range rightOptions() {
		wantLine(t, "right", l, lineByRule(l))
	}
	for _, l := range wrongOptions() {
		wantLine(t, "not right", l, impl.Line{})
	}
	for _, count := range []int{20, 21, impl.MaxList, impl.MaxList + 1} {
		l := manyOptions(count, impl.Option{Kind: 7})
		wantLine(t, "many", l, lineByRule(l))
	}
}

// An OptMru counts just of the numbers that a right Config may have, alone and behind another one.
func TestLineOfEachMru(t *testing.T) {
	first := impl.Option{Kind: 1, Data: "\x00\x64"}
	for n := range int64(65536) {
		o := impl.Option{Kind: 1, Data: bytesByRule(n, 2)}
		alone, behind := int64(300), int64(100)
		if n >= 64 && n <= 300 {
			alone, behind = n, n
		}
		wantLine(t, "alone", []impl.Option{o}, impl.Line{Mru: alone, Accm: top32})
		wantLine(t, "behind 100", []impl.Option{first, o}, impl.Line{Mru: behind, Accm: top32})
		wantLine(t, "ahead of 100", []impl.Option{o, first}, impl.Line{Mru: 100, Accm: top32})
	}
}

func TestPolicyChangesNothingHandedIn(t *testing.T) {
	spare := impl.Option{Kind: 99, Data: "spare"}
	lists := append(rightOptions(), wrongOptions()...)
	for _, o := range policyOptions() {
		lists = append(lists, []impl.Option{{Kind: 7}, o, {Kind: 8}, o})
	}
	for _, l := range lists {
		room := append(slices.Clone(l), spare, spare)
		before := slices.Clone(room)
		given := room[:len(l)]
		for _, c := range fewConfigs() {
			impl.Reply(c, given)
			impl.Less(c, given)
			impl.Without(c, given)
		}
		impl.LineOf(given)
		if !slices.Equal(room, before) {
			t.Errorf("changed: %s", shown(l))
		}
	}
}

func TestPolicySharesNoMemory(t *testing.T) {
	c := impl.Config{Mru: 200, Accm: 1, Magic: 9, Pfc: true, Acfc: true, Wide: true}
	given := impl.Ask(c)
	for at, o := range given {
		given[at].Data = strings.Clone(o.Data)
	}
	given[2].Data = strings.Clone("\x00\x00\x00\x08")
	strange := []impl.Option{{Kind: 7}, {Kind: 200, Data: strings.Repeat("long ", 4)}, {Kind: 201, Data: strings.Repeat("more ", 4)}}
	wrong := []impl.Option{{Kind: 1, Data: strings.Clone("\x00\x10")}, {Kind: 2, Data: strings.Clone("\x00\x00\x00\x00")}}
	for _, l := range [][]impl.Option{given, strange, wrong} {
		before := slices.Clone(l)
		want := replyByRule(c, l)
		got := impl.Reply(c, l)
		for _, told := range got.Options {
			for _, o := range l {
				if sharesText(told.Data, o.Data) {
					t.Errorf("code %d: an answer shares memory with what was asked for: %d", got.Code, o.Kind)
				}
			}
		}
		for at := range got.Options {
			got.Options[at] = impl.Option{Kind: 99}
		}
		if !slices.Equal(l, before) {
			t.Errorf("code %d: what was handed in is part of the answer: %s", got.Code, shown(l))
		}
		wantReply(t, "kept from call to call", c, l, want)
	}
	asked := impl.Ask(c)
	asked[0] = impl.Option{}
	if got := impl.Ask(c); !slices.Equal(got, askByRule(c)) {
		t.Errorf("kept from call to call: %s", shown(got))
	}
}
