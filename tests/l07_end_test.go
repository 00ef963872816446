package tests

import (
	"fmt"
	"math"
	"slices"
	"strings"
	"testing"

	"loop.example/g00351/impl"
)

const (
	topTime = int64(1000000000)
	topDue  = topTime + 3
)

func waitsByRule(state int64) bool {
	return state >= 4 && state <= 8
}

func endRightByRule(e impl.End) bool {
	for _, c := range []impl.Config{e.Config, e.Asks} {
		if !configRightByRule(c) {
			return false
		}
	}
	for _, l := range [][]impl.Option{e.Mine, e.Peer} {
		if !optionsRightByRule(l) || len(optionsBytesByRule(l)) > 250 {
			return false
		}
	}
	if e.State < 0 || e.State > 9 || e.Tries < 0 || e.Tries > 5 || e.Id < 0 || e.Id > 255 || e.Fails < 0 || e.Fails > 3 {
		return false
	}
	if waitsByRule(e.State) && (e.Due < 0 || e.Due > topDue) || !waitsByRule(e.State) && e.Due != -1 {
		return false
	}
	in, out := impl.Line{}, impl.Line{}
	if e.Up {
		in, out = lineByRule(e.Mine), lineByRule(e.Peer)
	}
	return e.Up == (e.State == 9) && e.In == in && e.Out == out
}

// endEvent is an event that happens to an end, with what came, and the answer to it, if that is a request.
type endEvent struct {
	name   string
	now    int64
	came   impl.Packet
	answer impl.Answer
}

func happenByRule(t *testing.T, e impl.End, ev endEvent) impl.EndOut {
	t.Helper()
	turn := turnByRule(placesByRule(t)[ev.name][e.State], e.State)
	if turn.Code != impl.OK {
		return impl.EndOut{Code: turn.Code}
	}
	var out impl.EndOut
	was := e.Due
	for _, action := range turn.Actions {
		actByRule(&e, &out, ev, action)
	}
	e.State = turn.State
	if !waitsByRule(e.State) {
		e.Due = -1
	} else if was == -1 || slices.Contains(turn.Actions, "irc") || slices.Contains(turn.Actions, "zrc") {
		e.Due = ev.now + 3
	}
	out.End = e
	return out
}

func actByRule(e *impl.End, out *impl.EndOut, ev endEvent, action string) {
	send := func(code, id int64, data string) {
		out.Send = append(out.Send, impl.Packet{Code: code, Id: id, Data: data})
	}
	if action == "scr" || action == "str" || action == "scj" {
		e.Id = (e.Id + 1) % 256
	}
	switch action {
	case "irc":
		e.Tries = 5
	case "zrc":
		e.Tries = 0
	case "scr":
		e.Mine = askByRule(e.Asks)
		send(1, e.Id, optionsBytesByRule(e.Mine))
	case "str":
		send(5, e.Id, "")
	case "sca":
		send(ev.answer.Code, ev.came.Id, optionsBytesByRule(ev.answer.Options))
		e.Peer, e.Fails = optionsReadByRule(ev.came.Data).Options, 0
	case "scn":
		send(ev.answer.Code, ev.came.Id, optionsBytesByRule(ev.answer.Options))
		if ev.answer.Code == 3 {
			e.Fails = min(3, e.Fails+1)
		}
	case "sta":
		send(6, ev.came.Id, "")
	case "scj":
		text := packetBytesByRule(ev.came)
		send(7, e.Id, text[:min(250, len(text))])
	case "ser":
		if ev.came.Code == 9 && len(ev.came.Data) >= 4 {
			send(10, ev.came.Id, bytesByRule(e.Asks.Magic, 4)+ev.came.Data[4:])
		}
	case "tlu":
		e.Up, e.In, e.Out = true, lineByRule(e.Mine), lineByRule(e.Peer)
	case "tld":
		e.Up, e.In, e.Out = false, impl.Line{}, impl.Line{}
	}
	if action == "scr" || action == "str" {
		e.Tries, e.Due = max(0, e.Tries-1), ev.now+3
	}
	if strings.HasPrefix(action, "tl") {
		out.Told = append(out.Told, action)
	}
}

func doByRule(t *testing.T, e impl.End, event string, now int64) impl.EndOut {
	t.Helper()
	switch {
	case len(event) > 8000:
		return impl.EndOut{Code: impl.ErrSize}
	case !endRightByRule(e) || now < 0 || now > topTime:
		return impl.EndOut{Code: impl.ErrForm}
	case !slices.Contains([]string{"Up", "Down", "Open", "Close"}, event):
		return impl.EndOut{Code: impl.ErrNone}
	}
	if event == "Up" {
		e.Asks, e.Fails = e.Config, 0
	}
	return happenByRule(t, e, endEvent{name: event, now: now})
}

func tickByRule(t *testing.T, e impl.End, now int64) impl.EndOut {
	t.Helper()
	switch {
	case !endRightByRule(e) || now < 0 || now > topTime:
		return impl.EndOut{Code: impl.ErrForm}
	case e.Due == -1 || now < e.Due:
		return impl.EndOut{Code: impl.ErrState}
	case e.Tries > 0:
		return happenByRule(t, e, endEvent{name: "TO+", now: now})
	}
	return happenByRule(t, e, endEvent{name: "TO-", now: now})
}

func endReplyByRule(e impl.End, l []impl.Option) impl.Answer {
	c := e.Config
	c.Magic = e.Asks.Magic
	answer := replyByRule(c, l)
	if answer.Code != 3 || e.Fails != 3 {
		return answer
	}
	var kinds []int64
	for _, o := range answer.Options {
		kinds = append(kinds, o.Kind)
	}
	var refused []impl.Option
	for _, o := range l {
		if slices.Contains(kinds, o.Kind) {
			refused = append(refused, o)
		}
	}
	return impl.Answer{Code: 4, Options: refused}
}

// hearByRule tells the event that a packet is, or a code.
func hearByRule(t *testing.T, e impl.End, p impl.Packet, now int64) impl.EndOut {
	t.Helper()
	if !endRightByRule(e) || now < 0 || now > topTime || p.Code < 0 || p.Code > 255 || p.Id < 0 || p.Id > 255 || len(p.Data) > 250 {
		return impl.EndOut{Code: impl.ErrForm}
	}
	if e.State < 2 {
		return impl.EndOut{Code: impl.ErrState}
	}
	ev := endEvent{now: now, came: p, name: "RUC"}
	read := optionsReadByRule(p.Data)
	switch {
	case (p.Code == 2 || p.Code == 3 || p.Code == 4) && p.Id != e.Id, p.Code == 2 && p.Data != optionsBytesByRule(e.Mine):
		return impl.EndOut{Code: impl.ErrState}
	case (p.Code == 1 || p.Code == 3 || p.Code == 4) && read.Code != 0:
		return impl.EndOut{Code: impl.ErrSyntax}
	case p.Code == 7 && p.Data == "":
		return impl.EndOut{Code: impl.ErrShort}
	}
	switch p.Code {
	case 1:
		ev.answer, ev.name = endReplyByRule(e, read.Options), "RCR-"
		if ev.answer.Code == 2 {
			ev.name = "RCR+"
		}
	case 2:
		ev.name = "RCA"
	case 3:
		ev.name, e.Asks = "RCN", lessByRule(e.Asks, read.Options)
	case 4:
		ev.name, e.Asks = "RCN", withoutByRule(e.Asks, read.Options)
	case 5:
		ev.name = "RTR"
	case 6:
		ev.name = "RTA"
	case 7:
		ev.name = "RXJ+"
		if p.Data[0] >= 1 && p.Data[0] <= 7 {
			ev.name = "RXJ-"
		}
	case 9, 10, 11:
		ev.name = "RXR"
	}
	return happenByRule(t, e, ev)
}

func sameEnd(a, b impl.End) bool {
	return a.Config == b.Config && a.Asks == b.Asks && a.State == b.State && a.Tries == b.Tries && a.Due == b.Due &&
		a.Id == b.Id && a.Fails == b.Fails && slices.Equal(a.Mine, b.Mine) && slices.Equal(a.Peer, b.Peer) &&
		a.Up == b.Up && a.In == b.In && a.Out == b.Out
}

func sameEndOut(a, b impl.EndOut) bool {
	return sameEnd(a.End, b.End) && slices.Equal(a.Send, b.Send) && slices.Equal(a.Told, b.Told) && a.Code == b.Code
}

func wantEndOut(t *testing.T, what string, got, want impl.EndOut) {
	t.Helper()
	if !sameEndOut(got, want) {
		t.Errorf("%s:\n got %+q\nwant %+q", what, fmt.Sprint(got), fmt.Sprint(want))
	}
}

func wantCode(t *testing.T, what string, got impl.EndOut, code int64) {
	t.Helper()
	wantEndOut(t, what, got, impl.EndOut{Code: code})
}

// endIn is a right end in that state, of values that are none of the zero ones.
func endIn(state int64) impl.End {
	e := impl.End{
		Config: impl.Config{Mru: 200, Accm: 1, Magic: 9, Pfc: true, Wide: true},
		Asks:   impl.Config{Mru: 200, Accm: 1, Magic: 10},
		State:  state, Tries: 2, Due: -1, Id: 41, Fails: 1,
		Mine: []impl.Option{{Kind: 1, Data: "\x00\xc8"}, {Kind: 2, Data: "\x00\x00\x00\x01"}, {Kind: 5, Data: "\x00\x00\x00\x0a"}},
		Peer: []impl.Option{{Kind: 1, Data: "\x00\x64"}, {Kind: 7}},
	}
	if waitsByRule(state) {
		e.Due = 50
	}
	if state == 9 {
		e.Up = true
		e.In = impl.Line{Mru: 200, Accm: 1}
		e.Out = impl.Line{Mru: 100, Accm: top32, Pfc: true}
	}
	return e
}

func endsInEachState() []impl.End {
	var out []impl.End
	for state := range int64(10) {
		out = append(out, endIn(state))
	}
	return out
}

// endOptions are lists that an end may have, of none up to 250 bytes.
func (c *chance) endOptions(all []impl.Option) []impl.Option {
	switch c.below(4) {
	case 0:
		return askByRule(c.config())
	case 1:
		return nil
	}
	l := c.options(all)
	for len(optionsBytesByRule(l)) > 250 {
		l = l[1:]
	}
	return l
}

func (c *chance) pick(of ...int64) int64 {
	return of[c.below(len(of))]
}

func (c *chance) end(all []impl.Option) impl.End {
	e := impl.End{
		Config: c.config(), Asks: c.config(), State: int64(c.below(10)), Tries: int64(c.below(6)), Due: -1,
		Id: c.pick(0, 1, 7, 254, 255), Fails: int64(c.below(4)), Mine: c.endOptions(all), Peer: c.endOptions(all),
	}
	if waitsByRule(e.State) {
		e.Due = c.pick(0, 1, 2, 3, 4, 5, 500, topTime-1, topTime, topTime+1, topDue)
	}
	if e.State == 9 {
		e.Up, e.In, e.Out = true, lineByRule(e.Mine), lineByRule(e.Peer)
	}
	return e
}

// packetTo is mostly one that the end has to do with: of its Id, and of Data that are Options' bytes.
func (c *chance) packetTo(e impl.End, all []impl.Option) impl.Packet {
	p := impl.Packet{Code: int64(c.below(13)), Id: e.Id}
	if c.below(5) == 0 {
		p.Id = int64(c.below(256))
	}
	if c.below(20) == 0 {
		p.Code = int64(c.below(256))
	}
	switch c.below(8) {
	case 0:
		p.Data = c.lineBytes(c.below(251))
	case 1:
		p.Data = oneByte(c.below(10)) + longText(c.below(8))
	case 2:
		p.Data = longText(int(c.pick(0, 1, 3, 4, 5, 244, 245, 246, 247, 248, 249, 250)))
	case 3, 4:
		p.Data = optionsBytesByRule(c.endOptions(all))
	default:
		p.Data = optionsBytesByRule(e.Mine)
	}
	return p
}

func endTimes() []int64 {
	return []int64{0, 1, 49, 50, 51, topTime - 1, topTime}
}

func wrongTimes() []int64 {
	return []int64{-1, -2, topTime + 1, topTime + 3, topTime + 4, 1 << 32, math.MinInt64, math.MaxInt64}
}

func TestConstantsOfAnEnd(t *testing.T) {
	if got := []int64{impl.MaxTries, impl.MaxFails, impl.Restart}; !slices.Equal(got, []int64{5, 3, 3}) {
		t.Errorf("got %v", got)
	}
}

func TestEndNew(t *testing.T) {
	for _, c := range rightConfigs() {
		want := impl.End{Config: c, Asks: c, Due: -1}
		if got := impl.EndNew(c); !sameEnd(got, want) || !impl.EndRight(got) {
			t.Errorf("%+v: %+v", c, got)
		}
	}
	for _, c := range wrongConfigs() {
		if got := impl.EndNew(c); !sameEnd(got, impl.End{}) || impl.EndRight(got) {
			t.Errorf("%+v: %+v", c, got)
		}
	}
}

// changed is an end of which a test changes something.
func changed(e impl.End, change func(e *impl.End)) impl.End {
	change(&e)
	return e
}

// longOptions are Options of just so many bytes.
func longOptions(size int) []impl.Option {
	var l []impl.Option
	for size > 0 {
		data := min(20, size-2)
		if left := size - data - 2; left == 1 {
			data--
		}
		l = append(l, impl.Option{Kind: 200, Data: longText(data)})
		size -= data + 2
	}
	return l
}

// endChange is what is changed of a right end, and whether it is right then.
type endChange struct {
	what   string
	right  bool
	change func(e *impl.End)
}

// endChanges are such as do not hang on the state.
func endChanges() []endChange {
	var out []endChange
	add := func(what string, n int64, right bool, change func(e *impl.End)) {
		out = append(out, endChange{fmt.Sprint(what, " ", n), right, change})
	}
	for _, n := range []int64{math.MinInt64, -1, 0, 1, 4, 5, 6, 1 << 32, math.MaxInt64} {
		add("Tries", n, n >= 0 && n <= 5, func(e *impl.End) { e.Tries = n })
	}
	for _, n := range []int64{math.MinInt64, -1, 0, 1, 2, 3, 4, 1 << 32, math.MaxInt64} {
		add("Fails", n, n >= 0 && n <= 3, func(e *impl.End) { e.Fails = n })
	}
	for _, n := range []int64{math.MinInt64, -1, 0, 1, 254, 255, 256, 257, 1 << 32, math.MaxInt64} {
		add("Id", n, n >= 0 && n <= 255, func(e *impl.End) { e.Id = n })
	}
	for _, n := range []int64{math.MinInt64, -1, 10, 11, 256, 1 << 32, math.MaxInt64} {
		add("State", n, false, func(e *impl.End) { e.State = n })
	}
	for n, c := range wrongConfigs() {
		add("Config", int64(n), false, func(e *impl.End) { e.Config = c })
		add("Asks", int64(n), false, func(e *impl.End) { e.Asks = c })
	}
	for n, c := range fewConfigs() {
		add("Config", int64(n), true, func(e *impl.End) { e.Config = c })
		add("Asks", int64(n), true, func(e *impl.End) { e.Asks = c })
	}
	for n, l := range wrongOptions() {
		add("Mine", int64(n), false, func(e *impl.End) { e.Mine, e.In = l, impl.Line{} })
		add("Peer", int64(n), false, func(e *impl.End) { e.Peer, e.Out = l, impl.Line{} })
	}
	return out
}

func withLines(e impl.End) impl.End {
	if e.Up {
		e.In, e.Out = lineByRule(e.Mine), lineByRule(e.Peer)
	}
	return e
}

func TestEndRight(t *testing.T) {
	for _, e := range endsInEachState() {
		if !impl.EndRight(e) {
			t.Errorf("right: %+v", e)
		}
		for _, x := range endChanges() {
			if got := impl.EndRight(changed(e, x.change)); got != x.right {
				t.Errorf("state %d, %s: %v", e.State, x.what, got)
			}
		}
		for _, size := range []int{0, 2, 100, 248, 249, 250, 251, 252, 300, 400} {
			mine, peer := e, e
			mine.Mine, peer.Peer = longOptions(size), longOptions(size)
			for _, x := range []impl.End{withLines(mine), withLines(peer)} {
				if got := impl.EndRight(x); got != (size <= 250) {
					t.Errorf("state %d, options of %d bytes: %v", e.State, size, got)
				}
			}
		}
	}
	if impl.EndRight(impl.End{}) {
		t.Error("the zero End is right")
	}
}

func TestDueOfARightEnd(t *testing.T) {
	for _, e := range endsInEachState() {
		for _, due := range []int64{math.MinInt64, -2, -1, 0, 1, 50, topTime, topTime + 1, topDue, topDue + 1, 1 << 32, math.MaxInt64} {
			e.Due = due
			want := due == -1
			if e.State >= 4 && e.State <= 8 {
				want = due >= 0 && due <= topDue
			}
			if got := impl.EndRight(e); got != want {
				t.Errorf("state %d, Due %d: %v", e.State, due, got)
			}
		}
	}
}

func TestUpAndLinesOfARightEnd(t *testing.T) {
	for _, e := range endsInEachState() {
		up := e
		up.Up = !e.Up
		if impl.EndRight(up) {
			t.Errorf("state %d, Up %v", e.State, up.Up)
		}
		up.In, up.Out = impl.Line{}, impl.Line{}
		if up.Up {
			up.In, up.Out = lineByRule(e.Mine), lineByRule(e.Peer)
		}
		if impl.EndRight(up) {
			t.Errorf("state %d, Up %v, and lines that fit", e.State, up.Up)
		}
		for _, line := range []impl.Line{{}, lineByRule(e.Mine), lineByRule(e.Peer), {Mru: 300, Accm: top32}, {Mru: 200, Accm: 1, Wide: true}, {Pfc: true}} {
			in, out := e, e
			in.In, out.Out = line, line
			if got := impl.EndRight(in); got != (line == e.In) {
				t.Errorf("state %d, In %+v: %v", e.State, line, got)
			}
			if got := impl.EndRight(out); got != (line == e.Out) {
				t.Errorf("state %d, Out %+v: %v", e.State, line, got)
			}
		}
	}
}

func TestEndRightIsByTheRule(t *testing.T) {
	c, all := &chance{n: 7}, policyOptions()
	for range 4000 {
		e := c.end(all)
		if !impl.EndRight(e) {
			t.Fatalf("right: %+v", e)
		}
		e.State = int64(c.below(12)) - 1
		if got := impl.EndRight(e); got != endRightByRule(e) {
			t.Fatalf("%v: %+v", got, e)
		}
	}
}

func TestEndDoThatIsKnown(t *testing.T) {
	c := impl.Config{Mru: 100, Accm: top32, Magic: 258}
	x := impl.EndDo(impl.EndNew(c), "Open", 5)
	wantEndOut(t, "Open in 0", x, impl.EndOut{End: impl.End{Config: c, Asks: c, State: 1, Due: -1}, Told: []string{"tls"}})
	x = impl.EndDo(x.End, "Up", 6)
	mine := []impl.Option{{Kind: 1, Data: "\x00\x64"}, {Kind: 5, Data: "\x00\x00\x01\x02"}}
	sent := impl.End{Config: c, Asks: c, State: 6, Tries: 4, Due: 9, Id: 1, Mine: mine}
	wantEndOut(t, "Up in 1", x, impl.EndOut{End: sent, Send: []impl.Packet{{Code: 1, Id: 1, Data: "\x01\x04\x00\x64\x05\x06\x00\x00\x01\x02"}}})
	x = impl.EndDo(x.End, "Close", 7)
	sent.State, sent.Due, sent.Id = 4, 10, 2
	wantEndOut(t, "Close in 6", x, impl.EndOut{End: sent, Send: []impl.Packet{{Code: 5, Id: 2}}})
	x = impl.EndDo(x.End, "Open", 8)
	sent.State = 5
	wantEndOut(t, "Open in 4", x, impl.EndOut{End: sent})
	x = impl.EndDo(x.End, "Down", 9)
	sent.State, sent.Due = 1, -1
	wantEndOut(t, "Down in 5", x, impl.EndOut{End: sent})
	x = impl.EndDo(x.End, "Close", 9)
	sent.State = 0
	wantEndOut(t, "Close in 1", x, impl.EndOut{End: sent, Told: []string{"tlf"}})
}

func TestEndDoIsByTheRule(t *testing.T) {
	for _, e := range endsInEachState() {
		for _, now := range append(endTimes(), wrongTimes()...) {
			for _, event := range append(fsmEvents(), wrongEvents()...) {
				wantEndOut(t, fmt.Sprintf("EndDo in %d of %.20q at %d", e.State, event, now), impl.EndDo(e, event, now), doByRule(t, e, event, now))
			}
		}
	}
	c, all := &chance{n: 8}, policyOptions()
	for range 4000 {
		e := c.end(all)
		event := []string{"Up", "Down", "Open", "Close"}[c.below(4)]
		now := endTimes()[c.below(7)]
		wantEndOut(t, fmt.Sprintf("EndDo of %s at %d", event, now), impl.EndDo(e, event, now), doByRule(t, e, event, now))
	}
}

func TestUpForgetsWhatWasGivenUp(t *testing.T) {
	for _, state := range []int64{0, 1} {
		e := endIn(state)
		e.Fails = 3
		x := impl.EndDo(e, "Up", 5)
		if x.Code != impl.OK || x.End.Asks != e.Config || x.End.Fails != 0 {
			t.Errorf("state %d: %+v", state, x)
		}
		if state == 1 && !slices.Equal(x.End.Mine, askByRule(e.Config)) {
			t.Errorf("asked for %s", shown(x.End.Mine))
		}
	}
	for _, x := range []struct {
		state int64
		event string
	}{{9, "Down"}, {2, "Open"}, {0, "Open"}, {9, "Close"}} {
		e := endIn(x.state)
		if got := impl.EndDo(e, x.event, 5); got.Code != impl.OK || got.End.Asks != e.Asks || got.End.Fails != e.Fails {
			t.Errorf("%s in %d: %+v", x.event, x.state, got)
		}
	}
}

func wrongEnds() []impl.End {
	var out []impl.End
	for _, x := range endChanges() {
		for _, state := range []int64{1, 6, 9} {
			if !x.right {
				out = append(out, changed(endIn(state), x.change))
			}
		}
	}
	for _, e := range endsInEachState() {
		up, due, in := e, e, e
		up.Up = !e.Up
		due.Due = -1 - e.Due
		if e.State == 9 || e.State < 4 {
			due.Due = 50
		}
		in.In.Mru++
		out = append(out, up, due, in)
	}
	return append(out, impl.End{})
}

func TestFaultsOfAnEndInTheirOrder(t *testing.T) {
	long := strings.Repeat("Up", 4000)
	for _, e := range wrongEnds() {
		for _, now := range []int64{-1, 0, 60, topTime + 1} {
			for _, event := range []string{"Up", "Down", "Open", "Close", "TO+", "", "none", long} {
				wantCode(t, "EndDo of a wrong end", impl.EndDo(e, event, now), impl.ErrForm)
			}
			wantCode(t, "EndDo of a wrong end, and a long text", impl.EndDo(e, long+"U", now), impl.ErrSize)
			wantCode(t, "EndTick of a wrong end", impl.EndTick(e, now), impl.ErrForm)
			for _, p := range []impl.Packet{{Code: 9, Data: "abcd"}, {Code: 7}, {Code: 1, Data: "x"}, {Code: 256}} {
				wantCode(t, "EndHear of a wrong end", impl.EndHear(e, p, now), impl.ErrForm)
			}
		}
	}
	for _, e := range endsInEachState() {
		for _, event := range append(wrongEvents(), fsmEvents()[4:]...) {
			wantCode(t, "an event that is none, at a wrong time", impl.EndDo(e, event, -1), impl.ErrForm)
			wantCode(t, "an event that is none", impl.EndDo(e, event, 0), impl.ErrNone)
		}
		wantCode(t, "the most bytes", impl.EndDo(e, long, 0), impl.ErrNone)
		wantCode(t, "the most bytes, at a wrong time", impl.EndDo(e, long, -1), impl.ErrForm)
		wantCode(t, "one byte more", impl.EndDo(e, long+"U", 0), impl.ErrSize)
		wantCode(t, "one byte more, at a wrong time", impl.EndDo(e, long+"U", topTime+1), impl.ErrSize)
		for _, p := range wrongPackets() {
			wantCode(t, "a packet that is not right", impl.EndHear(e, p, 0), impl.ErrForm)
		}
	}
	for _, e := range endsInEachState()[2:] {
		wantCode(t, "Up, where there is none", impl.EndDo(e, "Up", 0), impl.ErrState)
	}
	for _, e := range endsInEachState()[:2] {
		wantCode(t, "Down, where there is none", impl.EndDo(e, "Down", 0), impl.ErrState)
		for code := range int64(256) {
			for _, data := range []string{"", "x", "\x01", longText(250)} {
				wantCode(t, "a packet, where none is heard", impl.EndHear(e, impl.Packet{Code: code, Id: e.Id, Data: data}, 0), impl.ErrState)
			}
		}
	}
}

func TestTimesOfAnEnd(t *testing.T) {
	for _, e := range endsInEachState() {
		for _, now := range wrongTimes() {
			for _, event := range []string{"Up", "Down", "Open", "Close"} {
				wantCode(t, "EndDo at a wrong time", impl.EndDo(e, event, now), impl.ErrForm)
			}
			wantCode(t, "EndTick at a wrong time", impl.EndTick(e, now), impl.ErrForm)
			wantCode(t, "EndHear at a wrong time", impl.EndHear(e, impl.Packet{Code: 5}, now), impl.ErrForm)
		}
	}
	for _, now := range []int64{0, topTime} {
		if x := impl.EndDo(endIn(2), "Open", now); x.Code != impl.OK || x.End.Due != now+3 || !impl.EndRight(x.End) {
			t.Errorf("at %d: %+v", now, x)
		}
	}
}

func TestTickAtDueAndBelowIt(t *testing.T) {
	for _, e := range endsInEachState() {
		for _, due := range []int64{0, 1, 50, topTime - 1, topTime, topTime + 1, topDue} {
			if waitsByRule(e.State) {
				e.Due = due
			}
			for _, tries := range []int64{0, 1, 2, 5} {
				e.Tries = tries
				for _, now := range []int64{due - 1, due, due + 1, 0, topTime, topTime + 1} {
					what := fmt.Sprintf("EndTick in %d, due %d, tries %d, at %d", e.State, e.Due, tries, now)
					wantEndOut(t, what, impl.EndTick(e, now), tickByRule(t, e, now))
				}
			}
		}
	}
	for state := int64(4); state <= 8; state++ {
		e := endIn(state)
		wantCode(t, "one below Due", impl.EndTick(e, 49), impl.ErrState)
		if x := impl.EndTick(e, 50); x.Code != impl.OK || len(x.Send) != 1 || x.End.Tries != 1 || x.End.Due != 53 || x.End.Id != 42 {
			t.Errorf("at Due: %+v", x)
		}
		e.Tries = 1
		if x := impl.EndTick(e, 60); x.Code != impl.OK || len(x.Send) != 1 || x.End.Tries != 0 || x.End.Due != 63 {
			t.Errorf("the last try: %+v", x)
		}
		e.Tries = 0
		if x := impl.EndTick(e, 60); x.Code != impl.OK || len(x.Send) != 0 || x.End.Due != -1 || x.End.Id != 41 || !slices.Equal(x.Told, []string{"tlf"}) {
			t.Errorf("no try left: %+v", x)
		}
	}
	for _, state := range []int64{0, 1, 2, 3, 9} {
		wantCode(t, "without Due", impl.EndTick(endIn(state), topTime), impl.ErrState)
	}
}

// RTA, RCA and RCN have places where a request is sent without irc ahead of it.
func TestTriesAreNotBelowZero(t *testing.T) {
	for _, tries := range []int64{0, 1, 5} {
		for _, state := range []int64{7, 9} {
			e := endIn(state)
			e.Tries = tries
			x := impl.EndHear(e, impl.Packet{Code: impl.CfAck, Id: e.Id, Data: optionsBytesByRule(e.Mine)}, 50)
			if x.Code != impl.OK || x.End.State != 6 || x.End.Tries != max(0, tries-1) || x.End.Due != 53 || !impl.EndRight(x.End) {
				t.Errorf("state %d, tries %d: %+v", state, tries, x)
			}
		}
	}
}

func TestIdGoesFromTheLastToNought(t *testing.T) {
	for _, id := range []int64{0, 1, 254, 255} {
		next := []int64{1, 2, 255, 0}[slices.Index([]int64{0, 1, 254, 255}, id)]
		for _, e := range endsInEachState() {
			e.Id = id
			asks, ends := impl.EndDo(e, "Open", 5), impl.EndDo(e, "Close", 5)
			rejects := impl.EndHear(e, impl.Packet{Code: 8, Id: 77}, 5)
			for _, x := range []impl.EndOut{asks, ends, rejects} {
				want := id
				if len(x.Send) > 0 {
					want = next
				}
				if x.Code == impl.OK && (x.End.Id != want || len(x.Send) > 0 && x.Send[0].Id != next) {
					t.Errorf("state %d, Id %d: %+v", e.State, id, x)
				}
			}
		}
	}
	e := endIn(2)
	e.Id = 255
	if x := impl.EndDo(e, "Open", 5); x.End.Id != 0 || len(x.Send) != 1 || x.Send[0].Id != 0 {
		t.Errorf("behind 255: %+v", x)
	}
}

func wantHear(t *testing.T, what string, e impl.End, p impl.Packet, now int64) impl.EndOut {
	t.Helper()
	got := impl.EndHear(e, p, now)
	wantEndOut(t, fmt.Sprintf("%s: in %d of %s at %d", what, e.State, shownPacket(p), now), got, hearByRule(t, e, p, now))
	return got
}

func TestHearOfEachCodeInEachState(t *testing.T) {
	for _, e := range endsInEachState() {
		mine := optionsBytesByRule(e.Mine)
		for code := range int64(256) {
			for _, data := range []string{"", "\x00", "\x01", "\x07", "\x08", "abc", "abcd", "abcde", mine, mine + "\x07\x02", longText(246), longText(247), longText(250)} {
				for _, id := range []int64{e.Id, e.Id + 1, 0, 255} {
					wantHear(t, "each code", e, impl.Packet{Code: code, Id: id, Data: data}, 60)
				}
			}
		}
	}
}

func TestHearIsByTheRule(t *testing.T) {
	c, all := &chance{n: 9}, policyOptions()
	heard := 0
	for range 30000 {
		e := c.end(all)
		p := c.packetTo(e, all)
		if x := wantHear(t, "by chance", e, p, endTimes()[c.below(7)]); x.Code == impl.OK {
			heard++
		}
	}
	if heard < 10000 {
		t.Errorf("only %d were heard", heard)
	}
}

func TestHearOfARequest(t *testing.T) {
	rejected := "\x08\x02"
	for _, x := range []struct {
		what         string
		state, fails int64
		data         string
		next         int64
		send         []impl.Packet
		failsThen    int64
		told         []string
	}{
		{"agreed to", 6, 2, "\x01\x04\x00\x50", 8, []impl.Packet{{Code: 2, Id: 9, Data: "\x01\x04\x00\x50"}}, 0, nil},
		{"agreed to, without Options", 6, 2, "", 8, []impl.Packet{{Code: 2, Id: 9}}, 0, nil},
		{"agreed to, behind an ack", 7, 2, "\x01\x04\x00\x50", 9, []impl.Packet{{Code: 2, Id: 9, Data: "\x01\x04\x00\x50"}}, 0, []string{"tlu"}},
		{"agreed to, while closed", 2, 2, "\x01\x04\x00\x50", 2, []impl.Packet{{Code: 6, Id: 9}}, 2, nil},
		{"agreed to, while closing", 4, 2, "\x01\x04\x00\x50", 4, nil, 2, nil},
		{"naked", 6, 0, "\x01\x04\x00\x3f\x07\x02", 6, []impl.Packet{{Code: 3, Id: 9, Data: "\x01\x04\x00\xc8"}}, 1, nil},
		{"naked, for the last time", 8, 2, "\x01\x04\x00\x3f", 6, []impl.Packet{{Code: 3, Id: 9, Data: "\x01\x04\x00\xc8"}}, 3, nil},
		{"naked too often", 7, 3, "\x07\x02\x01\x04\x00\x3f\x09\x03\x07", 7, []impl.Packet{{Code: 4, Id: 9, Data: "\x01\x04\x00\x3f\x09\x03\x07"}}, 3, nil},
		{"naked, while closed", 2, 0, "\x01\x04\x00\x3f", 2, []impl.Packet{{Code: 6, Id: 9}}, 0, nil},
		{"naked, while closing", 5, 1, "\x01\x04\x00\x3f", 5, nil, 1, nil},
		{"naked of Asks' Magic", 6, 0, "\x05\x06\x00\x00\x00\x0a", 6, []impl.Packet{{Code: 3, Id: 9, Data: "\x05\x06\x00\x00\x00\x57"}}, 1, nil},
		{"agreed to of the Config's Magic", 6, 1, "\x05\x06\x00\x00\x00\x09", 8, []impl.Packet{{Code: 2, Id: 9, Data: "\x05\x06\x00\x00\x00\x09"}}, 0, nil},
		{"agreed to of the Config's Wide, and not of Asks'", 6, 1, "\x09\x03\x04\x07\x02", 8, []impl.Packet{{Code: 2, Id: 9, Data: "\x09\x03\x04\x07\x02"}}, 0, nil},
		{"rejected", 6, 1, rejected, 6, []impl.Packet{{Code: 4, Id: 9, Data: rejected}}, 1, nil},
		{"rejected, and not naked", 6, 1, "\x01\x04\x00\x3f" + rejected, 6, []impl.Packet{{Code: 4, Id: 9, Data: rejected}}, 1, nil},
		{"rejected, behind the most naks", 6, 3, "\x01\x04\x00\x3f" + rejected, 6, []impl.Packet{{Code: 4, Id: 9, Data: rejected}}, 3, nil},
	} {
		e := endIn(x.state)
		e.Fails = x.fails
		got := wantHear(t, x.what, e, impl.Packet{Code: impl.CfRequest, Id: 9, Data: x.data}, 60)
		if got.Code != impl.OK || got.End.State != x.next || !slices.Equal(got.Send, x.send) || got.End.Fails != x.failsThen || !slices.Equal(got.Told, x.told) {
			t.Errorf("%s: %+v", x.what, got)
		}
	}
}

func TestHearOfARequestWhileStoppedAndOpened(t *testing.T) {
	request := impl.Packet{Code: impl.CfRequest, Id: 9, Data: "\x01\x04\x00\x50"}
	asked := "\x01\x04\x00\xc8\x02\x06\x00\x00\x00\x01\x05\x06\x00\x00\x00\x0a"
	sent := []impl.Packet{{Code: 1, Id: 42, Data: asked}, {Code: 2, Id: 9, Data: request.Data}}
	for _, x := range []struct {
		state, tries int64
		told         []string
	}{{3, 4, nil}, {9, 1, []string{"tld"}}} {
		got := wantHear(t, "two are sent", endIn(x.state), request, 60)
		if got.End.State != 8 || got.End.Tries != x.tries || got.End.Due != 63 || !slices.Equal(got.Send, sent) || !slices.Equal(got.Told, x.told) {
			t.Errorf("state %d: %+v", x.state, got)
		}
	}
}

func TestHearOfDataThatAreNoOptions(t *testing.T) {
	for _, e := range endsInEachState()[2:] {
		for _, data := range []string{"\x01", "\x00\x02", "\x01\x01", "\x01\x05ab", "\x01\x17" + longText(21), "\x07\x02\x08", strings.Repeat("\x07\x02", 21)} {
			for _, code := range []int64{impl.CfRequest, impl.CfNak, impl.CfReject} {
				wantCode(t, "no Options' bytes", impl.EndHear(e, impl.Packet{Code: code, Id: e.Id, Data: data}, 0), impl.ErrSyntax)
			}
			for _, code := range []int64{impl.CfNak, impl.CfReject} {
				wantCode(t, "no Options' bytes, of another Id", impl.EndHear(e, impl.Packet{Code: code, Id: e.Id + 1, Data: data}, 0), impl.ErrState)
			}
		}
	}
}

func TestHearOfAnAck(t *testing.T) {
	for _, e := range endsInEachState()[2:] {
		mine := optionsBytesByRule(e.Mine)
		for _, id := range []int64{0, e.Id - 1, e.Id + 1, 255} {
			wantCode(t, "another Id", impl.EndHear(e, impl.Packet{Code: impl.CfAck, Id: id, Data: mine}, 0), impl.ErrState)
		}
		for _, data := range []string{"", mine[:len(mine)-1], mine + "\x00", turned(mine, 3, 1), mine[4:] + mine[:4], optionsBytesByRule(e.Peer), "\x01"} {
			wantCode(t, "other Data", impl.EndHear(e, impl.Packet{Code: impl.CfAck, Id: e.Id, Data: data}, 0), impl.ErrState)
		}
		if x := wantHear(t, "an ack", e, impl.Packet{Code: impl.CfAck, Id: e.Id, Data: mine}, 60); x.Code != impl.OK {
			t.Errorf("state %d: %+v", e.State, x)
		}
	}
	e := endIn(8)
	x := impl.EndHear(e, impl.Packet{Code: impl.CfAck, Id: e.Id, Data: optionsBytesByRule(e.Mine)}, 60)
	up := endIn(9)
	up.Tries = 5
	wantEndOut(t, "opened", x, impl.EndOut{End: up, Told: []string{"tlu"}})
	x = impl.EndHear(endIn(6), impl.Packet{Code: impl.CfAck, Id: 41, Data: optionsBytesByRule(e.Mine)}, 60)
	acked := endIn(7)
	acked.Tries, acked.Due = 5, 63
	wantEndOut(t, "an ack ahead of one's own", x, impl.EndOut{End: acked})
}

func TestHearOfANakAndAReject(t *testing.T) {
	for _, e := range endsInEachState()[2:] {
		for _, x := range []struct {
			what string
			code int64
			data string
			asks impl.Config
		}{
			{"nak of Mru", impl.CfNak, "\x01\x04\x00\x46", impl.Config{Mru: 70, Accm: 1, Magic: 10}},
			{"nak of a wrong Mru", impl.CfNak, "\x01\x04\x00\x3f", e.Asks},
			{"nak of Magic", impl.CfNak, "\x05\x06\x00\x00\x00\x57", impl.Config{Mru: 200, Accm: 1, Magic: 87}},
			{"nak of nothing", impl.CfNak, "", e.Asks},
			{"reject of Mru", impl.CfReject, "\x01\x04\x00\x46", impl.Config{Mru: 300, Accm: 1, Magic: 10}},
			{"reject of two", impl.CfReject, "\x02\x06\x00\x00\x00\x01\x05\x06\x00\x00\x00\x0a", impl.Config{Mru: 200, Accm: top32}},
			{"reject of nothing", impl.CfReject, "", e.Asks},
		} {
			got := wantHear(t, x.what, e, impl.Packet{Code: x.code, Id: e.Id, Data: x.data}, 60)
			if got.Code != impl.OK || got.End.Asks != x.asks || got.End.Config != e.Config {
				t.Errorf("%s in %d: %+v", x.what, e.State, got)
			}
			if e.State >= 6 && (len(got.Send) != 1 || got.Send[0] != impl.Packet{Code: 1, Id: 42, Data: optionsBytesByRule(askByRule(x.asks))}) {
				t.Errorf("%s in %d: sent %+v", x.what, e.State, got.Send)
			}
			wantCode(t, "of another Id", impl.EndHear(e, impl.Packet{Code: x.code, Id: e.Id + 1, Data: x.data}, 60), impl.ErrState)
		}
	}
}

func TestHearOfACodeReject(t *testing.T) {
	for _, e := range endsInEachState()[2:] {
		wantCode(t, "no Data", impl.EndHear(e, impl.Packet{Code: impl.CdReject, Id: 3}, 60), impl.ErrShort)
		mild := e.State
		if e.State == 7 {
			mild = 6
		}
		hard := []int64{0, 0, 2, 3, 2, 3, 3, 3, 3, 5}[e.State]
		for first := range 256 {
			for _, more := range []string{"", "\x01", "\x09\x00"} {
				want := mild
				if first >= 1 && first <= 7 {
					want = hard
				}
				x := wantHear(t, "a code reject", e, impl.Packet{Code: impl.CdReject, Id: 3, Data: oneByte(first) + more}, 60)
				if x.Code != impl.OK || x.End.State != want {
					t.Errorf("state %d, first byte %d: %+v", e.State, first, x)
				}
			}
		}
	}
}

func TestHearOfAnEcho(t *testing.T) {
	e := endIn(9)
	e.Asks.Magic = 0x01020304
	for _, x := range []struct {
		what string
		p    impl.Packet
		send []impl.Packet
	}{
		{"three bytes", impl.Packet{Code: 9, Id: 7, Data: "abc"}, nil},
		{"no byte", impl.Packet{Code: 9, Id: 7}, nil},
		{"four bytes", impl.Packet{Code: 9, Id: 7, Data: "abcd"}, []impl.Packet{{Code: 10, Id: 7, Data: "\x01\x02\x03\x04"}}},
		{"five bytes", impl.Packet{Code: 9, Id: 255, Data: "abcde"}, []impl.Packet{{Code: 10, Id: 255, Data: "\x01\x02\x03\x04e"}}},
		{"the most bytes", impl.Packet{Code: 9, Id: 0, Data: longText(250)}, []impl.Packet{{Code: 10, Id: 0, Data: "\x01\x02\x03\x04" + longText(250)[4:]}}},
		{"a reply", impl.Packet{Code: 10, Id: 7, Data: "abcde"}, nil},
		{"what is discarded", impl.Packet{Code: 11, Id: 7, Data: "abcde"}, nil},
	} {
		wantEndOut(t, x.what, impl.EndHear(e, x.p, 60), impl.EndOut{End: e, Send: x.send})
		for _, other := range endsInEachState()[2:9] {
			wantEndOut(t, x.what+", not opened", impl.EndHear(other, x.p, 60), impl.EndOut{End: other})
		}
	}
}

func TestHearOfAnUnknownCode(t *testing.T) {
	for _, e := range endsInEachState()[2:] {
		for _, code := range []int64{0, 8, 12, 255} {
			for size := range 251 {
				p := impl.Packet{Code: code, Id: 200, Data: longText(size)}
				text := oneByte(int(code)) + "\xc8\x00" + oneByte(size+4) + longText(size)
				want := e
				want.Id = 42
				wantEndOut(t, "an unknown code", impl.EndHear(e, p, 60), impl.EndOut{End: want, Send: []impl.Packet{{Code: 7, Id: 42, Data: text[:min(250, len(text))]}}})
			}
		}
	}
}

func TestHearOfARequestToEnd(t *testing.T) {
	for _, e := range endsInEachState()[2:] {
		x := wantHear(t, "a request to end", e, impl.Packet{Code: impl.TmRequest, Id: 200, Data: "bye"}, 60)
		if !slices.Equal(x.Send, []impl.Packet{{Code: 6, Id: 200}}) {
			t.Errorf("state %d: %+v", e.State, x)
		}
		wantHear(t, "an ack to end", e, impl.Packet{Code: impl.TmAck, Id: 200, Data: "bye"}, 60)
	}
	want := endIn(5)
	want.Tries, want.Due = 0, 63
	x := impl.EndHear(endIn(9), impl.Packet{Code: impl.TmRequest, Id: 200}, 60)
	wantEndOut(t, "while opened", x, impl.EndOut{End: want, Send: []impl.Packet{{Code: 6, Id: 200}}, Told: []string{"tld"}})
}

// keepsPromise looks at what a call handed back, and tells whether it came to be up.
func keepsPromise(t *testing.T, before impl.End, x impl.EndOut) bool {
	t.Helper()
	if x.Code != impl.OK {
		wantCode(t, "beside a code", x, x.Code)
		return false
	}
	if !impl.EndRight(x.End) || !endRightByRule(x.End) {
		t.Fatalf("a right end is not right any more:\n%+v\n%+v", before, x)
	}
	for _, p := range x.Send {
		if impl.PacketBytes(p) == "" {
			t.Fatalf("a packet is sent that is not right: %s", shownPacket(p))
		}
	}
	rises, falls := x.End.Up && !before.Up, before.Up && !x.End.Up
	if slices.Contains(x.Told, "tlu") != rises || slices.Contains(x.Told, "tld") != falls {
		t.Fatalf("Up was %v, is %v, and told are %q", before.Up, x.End.Up, x.Told)
	}
	return rises
}

// step is one call of an end that is on its way, at a time that goes on.
func (c *chance) step(e impl.End, now int64, all []impl.Option) impl.EndOut {
	switch c.below(8) {
	case 0:
		return impl.EndDo(e, []string{"Up", "Down", "Open", "Close", "Up", "Open", "TO+", ""}[c.below(8)], now)
	case 1:
		return impl.EndTick(e, now)
	case 2:
		return impl.EndHear(e, impl.Packet{Code: 1, Id: 3, Data: optionsBytesByRule(askByRule(impl.Config{Mru: 300, Accm: top32}))}, now)
	case 3:
		return impl.EndHear(e, impl.Packet{Code: 2, Id: e.Id, Data: optionsBytesByRule(e.Mine)}, now)
	}
	return impl.EndHear(e, c.packetTo(e, all), now)
}

// Promise 7.
func TestARightEndStaysRight(t *testing.T) {
	c, all := &chance{n: 10}, policyOptions()
	rises := 0
	for _, config := range rightConfigs() {
		e, now := impl.EndNew(config), int64(0)
		for range 40 {
			x := c.step(e, now, all)
			if keepsPromise(t, e, x) {
				rises++
			}
			if x.Code == impl.OK {
				e = x.End
			}
			now += int64(c.below(3))
		}
	}
	if rises < 1000 {
		t.Errorf("only %d came to be up", rises)
	}
}

// Promise 7 over ways that end with the greatest time.
func TestARightEndStaysRightAtTheLastTime(t *testing.T) {
	c, all := &chance{n: 11}, policyOptions()
	for _, config := range fewConfigs() {
		e := impl.EndNew(config)
		for at := range 3000 {
			x := c.step(e, min(topTime, topTime-1500+int64(at)), all)
			keepsPromise(t, e, x)
			if x.Code == impl.OK {
				e = x.End
			}
		}
	}
}

// Promise 7 from each right end on, whether it could be come to or not.
func TestEachRightEndStaysRight(t *testing.T) {
	c, all := &chance{n: 12}, policyOptions()
	for range 20000 {
		e, now := c.end(all), endTimes()[c.below(7)]
		for range 3 {
			x := c.step(e, now, all)
			keepsPromise(t, e, x)
			if x.Code == impl.OK {
				e = x.End
			}
		}
	}
}

// TestTwoEndsComeToBeUp lets two ends hear each other, with nothing lost.
func TestTwoEndsComeToBeUp(t *testing.T) {
	for _, one := range fewConfigs() {
		for _, other := range fewConfigs() {
			ends := [2]impl.End{impl.EndNew(one), impl.EndNew(other)}
			var lines [2][]impl.Packet
			turn := func(at int, x impl.EndOut) {
				keepsPromise(t, ends[at], x)
				if x.Code == impl.OK {
					ends[at] = x.End
					lines[at] = append(lines[at], x.Send...)
				}
			}
			for at := range ends {
				turn(at, impl.EndDo(ends[at], "Open", 0))
				turn(at, impl.EndDo(ends[at], "Up", 0))
			}
			for range 60 {
				for at := range ends {
					if len(lines[at]) > 0 {
						p := lines[at][0]
						lines[at] = lines[at][1:]
						turn(1-at, impl.EndHear(ends[1-at], p, 1))
					}
				}
			}
			a, b := ends[0], ends[1]
			if !a.Up || !b.Up || a.In != b.Out || a.Out != b.In {
				t.Errorf("%+v and %+v:\n%+v\n%+v", one, other, a, b)
			}
		}
	}
}

// roomyEnd has lists with room behind them, and texts that lie in memory of their own.
func roomyEnd(e impl.End) impl.End {
	room := func(l []impl.Option) []impl.Option {
		out := make([]impl.Option, 0, len(l)+4)
		for _, o := range l {
			out = append(out, impl.Option{Kind: o.Kind, Data: strings.Clone(o.Data)})
		}
		return out
	}
	e.Mine, e.Peer = room(e.Mine), room(e.Peer)
	return e
}

func copiedEnd(e impl.End) impl.End {
	e.Mine, e.Peer = slices.Clone(e.Mine), slices.Clone(e.Peer)
	return e
}

// wholeRoom is a copy of both lists of an end, with the room behind them.
func wholeRoom(e impl.End) []impl.Option {
	return slices.Concat(e.Mine[:cap(e.Mine)], e.Peer[:cap(e.Peer)])
}

func optionTexts(lists ...[]impl.Option) []string {
	var out []string
	for _, l := range lists {
		for _, o := range l {
			// Texts of one byte stand in one place for the whole program.
			if len(o.Data) > 1 {
				out = append(out, o.Data)
			}
		}
	}
	return out
}

func wantNothingShared(t *testing.T, what string, e impl.End, p impl.Packet, x impl.EndOut) {
	t.Helper()
	given := append(optionTexts(e.Mine, e.Peer), p.Data)
	mine, peer := optionTexts(x.End.Mine), optionTexts(x.End.Peer)
	var sent []string
	for _, q := range x.Send {
		sent = append(sent, q.Data)
	}
	wantApart(t, what, given, mine, peer, sent)
}

// wantApart: no text of one group lies in the memory of one of another group.
func wantApart(t *testing.T, what string, groups ...[]string) {
	t.Helper()
	for at, one := range groups {
		for _, other := range groups[at+1:] {
			for _, a := range one {
				for _, b := range other {
					// Texts of one byte stand in one place for the whole program.
					if len(a) > 1 && len(b) > 1 && sharesText(a, b) {
						t.Errorf("%s: %q and %q share memory", what, a, b)
					}
				}
			}
		}
	}
}

// spoil writes over all that was handed back, and behind it.
func spoil(x impl.EndOut) {
	bad := impl.Option{Kind: 99, Data: "spoilt"}
	for _, l := range [][]impl.Option{x.End.Mine, x.End.Peer} {
		for at := range l {
			l[at] = bad
		}
		_ = append(l, bad, bad)
	}
	for at := range x.Send {
		x.Send[at] = impl.Packet{}
	}
	for at := range x.Told {
		x.Told[at] = "spoilt"
	}
}

func TestEndsShareNoMemory(t *testing.T) {
	c, all := &chance{n: 13}, policyOptions()
	for range 3000 {
		e := roomyEnd(c.end(all))
		if c.below(4) == 0 {
			e.Mine = nil
			e = withLines(e)
		}
		p := c.packetTo(e, all)
		p.Data = strings.Clone(p.Data)
		event := []string{"Up", "Down", "Open", "Close"}[c.below(4)]
		calls := []func() impl.EndOut{
			func() impl.EndOut { return impl.EndDo(e, event, 60) },
			func() impl.EndOut { return impl.EndTick(e, 600) },
			func() impl.EndOut { return impl.EndHear(e, p, 60) },
		}
		before, room := copiedEnd(e), wholeRoom(e)
		for at, call := range calls {
			what := fmt.Sprintf("call %d in %d", at, e.State)
			x, again := call(), call()
			wantNothingShared(t, what, e, p, x)
			want := impl.EndOut{End: copiedEnd(again.End), Send: slices.Clone(again.Send), Told: slices.Clone(again.Told), Code: again.Code}
			spoil(x)
			if !sameEnd(e, before) || !slices.Equal(wholeRoom(e), room) {
				t.Fatalf("%s: what was handed in is changed: %+v", what, e)
			}
			wantEndOut(t, what+", kept from call to call", again, want)
			wantEndOut(t, what+", once more", call(), want)
		}
	}
}

// Of two lists of one answer, what is written into the one is not seen in the other.
func TestListsOfOneEndShareNoMemory(t *testing.T) {
	e := endIn(6)
	l := []impl.Option{{Kind: 1, Data: "\x00\xc8"}, {Kind: 7}, {Kind: 8}}[:2]
	e.Mine, e.Peer = l, l
	for _, call := range []func() impl.EndOut{
		func() impl.EndOut { return impl.EndDo(e, "Open", 60) },
		func() impl.EndOut { return impl.EndHear(e, impl.Packet{Code: 8}, 60) },
		func() impl.EndOut { return impl.EndHear(e, impl.Packet{Code: 1, Data: "\x01\x04\x00\xc8\x07\x02"}, 60) },
	} {
		x := call()
		x.End.Mine[0] = impl.Option{Kind: 99}
		_ = append(x.End.Mine, impl.Option{Kind: 99})
		if x.End.Peer[0] != (impl.Option{Kind: 1, Data: "\x00\xc8"}) || l[0].Kind != 1 || l[:3][2].Kind != 8 {
			t.Errorf("seen in the other one: %+v", x.End)
		}
	}
}
