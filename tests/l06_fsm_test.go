package tests

import (
	"math"
	"slices"
	"strings"
	"testing"

	"loop.example/g00351/impl"
)

// fsmTable is the table of chapter 7 as it stands there.
const fsmTable = `
| Up | /2 | irc scr/6 | - | - | - | - | - | - | - | - |
| Down | - | - | /0 | tls/1 | /0 | /1 | /1 | /1 | /1 | tld/1 |
| Open | tls/1 | /1 | irc scr/6 | /3 | /5 | /5 | /6 | /7 | /8 | /9 |
| Close | /0 | tlf/0 | /2 | /2 | /4 | /4 | irc str/4 | irc str/4 | irc str/4 | tld irc str/4 |
| TO+ | - | - | - | - | str/4 | str/5 | scr/6 | scr/6 | scr/8 | - |
| TO- | - | - | - | - | tlf/2 | tlf/3 | tlf/3 | tlf/3 | tlf/3 | - |
| RCR+ | - | - | sta/2 | irc scr sca/8 | /4 | /5 | sca/8 | sca tlu/9 | sca/8 | tld scr sca/8 |
| RCR- | - | - | sta/2 | irc scr scn/6 | /4 | /5 | scn/6 | scn/7 | scn/6 | tld scr scn/6 |
| RCA | - | - | sta/2 | sta/3 | /4 | /5 | irc/7 | scr/6 | irc tlu/9 | tld scr/6 |
| RCN | - | - | sta/2 | sta/3 | /4 | /5 | irc scr/6 | scr/6 | irc scr/8 | tld scr/6 |
| RTR | - | - | sta/2 | sta/3 | sta/4 | sta/5 | sta/6 | sta/6 | sta/6 | tld zrc sta/5 |
| RTA | - | - | /2 | /3 | tlf/2 | tlf/3 | /6 | /6 | /8 | tld scr/6 |
| RUC | - | - | scj/2 | scj/3 | scj/4 | scj/5 | scj/6 | scj/7 | scj/8 | scj/9 |
| RXJ+ | - | - | /2 | /3 | /4 | /5 | /6 | /6 | /8 | /9 |
| RXJ- | - | - | tlf/2 | tlf/3 | tlf/2 | tlf/3 | tlf/3 | tlf/3 | tlf/3 | tld irc str/5 |
| RXR | - | - | /2 | /3 | /4 | /5 | /6 | /7 | /8 | ser/9 |
`

// fsmEvents are the sixteen, written once more, so that no test leans on FsmEvents.
func fsmEvents() []string {
	return []string{"Up", "Down", "Open", "Close", "TO+", "TO-", "RCR+", "RCR-", "RCA", "RCN", "RTR", "RTA", "RUC", "RXJ+", "RXJ-", "RXR"}
}

// placesByRule has the ten places of each event, as texts of the table.
func placesByRule(t *testing.T) map[string][]string {
	t.Helper()
	places := map[string][]string{}
	for row := range strings.Lines(strings.TrimSpace(fsmTable)) {
		cells := strings.Split(strings.Trim(strings.TrimSpace(row), "|"), "|")
		for at := range cells {
			cells[at] = strings.TrimSpace(cells[at])
		}
		if len(cells) != 11 {
			t.Fatalf("a row of %d cells: %q", len(cells), row)
		}
		places[cells[0]] = cells[1:]
	}
	if len(places) != 16 {
		t.Fatalf("a table of %d events", len(places))
	}
	return places
}

func turnByRule(place string, state int64) impl.Turn {
	actions, next, told := strings.Cut(place, "/")
	if !told {
		return impl.Turn{State: state, Code: impl.ErrState}
	}
	return impl.Turn{State: int64(next[0] - '0'), Actions: strings.Fields(actions)}
}

func sameTurn(a, b impl.Turn) bool {
	return a.State == b.State && a.Code == b.Code && slices.Equal(a.Actions, b.Actions)
}

func wantTurn(t *testing.T, state int64, event string, want impl.Turn) {
	t.Helper()
	if got := impl.Fsm(state, event); !sameTurn(got, want) {
		t.Errorf("Fsm(%d, %.20q): got %+v, want %+v", state, event, got, want)
	}
}

func wrongStates() []int64 {
	return []int64{-1, 10, 11, -9, 160, 256, 265, 1 << 32, 1<<32 + 9, -1 << 32, math.MinInt64, math.MaxInt64}
}

func wrongEvents() []string {
	return []string{
		"", " ", "-", "+", "/2", "0", "Event",
		"up", "UP", "uP", "DOWN", "open", "cLOSE", "to+", "to-", "rcr+", "Rca", "rxr",
		"Up ", " Up", "Up\n", "Up\x00", "\x00", "RCR +", "RCR+ ", " RCA", "RXR\t",
		"U", "D", "Op", "Clos", "TO", "RCR", "RC", "R", "RXJ", "RX", "RT",
		"Upp", "Opened", "Closed", "TO+-", "TO++", "RCR+-", "RCA+", "RXJ+RXJ-", "UpDown", "Up Down",
		"tlu", "sca", "irc scr", "TO\u2212", "\uff35p", "\xff",
	}
}

func TestStatesAreCounted(t *testing.T) {
	states := []int64{
		impl.StInitial, impl.StStarting, impl.StClosed, impl.StStopped, impl.StClosing,
		impl.StStopping, impl.StReqSent, impl.StAckRcvd, impl.StAckSent, impl.StOpened,
	}
	for at, state := range states {
		if state != int64(at) {
			t.Errorf("state %d is %d", at, state)
		}
	}
}

func TestEachPlaceOfTheTable(t *testing.T) {
	places := placesByRule(t)
	for _, event := range fsmEvents() {
		for state := range int64(10) {
			wantTurn(t, state, event, turnByRule(places[event][state], state))
		}
	}
}

func TestPlacesThatAreKnown(t *testing.T) {
	for _, w := range []struct {
		state int64
		event string
		want  impl.Turn
	}{
		{impl.StInitial, "Up", impl.Turn{State: impl.StClosed}},
		{impl.StStarting, "Up", impl.Turn{State: impl.StReqSent, Actions: []string{"irc", "scr"}}},
		{impl.StClosed, "Down", impl.Turn{State: impl.StInitial}},
		{impl.StStarting, "Close", impl.Turn{State: impl.StInitial, Actions: []string{"tlf"}}},
		{impl.StOpened, "Close", impl.Turn{State: impl.StClosing, Actions: []string{"tld", "irc", "str"}}},
		{impl.StStopped, "RCR+", impl.Turn{State: impl.StAckSent, Actions: []string{"irc", "scr", "sca"}}},
		{impl.StOpened, "RCR+", impl.Turn{State: impl.StAckSent, Actions: []string{"tld", "scr", "sca"}}},
		{impl.StAckRcvd, "RCR+", impl.Turn{State: impl.StOpened, Actions: []string{"sca", "tlu"}}},
		{impl.StAckSent, "RCA", impl.Turn{State: impl.StOpened, Actions: []string{"irc", "tlu"}}},
		{impl.StOpened, "RTR", impl.Turn{State: impl.StStopping, Actions: []string{"tld", "zrc", "sta"}}},
		{impl.StAckRcvd, "RXJ+", impl.Turn{State: impl.StReqSent}},
		{impl.StOpened, "RXR", impl.Turn{State: impl.StOpened, Actions: []string{"ser"}}},
		{impl.StOpened, "Up", impl.Turn{State: impl.StOpened, Code: impl.ErrState}},
		{impl.StInitial, "RXR", impl.Turn{State: impl.StInitial, Code: impl.ErrState}},
		{impl.StStopped, "TO+", impl.Turn{State: impl.StStopped, Code: impl.ErrState}},
	} {
		wantTurn(t, w.state, w.event, w.want)
	}
}

func TestStatesThatAreNone(t *testing.T) {
	for _, state := range wrongStates() {
		for _, event := range fsmEvents() {
			wantTurn(t, state, event, impl.Turn{Code: impl.ErrRange})
		}
	}
}

func TestEventsThatAreNone(t *testing.T) {
	for _, event := range wrongEvents() {
		for state := range int64(10) {
			wantTurn(t, state, event, impl.Turn{Code: impl.ErrNone})
		}
	}
}

func TestTheStateIsLookedAtAheadOfTheEvent(t *testing.T) {
	for _, state := range wrongStates() {
		for _, event := range wrongEvents() {
			wantTurn(t, state, event, impl.Turn{Code: impl.ErrRange})
		}
	}
}

func TestEventsUpToMostBytes(t *testing.T) {
	for _, text := range []string{longText(8000), strings.Repeat("Up", 4000), "Up" + strings.Repeat(" ", 7998)} {
		wantTurn(t, impl.StOpened, text, impl.Turn{Code: impl.ErrNone})
		wantTurn(t, 10, text, impl.Turn{Code: impl.ErrRange})
		for _, state := range append(wrongStates(), 0, 9) {
			wantTurn(t, state, text+"U", impl.Turn{Code: impl.ErrSize})
			wantTurn(t, state, text+text, impl.Turn{Code: impl.ErrSize})
		}
	}
}

func TestOpenedIsComeToByTwoAcksAlone(t *testing.T) {
	for _, event := range fsmEvents() {
		for state := range int64(10) {
			x := impl.Fsm(state, event)
			opens := state == impl.StAckRcvd && event == "RCR+" || state == impl.StAckSent && event == "RCA"
			comes := state != impl.StOpened && x.State == impl.StOpened
			leaves := state == impl.StOpened && x.State != impl.StOpened
			if comes != opens {
				t.Errorf("%s in %d: opened is %v, want %v", event, state, comes, opens)
			}
			if up := slices.Contains(x.Actions, "tlu"); up != opens {
				t.Errorf("%s in %d: tlu is %v, want %v", event, state, up, opens)
			}
			if down := slices.Contains(x.Actions, "tld"); down != leaves {
				t.Errorf("%s in %d: tld is %v, want %v", event, state, down, leaves)
			}
		}
	}
}

// TestOpenedBehindAnAckOfEachSide goes ways of many events, and looks at what was sent and heard on them.
func TestOpenedBehindAnAckOfEachSide(t *testing.T) {
	c := &chance{n: 6}
	opened, events := 0, fsmEvents()
	for range 400 {
		state, sent, heard := int64(impl.StInitial), false, false
		for range 200 {
			event := events[c.below(len(events))]
			x := impl.Fsm(state, event)
			if x.Code != impl.OK {
				continue
			}
			sent = sent || slices.Contains(x.Actions, "sca")
			heard = heard || event == "RCA" && state >= impl.StReqSent
			if state != impl.StOpened && x.State == impl.StOpened {
				opened++
				if !sent || !heard {
					t.Fatalf("%s in %d opens: an ack is sent %v, heard %v", event, state, sent, heard)
				}
			}
			if x.State < impl.StReqSent || state == impl.StOpened && x.State != impl.StOpened {
				sent, heard = x.State == impl.StAckSent, false
			}
			state = x.State
		}
	}
	if opened < 100 {
		t.Errorf("opened %d times", opened)
	}
}

func TestUpAndDownTakeTurns(t *testing.T) {
	c := &chance{n: 15}
	events := fsmEvents()
	state, up := int64(impl.StInitial), false
	for range 20000 {
		x := impl.Fsm(state, events[c.below(len(events))])
		for _, action := range x.Actions {
			if action == "tlu" && up || action == "tld" && !up {
				t.Fatalf("%s, and up is %v", action, up)
			}
			up = action == "tlu" || up && action != "tld"
		}
		state = x.State
		if up != (state == impl.StOpened) {
			t.Fatalf("up is %v in %d", up, state)
		}
	}
}

func TestEventsAreInTheOrderOfTheTable(t *testing.T) {
	if got := impl.FsmEvents(); !slices.Equal(got, fsmEvents()) {
		t.Errorf("got %q, want %q", got, fsmEvents())
	}
	for _, event := range impl.FsmEvents() {
		if impl.Fsm(impl.StInitial, event).Code == impl.ErrNone {
			t.Errorf("%q is none", event)
		}
	}
}

func TestWhatIsWrittenIntoEventsIsNotSeenInTheNext(t *testing.T) {
	one, two := impl.FsmEvents(), impl.FsmEvents()
	for at := range one {
		one[at] = "none"
	}
	_ = append(one[:0], "x", "y")
	if !slices.Equal(two, fsmEvents()) || !slices.Equal(impl.FsmEvents(), fsmEvents()) {
		t.Errorf("got %q and %q", two, impl.FsmEvents())
	}
	for _, event := range fsmEvents() {
		if impl.Fsm(impl.StInitial, event).Code == impl.ErrNone {
			t.Errorf("%q is none", event)
		}
	}
	wantTurn(t, impl.StInitial, "none", impl.Turn{Code: impl.ErrNone})
}

func TestWhatIsWrittenIntoActionsIsNotSeenInTheNext(t *testing.T) {
	places := placesByRule(t)
	for _, event := range fsmEvents() {
		for state := range int64(10) {
			one, two := impl.Fsm(state, event), impl.Fsm(state, event)
			for at := range one.Actions {
				one.Actions[at] = "none"
			}
			_ = append(one.Actions, "x")
			want := turnByRule(places[event][state], state)
			if !sameTurn(two, want) {
				t.Errorf("Fsm(%d, %q): got %+v, want %+v", state, event, two, want)
			}
			wantTurn(t, state, event, want)
		}
	}
}
