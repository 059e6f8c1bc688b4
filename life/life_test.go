package life_test

import (
	"math/rand"
	"slices"
	"strconv"
	"strings"
	"testing"

	"footman/api"
	"footman/life"
)

const (
	idle   = 0
	open   = 1
	remote = 2
	local  = 3
	done   = 4
	cut    = 5

	takeHeaders  = 0
	takeData     = 1
	takeReset    = 2
	takeWindow   = 3
	takePriority = 4
	sendHeaders  = 5
	sendData     = 6
	sendReset    = 7

	protocolError = 1
	internalError = 2
	streamClosed  = 5
)

// chapter is what the chapter says of each kind, first without End, then with it, in each of the six states: "is" and the state that follows; "conn" and a code of the connection, "own" and one of the stream, both with the state as it was; "cut" and a code of the stream, which is cut by it; or "drop".
var chapter = [8][2][6]string{
	takeHeaders: {
		{"is 1", "cut 1", "cut 5", "cut 1", "conn 5", "drop"},
		{"is 2", "is 2", "cut 5", "is 4", "conn 5", "drop"},
	},
	takeData: {
		{"conn 1", "is 1", "cut 5", "is 3", "conn 5", "drop"},
		{"conn 1", "is 2", "cut 5", "is 4", "conn 5", "drop"},
	},
	takeReset: {
		{"conn 1", "is 4", "is 4", "is 4", "drop", "drop"},
		{"conn 1", "is 4", "is 4", "is 4", "drop", "drop"},
	},
	takeWindow: {
		{"conn 1", "is 1", "is 2", "is 3", "drop", "drop"},
		{"conn 1", "is 1", "is 2", "is 3", "drop", "drop"},
	},
	takePriority: {
		{"is 0", "is 1", "is 2", "is 3", "is 4", "is 5"},
		{"is 0", "is 1", "is 2", "is 3", "is 4", "is 5"},
	},
	sendHeaders: {
		{"own 2", "is 1", "is 2", "own 2", "own 2", "own 2"},
		{"own 2", "is 3", "is 4", "own 2", "own 2", "own 2"},
	},
	sendData: {
		{"own 2", "is 1", "is 2", "own 2", "own 2", "own 2"},
		{"own 2", "is 3", "is 4", "own 2", "own 2", "own 2"},
	},
	sendReset: {
		{"own 2", "is 5", "is 5", "is 5", "own 2", "own 2"},
		{"own 2", "is 5", "is 5", "is 5", "own 2", "own 2"},
	},
}

func ofConn(code api.Code) life.Verdict { return life.Verdict{Code: code, Conn: true} }

func ofStream(code api.Code) life.Verdict { return life.Verdict{Code: code} }

// modelStep looks an event up in the chapter's table.
func modelStep(state uint8, e life.Event) (uint8, life.Verdict) {
	if state > 5 || e.Kind > 7 {
		return state, ofConn(internalError)
	}
	end := 0
	if e.End {
		end = 1
	}
	word, number, _ := strings.Cut(chapter[e.Kind][end][state], " ")
	n, _ := strconv.Atoi(number)
	switch word {
	case "is":
		return uint8(n), life.Verdict{}
	case "conn":
		return state, ofConn(api.Code(n))
	case "own":
		return state, ofStream(api.Code(n))
	case "cut":
		return cut, ofStream(api.Code(n))
	}
	return state, life.Verdict{Drop: true}
}

// modelRun does the first event, and the others from there on.
func modelRun(state uint8, l []life.Event) (uint8, life.Verdict, int) {
	if len(l) == 0 {
		return state, life.Verdict{}, 0
	}
	next, v := modelStep(state, l[0])
	if v.Code != 0 {
		return next, v, 0
	}
	last, v, n := modelRun(next, l[1:])
	return last, v, n + 1
}

func plain(kind uint8) life.Event { return life.Event{Kind: kind} }

func ending(kind uint8) life.Event { return life.Event{Kind: kind, End: true} }

// known are all events of the kinds that there are.
func known() []life.Event {
	var l []life.Event
	for kind := range uint8(8) {
		l = append(l, plain(kind), ending(kind))
	}
	return l
}

// every is each event that can be told.
func every() []life.Event {
	var l []life.Event
	for kind := range 256 {
		l = append(l, plain(uint8(kind)), ending(uint8(kind)))
	}
	return l
}

// strange are events of kinds that there are not.
func strange() []life.Event {
	return []life.Event{plain(8), ending(8), plain(9), plain(100), ending(127), plain(128), ending(254), plain(255), ending(255)}
}

// isPart tells whether an event is headers or data, taken or sent.
func isPart(e life.Event, headers, data uint8) bool { return e.Kind == headers || e.Kind == data }

func showEvent(e life.Event) string {
	names := []string{"TakeHeaders", "TakeData", "TakeReset", "TakeWindow", "TakePriority", "SendHeaders", "SendData", "SendReset"}
	s := strconv.Itoa(int(e.Kind))
	if int(e.Kind) < len(names) {
		s = names[e.Kind]
	}
	if e.End {
		s += "+End"
	}
	return s
}

func show(l []life.Event) string {
	s := strconv.Itoa(len(l)) + "["
	for _, e := range l[:min(len(l), 20)] {
		s += " " + showEvent(e)
	}
	return s + " ]"
}

func wantStep(t *testing.T, state uint8, e life.Event, next uint8, v life.Verdict) {
	t.Helper()
	gotNext, gotV := life.Step(state, e)
	if gotNext != next || gotV != v {
		t.Errorf("Step(%d, %s) = %d %v, want %d %v", state, showEvent(e), gotNext, gotV, next, v)
	}
}

// wantRun holds Run of a list that has room behind it, in which something stands, and that list and room stay as they were.
func wantRun(t *testing.T, state uint8, l []life.Event, last uint8, v life.Verdict, n int) {
	t.Helper()
	came := append(slices.Clip(slices.Clone(l)), ending(takeReset), plain(77))[:len(l)]
	was := slices.Clone(came[:cap(came)])
	gotLast, gotV, gotN := life.Run(state, came)
	if gotLast != last || gotV != v || gotN != n {
		t.Errorf("Run(%d, %s) = %d %v %d, want %d %v %d", state, show(l), gotLast, gotV, gotN, last, v, n)
	}
	if !slices.Equal(came[:cap(came)], was) {
		t.Errorf("Run(%d, %s) changed what came in", state, show(l))
	}
}

// eachList calls with all lists of up to so many of these events.
func eachList(of []life.Event, most int, call func([]life.Event)) {
	var grow func([]life.Event)
	grow = func(l []life.Event) {
		call(l)
		if len(l) == most {
			return
		}
		for _, e := range of {
			grow(append(slices.Clone(l), e))
		}
	}
	grow(nil)
}

// rightList is a list of events none of which has a code, from a state on, if some event is left that has none.
func rightList(r *rand.Rand, state uint8, n int) []life.Event {
	var l []life.Event
	all := known()
	for len(l) < n {
		e := all[r.Intn(len(all))]
		if e.End && isPart(e, takeHeaders, takeData) && r.Intn(8) > 0 || e.Kind == takeReset && r.Intn(8) > 0 || e.Kind == sendReset && r.Intn(8) > 0 {
			continue // it would be over too soon
		}
		next, v := modelStep(state, e)
		if v.Code == 0 {
			l, state = append(l, e), next
		}
	}
	return l
}

func TestP16_1StatesAsTold(t *testing.T) {
	for i, x := range []any{life.Idle, life.Open, life.Remote, life.Local, life.Done, life.Cut} {
		if x != any(uint8(i)) {
			t.Errorf("the state %d is %v", i, x)
		}
	}
}

func TestP16_1TakesSendsOver(t *testing.T) {
	for _, x := range []struct {
		state              uint8
		takes, sends, over bool
	}{
		{idle, false, false, false},
		{open, true, true, false},
		{remote, false, true, false},
		{local, true, false, false},
		{done, false, false, true},
		{cut, false, false, true},
	} {
		if life.Takes(x.state) != x.takes || life.Sends(x.state) != x.sends || life.Over(x.state) != x.over {
			t.Errorf("of the state %d Takes is %t, Sends %t, Over %t", x.state, life.Takes(x.state), life.Sends(x.state), life.Over(x.state))
		}
	}
}

func TestP16_1OfNumbersThatAreNoStates(t *testing.T) {
	for n := 6; n < 256; n++ {
		if s := uint8(n); life.Takes(s) || life.Sends(s) || life.Over(s) {
			t.Errorf("of %d Takes is %t, Sends %t, Over %t", n, life.Takes(s), life.Sends(s), life.Over(s))
		}
	}
}

// What Takes and Sends tell is what Step does: data without End counts, or does not.
func TestP16_1AsStepDoes(t *testing.T) {
	for n := range 256 {
		state := uint8(n)
		if _, v := life.Step(state, plain(takeData)); (v == life.Verdict{}) != life.Takes(state) {
			t.Errorf("Takes(%d) is %t, but TakeData has %v", n, life.Takes(state), v)
		}
		if _, v := life.Step(state, plain(sendData)); (v == life.Verdict{}) != life.Sends(state) {
			t.Errorf("Sends(%d) is %t, but SendData has %v", n, life.Sends(state), v)
		}
	}
}

func TestP16_2KindsAsTold(t *testing.T) {
	for i, x := range []any{life.TakeHeaders, life.TakeData, life.TakeReset, life.TakeWindow, life.TakePriority, life.SendHeaders, life.SendData, life.SendReset} {
		if x != any(uint8(i)) {
			t.Errorf("the kind %d is %v", i, x)
		}
	}
}

func TestP16_2Example(t *testing.T) {
	wantStep(t, life.Idle, life.Event{Kind: life.TakeHeaders, End: true}, life.Remote, life.Verdict{})
	wantStep(t, life.Remote, life.Event{Kind: life.SendData, End: true}, life.Done, life.Verdict{})
}

// Each state with each kind that is taken, with End and without, as the chapter's table says.
func TestP16_2StepOfWhatIsTaken(t *testing.T) {
	for state := range uint8(6) {
		for kind := uint8(takeHeaders); kind <= takePriority; kind++ {
			for _, e := range []life.Event{plain(kind), ending(kind)} {
				next, v := modelStep(state, e)
				wantStep(t, state, e, next, v)
			}
		}
	}
}

func TestP16_2Idle(t *testing.T) {
	wantStep(t, idle, plain(takeHeaders), open, life.Verdict{})
	wantStep(t, idle, ending(takeHeaders), remote, life.Verdict{})
	for _, kind := range []uint8{takeData, takeReset, takeWindow} {
		wantStep(t, idle, plain(kind), idle, ofConn(protocolError))
		wantStep(t, idle, ending(kind), idle, ofConn(protocolError))
	}
}

func TestP16_2OpenAndLocal(t *testing.T) {
	for state, behindEnd := range map[uint8]uint8{open: remote, local: done} {
		wantStep(t, state, plain(takeHeaders), cut, ofStream(protocolError))
		wantStep(t, state, ending(takeHeaders), behindEnd, life.Verdict{})
		wantStep(t, state, plain(takeData), state, life.Verdict{})
		wantStep(t, state, ending(takeData), behindEnd, life.Verdict{})
		for _, end := range []bool{false, true} {
			wantStep(t, state, life.Event{Kind: takeReset, End: end}, done, life.Verdict{})
			wantStep(t, state, life.Event{Kind: takeWindow, End: end}, state, life.Verdict{})
		}
	}
}

func TestP16_2Remote(t *testing.T) {
	for _, end := range []bool{false, true} {
		wantStep(t, remote, life.Event{Kind: takeHeaders, End: end}, cut, ofStream(streamClosed))
		wantStep(t, remote, life.Event{Kind: takeData, End: end}, cut, ofStream(streamClosed))
		wantStep(t, remote, life.Event{Kind: takeReset, End: end}, done, life.Verdict{})
		wantStep(t, remote, life.Event{Kind: takeWindow, End: end}, remote, life.Verdict{})
	}
}

func TestP16_2DoneAndCut(t *testing.T) {
	dropped := life.Verdict{Drop: true}
	for _, end := range []bool{false, true} {
		wantStep(t, done, life.Event{Kind: takeHeaders, End: end}, done, ofConn(streamClosed))
		wantStep(t, done, life.Event{Kind: takeData, End: end}, done, ofConn(streamClosed))
		wantStep(t, done, life.Event{Kind: takeReset, End: end}, done, dropped)
		wantStep(t, done, life.Event{Kind: takeWindow, End: end}, done, dropped)
		for _, kind := range []uint8{takeHeaders, takeData, takeReset, takeWindow} {
			wantStep(t, cut, life.Event{Kind: kind, End: end}, cut, dropped)
		}
	}
}

func TestP16_2PriorityIsNothing(t *testing.T) {
	for state := range uint8(6) {
		wantStep(t, state, plain(takePriority), state, life.Verdict{})
		wantStep(t, state, ending(takePriority), state, life.Verdict{})
	}
}

// An event with End is the last one of its side of headers and data alone.
func TestP16_2EndThatMeansNothing(t *testing.T) {
	for state := range uint8(6) {
		for _, kind := range []uint8{takeReset, takeWindow, takePriority, sendReset} {
			next, v := life.Step(state, plain(kind))
			wantStep(t, state, ending(kind), next, v)
		}
	}
}

// Each state with each kind that is sent, with End and without, as the chapter's table says.
func TestP16_3StepOfWhatIsSent(t *testing.T) {
	for state := range uint8(6) {
		for kind := uint8(sendHeaders); kind <= sendReset; kind++ {
			for _, e := range []life.Event{plain(kind), ending(kind)} {
				next, v := modelStep(state, e)
				wantStep(t, state, e, next, v)
			}
		}
	}
}

func TestP16_3HeadersAndData(t *testing.T) {
	for _, kind := range []uint8{sendHeaders, sendData} {
		wantStep(t, open, plain(kind), open, life.Verdict{})
		wantStep(t, open, ending(kind), local, life.Verdict{})
		wantStep(t, remote, plain(kind), remote, life.Verdict{})
		wantStep(t, remote, ending(kind), done, life.Verdict{})
		for _, state := range []uint8{idle, local, done, cut} {
			wantStep(t, state, plain(kind), state, ofStream(internalError))
			wantStep(t, state, ending(kind), state, ofStream(internalError))
		}
	}
}

func TestP16_3Reset(t *testing.T) {
	for _, e := range []life.Event{plain(sendReset), ending(sendReset)} {
		for _, state := range []uint8{open, remote, local} {
			wantStep(t, state, e, cut, life.Verdict{})
		}
		for _, state := range []uint8{idle, done, cut} {
			wantStep(t, state, e, state, ofStream(internalError))
		}
	}
}

func TestP16_3KindsThatThereAreNot(t *testing.T) {
	for state := range uint8(6) {
		for kind := 8; kind < 256; kind++ {
			wantStep(t, state, plain(uint8(kind)), state, ofConn(internalError))
			wantStep(t, state, ending(uint8(kind)), state, ofConn(internalError))
		}
	}
}

// TakePriority, which is nothing in the six states, is none of any other number either.
func TestP16_3StatesThatThereAreNot(t *testing.T) {
	for n := 6; n < 256; n++ {
		for _, e := range known() {
			wantStep(t, uint8(n), e, uint8(n), ofConn(internalError))
		}
	}
}

func TestP16_3NeitherStateNorKind(t *testing.T) {
	for n := 6; n < 256; n++ {
		for kind := 8; kind < 256; kind++ {
			wantStep(t, uint8(n), plain(uint8(kind)), uint8(n), ofConn(internalError))
			wantStep(t, uint8(n), ending(uint8(kind)), uint8(n), ofConn(internalError))
		}
	}
}

// With an error the state is as it was, but Cut with an error of the stream by what is taken.
func TestP16_3StateBehindAnError(t *testing.T) {
	for n := range 256 {
		for _, e := range every() {
			state := uint8(n)
			next, v := life.Step(state, e)
			if v.Code == 0 {
				continue
			}
			want := state
			if !v.Conn && e.Kind <= takePriority {
				want = cut
			}
			if next != want {
				t.Errorf("Step(%d, %s) has %v, and the state %d, want %d", n, showEvent(e), v, next, want)
			}
		}
	}
}

// An event that is dropped leaves the state, and has no code; the connection's are errors alone.
func TestP16_3VerdictsAreOneThing(t *testing.T) {
	for n := range 256 {
		for _, e := range every() {
			state := uint8(n)
			next, v := life.Step(state, e)
			if v.Drop && (next != state || v.Code != 0 || v.Conn) {
				t.Errorf("Step(%d, %s) is dropped, with %d %v", n, showEvent(e), next, v)
			}
			if v.Conn && v.Code == 0 {
				t.Errorf("Step(%d, %s) has %v", n, showEvent(e), v)
			}
			if v.Code != 0 && v.Code != protocolError && v.Code != internalError && v.Code != streamClosed {
				t.Errorf("Step(%d, %s) has the code %d", n, showEvent(e), v.Code)
			}
		}
	}
}

// What Step tells hangs on what it was given alone: it is the same in any order, and again.
func TestP16_3StepKeepsNothing(t *testing.T) {
	r := rand.New(rand.NewSource(163))
	for range 200000 {
		state, e := uint8(r.Intn(9)), life.Event{Kind: uint8(r.Intn(11)), End: r.Intn(2) == 0}
		next, v := modelStep(state, e)
		wantStep(t, state, e, next, v)
	}
}

func TestP16_4RunOfNothing(t *testing.T) {
	for n := range 256 {
		state := uint8(n)
		wantRun(t, state, nil, state, life.Verdict{}, 0)
		for _, l := range [][]life.Event{nil, {}, make([]life.Event, 0, 9)} {
			if last, v, n := life.Run(state, l); last != state || v != (life.Verdict{}) || n != 0 {
				t.Errorf("Run(%d, nothing) = %d %v %d", state, last, v, n)
			}
		}
	}
}

func TestP16_4RunOfOne(t *testing.T) {
	for n := range 256 {
		for _, e := range every() {
			state := uint8(n)
			next, v := modelStep(state, e)
			if v.Code != 0 {
				wantRun(t, state, []life.Event{e}, next, v, 0)
			} else {
				wantRun(t, state, []life.Event{e}, next, life.Verdict{}, 1)
			}
		}
	}
}

func TestP16_4RunOfEventsThatCount(t *testing.T) {
	for _, x := range []struct {
		from uint8
		l    []life.Event
		last uint8
	}{
		{idle, []life.Event{plain(takePriority), ending(takePriority)}, idle},
		{idle, []life.Event{ending(takeHeaders), plain(sendHeaders), plain(sendData), ending(sendData)}, done},
		{idle, []life.Event{plain(takeHeaders), plain(takeData), plain(takeWindow), ending(takeData), ending(sendHeaders)}, done},
		{idle, []life.Event{plain(takeHeaders), ending(sendHeaders), plain(takeData), ending(takeHeaders)}, done},
		{idle, []life.Event{plain(takePriority), plain(takeHeaders), plain(sendHeaders), plain(takeData), plain(sendData)}, open},
		{open, []life.Event{plain(sendHeaders), plain(sendHeaders), ending(sendHeaders), plain(takeWindow)}, local},
		{open, []life.Event{ending(takeHeaders), plain(takeWindow), plain(takePriority), plain(sendReset)}, cut},
		{remote, []life.Event{plain(sendHeaders), plain(takeWindow), ending(takeWindow), plain(takeReset), plain(takePriority)}, done},
		{local, []life.Event{plain(takeData), plain(takeData), plain(takeWindow), plain(sendReset), plain(takePriority)}, cut},
	} {
		wantRun(t, x.from, x.l, x.last, life.Verdict{}, len(x.l))
	}
}

// What is dropped is counted among the others, and is not told as a verdict, be it the last one too.
func TestP16_4RunOfEventsThatAreDropped(t *testing.T) {
	for _, x := range []struct {
		from uint8
		l    []life.Event
		last uint8
	}{
		{done, []life.Event{plain(takeReset)}, done},
		{done, []life.Event{plain(takeReset), plain(takePriority), plain(takeWindow), ending(takeReset)}, done},
		{cut, []life.Event{plain(takeHeaders), plain(takePriority), ending(takeData), plain(takeReset), plain(takeWindow)}, cut},
		{idle, []life.Event{plain(takeHeaders), plain(sendReset), plain(takeData), ending(takeHeaders), plain(takePriority), plain(takeWindow)}, cut},
		{idle, []life.Event{plain(takeHeaders), ending(sendHeaders), ending(takeData), plain(takeReset)}, done},
		{open, []life.Event{plain(takeReset), plain(takeWindow), plain(takeReset), plain(takePriority)}, done},
	} {
		wantRun(t, x.from, x.l, x.last, life.Verdict{}, len(x.l))
	}
}

// stops are lists that end with their only event that has a code.
func stops() []struct {
	from uint8
	l    []life.Event
	last uint8
	v    life.Verdict
} {
	return []struct {
		from uint8
		l    []life.Event
		last uint8
		v    life.Verdict
	}{
		{idle, []life.Event{plain(takeData)}, idle, ofConn(protocolError)},
		{idle, []life.Event{plain(sendHeaders)}, idle, ofStream(internalError)},
		{idle, []life.Event{plain(takePriority), plain(8)}, idle, ofConn(internalError)},
		{open, []life.Event{plain(takeHeaders)}, cut, ofStream(protocolError)},
		{open, []life.Event{plain(255)}, open, ofConn(internalError)},
		{remote, []life.Event{ending(takeData)}, cut, ofStream(streamClosed)},
		{local, []life.Event{ending(sendData)}, local, ofStream(internalError)},
		{done, []life.Event{plain(takeHeaders)}, done, ofConn(streamClosed)},
		{done, []life.Event{plain(takeReset), plain(takeWindow), plain(sendReset)}, done, ofStream(internalError)},
		{cut, []life.Event{plain(takeHeaders), ending(takeData), plain(takePriority), plain(sendData)}, cut, ofStream(internalError)},
		{idle, []life.Event{plain(takeHeaders), plain(takeData), plain(takeHeaders)}, cut, ofStream(protocolError)},
		{idle, []life.Event{plain(takeHeaders), ending(takeData), plain(sendHeaders), plain(takeData)}, cut, ofStream(streamClosed)},
		{idle, []life.Event{plain(takeHeaders), ending(sendHeaders), plain(takeWindow), plain(sendHeaders)}, local, ofStream(internalError)},
		{idle, []life.Event{ending(takeHeaders), ending(sendHeaders), plain(takeReset), ending(takeHeaders)}, done, ofConn(streamClosed)},
		{idle, []life.Event{plain(takeHeaders), plain(sendReset), plain(takeData), plain(sendReset)}, cut, ofStream(internalError)},
		{6, []life.Event{plain(takePriority)}, 6, ofConn(internalError)},
		{255, []life.Event{plain(255)}, 255, ofConn(internalError)},
	}
}

// None behind the first verdict with a code is looked at, whatever stands there.
func TestP16_4RunUpToTheFirstCode(t *testing.T) {
	for _, x := range stops() {
		n := len(x.l) - 1
		wantRun(t, x.from, x.l, x.last, x.v, n)
		for _, e := range append(known(), strange()...) {
			wantRun(t, x.from, slices.Concat(x.l, []life.Event{e}), x.last, x.v, n)
			wantRun(t, x.from, slices.Concat(x.l, []life.Event{e, plain(takeReset), e, plain(sendReset), ending(takeHeaders)}), x.last, x.v, n)
		}
		for _, y := range stops() {
			wantRun(t, x.from, slices.Concat(x.l, y.l), x.last, x.v, n)
		}
	}
}

func TestP16_4RunOfAllShortLists(t *testing.T) {
	of := append(known(), plain(8), ending(255))
	eachList(of, 3, func(l []life.Event) {
		for _, state := range []uint8{idle, open, remote, local, done, cut, 6, 255} {
			last, v, n := modelRun(state, l)
			wantRun(t, state, l, last, v, n)
		}
	})
}

func TestP16_4RunFromNumbersThatAreNoStates(t *testing.T) {
	lists := [][]life.Event{known(), {plain(takePriority)}, {ending(takePriority), plain(takeHeaders)}, {plain(8)}, strange()}
	for n := 6; n < 256; n++ {
		for _, l := range lists {
			wantRun(t, uint8(n), l, uint8(n), ofConn(internalError), 0)
		}
	}
}

// stepByStep is Run, out of Step.
func stepByStep(state uint8, l []life.Event) (uint8, life.Verdict, int) {
	for n, e := range l {
		next, v := life.Step(state, e)
		if state = next; v.Code != 0 {
			return state, v, n
		}
	}
	return state, life.Verdict{}, len(l)
}

// longLists are lists of which some have a code somewhere, and most have none.
func longLists(r *rand.Rand, state uint8) [][]life.Event {
	var l [][]life.Event
	for range 60 {
		right := rightList(r, state, r.Intn(200))
		at := r.Intn(len(right) + 1)
		wrong := slices.Insert(slices.Clone(right), at, strange()[r.Intn(len(strange()))])
		sent := slices.Insert(slices.Clone(right), at, plain(sendData), ending(sendHeaders), plain(sendData))
		taken := slices.Insert(slices.Clone(right), at, ending(takeData), plain(takeHeaders))
		l = append(l, right, wrong, sent, taken)
	}
	return l
}

func TestP16_4RunIsStepOneByOne(t *testing.T) {
	r := rand.New(rand.NewSource(164))
	for state := range uint8(6) {
		for _, l := range longLists(r, state) {
			last, v, n := stepByStep(state, l)
			wantRun(t, state, l, last, v, n)
			last, v, n = modelRun(state, l)
			wantRun(t, state, l, last, v, n)
		}
	}
}

func TestP16_4RunOfTwoParts(t *testing.T) {
	r := rand.New(rand.NewSource(165))
	for state := range uint8(6) {
		for _, l := range longLists(r, state) {
			for at := range len(l) + 1 {
				last, v, n := life.Run(state, l[:at])
				if v.Code == 0 {
					more := 0
					last, v, more = life.Run(last, l[at:])
					n += more
				}
				wantRun(t, state, l, last, v, n)
			}
		}
	}
}

func TestP16_4RunOfVeryMany(t *testing.T) {
	const many = 1 << 20
	l := slices.Repeat([]life.Event{plain(takeData)}, many)
	wantRun(t, open, l, open, life.Verdict{}, many)
	wantRun(t, cut, l, cut, life.Verdict{}, many)
	wantRun(t, idle, slices.Concat([]life.Event{plain(takeHeaders)}, l, []life.Event{ending(takeData), plain(takeData)}), cut, ofStream(streamClosed), many+2)
}

// What is over stays over, whatever comes.
func TestP16_5WhatIsOver(t *testing.T) {
	for _, state := range []uint8{done, cut} {
		for _, e := range every() {
			if next, _ := life.Step(state, e); next != state {
				t.Errorf("Step(%d, %s) has the state %d", state, showEvent(e), next)
			}
		}
		eachList(known(), 3, func(l []life.Event) {
			if last, _, _ := life.Run(state, l); last != state {
				t.Errorf("Run(%d, %s) has the state %d", state, show(l), last)
			}
		})
	}
}

// watch goes with a stream, and holds what may count by what it saw alone, not by the state.
type watch struct {
	state              uint8
	theirEnd, ownEnd   bool // no headers and no data may be taken, or sent
	resetTaken, wasCut bool
}

// watched begins with what a state says of itself.
func watched(state uint8) watch {
	return watch{
		state:      state,
		theirEnd:   state == remote || state == done || state == cut,
		ownEnd:     state == local || state == done || state == cut,
		resetTaken: state == done,
		wasCut:     state == cut,
	}
}

// see steps, and tells what is behind it.
func (w watch) see(t *testing.T, e life.Event) watch {
	t.Helper()
	next, v := life.Step(w.state, e)
	counts := v == life.Verdict{}
	isTaken, isSent := isPart(e, takeHeaders, takeData), isPart(e, sendHeaders, sendData)
	over := w.resetTaken || w.wasCut || w.theirEnd && w.ownEnd
	switch {
	case counts && isTaken && w.theirEnd:
		t.Errorf("behind the other side's End, or a cut: Step(%d, %s) counts", w.state, showEvent(e))
	case counts && isSent && w.ownEnd:
		t.Errorf("behind this side's End, or a cut: Step(%d, %s) counts", w.state, showEvent(e))
	case counts && over && e.Kind != takePriority:
		t.Errorf("behind all: Step(%d, %s) counts", w.state, showEvent(e))
	case over && next != w.state:
		t.Errorf("behind all: Step(%d, %s) has the state %d", w.state, showEvent(e), next)
	}
	w.theirEnd = w.theirEnd || counts && isTaken && e.End
	w.ownEnd = w.ownEnd || counts && isSent && e.End
	w.resetTaken = w.resetTaken || counts && e.Kind == takeReset
	w.wasCut = w.wasCut || counts && e.Kind == sendReset || v.Code != 0 && !v.Conn && e.Kind <= takePriority
	w.theirEnd, w.ownEnd = w.theirEnd || w.resetTaken || w.wasCut, w.ownEnd || w.resetTaken || w.wasCut
	w.state = next
	if (w.theirEnd && w.ownEnd) != life.Over(next) {
		t.Errorf("behind %s: Over(%d) is %t", showEvent(e), next, life.Over(next))
	}
	return w
}

// From each state, behind each list of up to four events, and through its errors.
func TestP16_5BehindAnEndOrACut(t *testing.T) {
	var all func(w watch, left int)
	all = func(w watch, left int) {
		for _, e := range known() {
			if next := w.see(t, e); left > 1 {
				all(next, left-1)
			}
		}
	}
	for state := range uint8(6) {
		all(watched(state), 4)
	}
}

func TestP16_5OverLongRuns(t *testing.T) {
	r := rand.New(rand.NewSource(166))
	for state := range uint8(6) {
		for range 300 {
			w := watched(state)
			for _, e := range rightList(r, state, 100) {
				w = w.see(t, e)
			}
			of := append(known(), strange()...)
			for range 300 {
				w = w.see(t, of[r.Intn(len(of))])
			}
		}
	}
}

// Neither headers nor data count behind an End of their side, with whatever else stands between.
func TestP16_5NothingBehindAnEnd(t *testing.T) {
	for _, from := range []uint8{open, local} {
		for _, last := range []life.Event{ending(takeHeaders), ending(takeData)} {
			eachList(known(), 2, func(between []life.Event) {
				state, _, _ := life.Run(from, slices.Concat([]life.Event{last}, between))
				for _, e := range []life.Event{plain(takeHeaders), ending(takeHeaders), plain(takeData), ending(takeData)} {
					if _, v := life.Step(state, e); v == (life.Verdict{}) {
						t.Errorf("from %d behind %s and %s: %s counts", from, showEvent(last), show(between), showEvent(e))
					}
				}
			})
		}
	}
	for _, from := range []uint8{open, remote} {
		for _, last := range []life.Event{ending(sendHeaders), ending(sendData)} {
			eachList(known(), 2, func(between []life.Event) {
				state, _, _ := life.Run(from, slices.Concat([]life.Event{last}, between))
				for _, e := range []life.Event{plain(sendHeaders), ending(sendHeaders), plain(sendData), ending(sendData)} {
					if next, v := life.Step(state, e); v != ofStream(internalError) || next != state {
						t.Errorf("from %d behind %s and %s: %s has %d %v", from, showEvent(last), show(between), showEvent(e), next, v)
					}
				}
			})
		}
	}
}

// Events are values: Step of one in a list leaves the list as it was.
func TestP16_5EventsStayAsTheyWere(t *testing.T) {
	l := every()
	for n := range 256 {
		for i := range l {
			life.Step(uint8(n), l[i])
		}
		life.Run(uint8(n), l)
	}
	if !slices.Equal(l, every()) {
		t.Error("Step or Run changed what came in")
	}
}
