package block_test

import (
	"bytes"
	"math"
	"slices"
	"strconv"
	"strings"
	"testing"
	"unsafe"

	"footman/api"
	"footman/block"
	"footman/fhead"
	"footman/frame"
)

const (
	mostBytes      = 4096
	greatestStream = 2147483647
	mostPart       = 16384
	headers        = 1
	continuation   = 9
)

var (
	none   = block.State{}
	opened = block.State{Stream: 5, Data: "abc"}
	ending = block.State{Stream: 5, Data: "abc", End: true}
)

// payload is n bytes that differ from each other.
func payload(n int) string {
	b := make([]byte, n)
	for i := range b {
		b[i] = byte(i*7 + i/256)
	}
	return string(b)
}

func brief(s string) string {
	return strconv.Itoa(len(s)) + " bytes " + strconv.Quote(s[:min(len(s), 12)])
}

func show(stream int, data string, end bool) string {
	return "{" + strconv.Itoa(stream) + " " + brief(data) + " " + strconv.FormatBool(end) + "}"
}

func showState(st block.State) string { return show(st.Stream, st.Data, st.End) }

func showWhole(w block.Whole) string { return show(w.Stream, w.Data, w.End) }

func showFrame(f frame.Frame) string {
	return "{type " + strconv.Itoa(int(f.Type)) + " flags " + strconv.Itoa(int(f.Flags)) + " stream " + strconv.Itoa(f.Stream) + " " + brief(f.Data) + "}"
}

func showFrames(l []frame.Frame) string {
	s := "["
	for _, f := range l[:min(len(l), 12)] {
		s += " " + showFrame(f)
	}
	return s + " ] of " + strconv.Itoa(len(l))
}

// modelOn takes a frame, told case by case.
func modelOn(st block.State, f frame.Frame) (block.State, block.Whole, bool, api.Code) {
	if !mayBe(st) {
		return st, block.Whole{}, false, 0
	}
	strange := f.Stream <= 0 || f.Stream > greatestStream
	var stream int
	var data string
	var end bool
	switch {
	case f.Type == headers && strange, f.Type == continuation && strange:
		return st, block.Whole{}, false, 0
	case st.Stream == 0 && f.Type == headers:
		stream, data, end = f.Stream, f.Data, f.Flags%2 == 1
	case st.Stream == 0 && f.Type == continuation:
		return st, block.Whole{}, false, 1
	case st.Stream == 0:
		return st, block.Whole{}, false, 0
	case f.Type == continuation && f.Stream == st.Stream:
		stream, data, end = st.Stream, string(append([]byte(st.Data), f.Data...)), st.End
	default:
		return st, block.Whole{}, false, 1
	}
	if len(data) > mostBytes {
		return st, block.Whole{}, false, 11
	}
	if f.Flags/4%2 == 1 {
		return none, block.Whole{Stream: stream, Data: data, End: end}, true, 0
	}
	return block.State{Stream: stream, Data: data, End: end}, block.Whole{}, false, 0
}

func mayBe(st block.State) bool {
	if st.Stream == 0 {
		return st == none
	}
	return st.Stream > 0 && st.Stream <= greatestStream && len(st.Data) <= mostBytes
}

func wantOn(t *testing.T, st block.State, f frame.Frame, wantState block.State, want block.Whole, wantIs bool, wantCode api.Code) {
	t.Helper()
	got, w, is, code := block.On(st, f)
	if got != wantState || w != want || is != wantIs || code != wantCode {
		t.Errorf("On(%s, %s) = %s, %s, %t, %d, want %s, %s, %t, %d", showState(st), showFrame(f), showState(got), showWhole(w), is, code, showState(wantState), showWhole(want), wantIs, wantCode)
	}
	if block.Check(st) == api.OK && block.Check(got) != api.OK {
		t.Errorf("On(%s, %s) left %s, which Check refuses", showState(st), showFrame(f), showState(got))
	}
}

// wantAsModel holds On against the model.
func wantAsModel(t *testing.T, st block.State, f frame.Frame) {
	t.Helper()
	got, w, is, code := modelOn(st, f)
	wantOn(t, st, f, got, w, is, code)
}

// wantFault holds that a frame is a fault, which leaves the state as it was.
func wantFault(t *testing.T, st block.State, f frame.Frame, code api.Code) {
	t.Helper()
	wantOn(t, st, f, st, block.Whole{}, false, code)
}

// wantNothing holds that a frame is nothing to a state.
func wantNothing(t *testing.T, st block.State, f frame.Frame) {
	t.Helper()
	wantOn(t, st, f, st, block.Whole{}, false, api.NoError)
}

// wantOpen holds that a block is open behind a frame.
func wantOpen(t *testing.T, st block.State, f frame.Frame, want block.State) {
	t.Helper()
	wantOn(t, st, f, want, block.Whole{}, false, api.NoError)
}

// wantWhole holds that a block is whole behind a frame, and none open.
func wantWhole(t *testing.T, st block.State, f frame.Frame, want block.Whole) {
	t.Helper()
	wantOn(t, st, f, none, want, true, api.NoError)
}

// refused are states of each kind that Check refuses, with its error.
func refused() []struct {
	st block.State
	e  api.Errno
} {
	type row = struct {
		st block.State
		e  api.Errno
	}
	most, more := payload(mostBytes), payload(mostBytes+1)
	var l []row
	for _, stream := range []int{-1, -5, greatestStream + 1, greatestStream + 6, 1 << 32, 1<<32 + 5, -greatestStream, math.MinInt, math.MaxInt} {
		for _, data := range []string{"", "abc", most, more} {
			l = append(l, row{block.State{Stream: stream, Data: data}, api.ErrRange}, row{block.State{Stream: stream, Data: data, End: true}, api.ErrRange})
		}
	}
	for _, data := range []string{"x", "\x00", "abc", most, more, payload(20000)} {
		l = append(l, row{block.State{Data: data}, api.ErrForm}, row{block.State{Data: data, End: true}, api.ErrForm})
	}
	l = append(l, row{block.State{End: true}, api.ErrForm})
	for _, stream := range []int{1, 2, 5, greatestStream} {
		for _, data := range []string{more, payload(mostBytes + 2), payload(8192), payload(20000)} {
			l = append(l, row{block.State{Stream: stream, Data: data}, api.ErrLong}, row{block.State{Stream: stream, Data: data, End: true}, api.ErrLong})
		}
	}
	return l
}

// right are states that may be.
func right() []block.State {
	l := []block.State{none}
	for _, stream := range []int{1, 2, 5, greatestStream - 1, greatestStream} {
		for _, data := range []string{"", "x", "\x00", "abc", payload(mostBytes - 1), payload(mostBytes)} {
			l = append(l, block.State{Stream: stream, Data: data}, block.State{Stream: stream, Data: data, End: true})
		}
	}
	return l
}

func TestP11_1CheckOfStatesThatMayBe(t *testing.T) {
	for _, st := range right() {
		if e := block.Check(st); e != api.OK {
			t.Errorf("Check(%s) = %d, want OK", showState(st), e)
		}
	}
}

func TestP11_1CheckTellsTheFirstError(t *testing.T) {
	for _, x := range refused() {
		if e := block.Check(x.st); e != x.e {
			t.Errorf("Check(%s) = %d, want %d", showState(x.st), e, x.e)
		}
	}
}

func TestP11_1CheckOfEachStreamAtTheEdges(t *testing.T) {
	for stream, want := range map[int]api.Errno{-1: api.ErrRange, 0: api.OK, 1: api.OK, 2147483647: api.OK, 2147483648: api.ErrRange} {
		if e := block.Check(block.State{Stream: stream}); e != want {
			t.Errorf("Check of stream %d = %d, want %d", stream, e, want)
		}
	}
}

func TestP11_1CheckOfDataOfEachLength(t *testing.T) {
	for n := 4090; n <= 4100; n++ {
		alone, with := api.ErrForm, api.OK
		if n > 4096 {
			with = api.ErrLong
		}
		if e := block.Check(block.State{Data: payload(n)}); e != alone {
			t.Errorf("Check of %d bytes and no stream = %d, want %d", n, e, alone)
		}
		if e := block.Check(block.State{Stream: 3, Data: payload(n)}); e != with {
			t.Errorf("Check of %d bytes of a stream = %d, want %d", n, e, with)
		}
	}
}

func TestP11_1Open(t *testing.T) {
	for _, st := range right() {
		if is := block.Open(st); is != (st != none) {
			t.Errorf("Open(%s) = %t", showState(st), is)
		}
	}
}

// Which block is open hangs on the stream alone, also of a state that may not be.
func TestP11_1OpenOfRefusedStates(t *testing.T) {
	for _, x := range refused() {
		if is := block.Open(x.st); is != (x.st.Stream != 0) {
			t.Errorf("Open(%s) = %t", showState(x.st), is)
		}
	}
}

func TestP11_1SameOfOneFieldThatDiffers(t *testing.T) {
	for _, st := range []block.State{none, opened, ending, {Stream: -1, Data: payload(5000)}, {End: true}} {
		stream, data, other, end := st, st, st, st
		stream.Stream++
		data.Data += "\x00"
		other.Data = strings.Repeat("z", max(1, len(st.Data)))
		end.End = !st.End
		copied := block.State{Stream: st.Stream, Data: strings.Clone(st.Data), End: st.End}
		if !block.Same(st, st) || !block.Same(st, copied) || !block.Same(copied, st) {
			t.Errorf("Same(%s, itself) = false", showState(st))
		}
		for _, x := range []block.State{stream, data, other, end} {
			if block.Same(st, x) || block.Same(x, st) {
				t.Errorf("Same(%s, %s) = true", showState(st), showState(x))
			}
		}
	}
}

func TestP11_1SameOfAllPairs(t *testing.T) {
	l := right()
	for _, x := range refused() {
		l = append(l, x.st)
	}
	for i, a := range l {
		for j, b := range l {
			if block.Same(a, b) != (i == j) {
				t.Errorf("Same(%s, %s) = %t", showState(a), showState(b), i != j)
			}
		}
	}
}

func TestP11_2HeadersBeginABlock(t *testing.T) {
	for _, other := range []uint8{0, 2, 8, 16, 32, 64, 128, 8 + 32, 2 + 8 + 16 + 32 + 64 + 128} {
		f := frame.Frame{Type: headers, Stream: 5, Data: "abc", Flags: other}
		wantOpen(t, none, f, opened)
		f.Flags = other + 1
		wantOpen(t, none, f, ending)
		f.Flags = other + 4
		wantWhole(t, none, f, block.Whole{Stream: 5, Data: "abc"})
		f.Flags = other + 5
		wantWhole(t, none, f, block.Whole{Stream: 5, Data: "abc", End: true})
	}
}

func TestP11_2ContinuationGoesOn(t *testing.T) {
	for flags := range 256 {
		f := frame.Frame{Type: continuation, Stream: 5, Data: "de", Flags: uint8(flags)}
		if flags/4%2 == 1 {
			wantWhole(t, opened, f, block.Whole{Stream: 5, Data: "abcde"})
			wantWhole(t, ending, f, block.Whole{Stream: 5, Data: "abcde", End: true})
			continue
		}
		wantOpen(t, opened, f, block.State{Stream: 5, Data: "abcde"})
		wantOpen(t, ending, f, block.State{Stream: 5, Data: "abcde", End: true})
	}
}

func TestP11_2WithNoBlockOpenOtherKindsAreNothing(t *testing.T) {
	for kind := range 256 {
		if kind == headers || kind == continuation {
			continue
		}
		for _, stream := range []int{-1, 0, 1, 5, greatestStream, greatestStream + 1} {
			for _, flags := range []uint8{0, 1, 4, 5, 255} {
				wantNothing(t, none, frame.Frame{Type: uint8(kind), Stream: stream, Flags: flags, Data: "abc"})
				wantNothing(t, none, frame.Frame{Type: uint8(kind), Stream: stream, Flags: flags, Data: payload(mostBytes + 1)})
			}
		}
	}
}

func TestP11_2WithNoBlockOpenContinuationIsAFault(t *testing.T) {
	for _, stream := range []int{1, 5, greatestStream} {
		for _, flags := range []uint8{0, 1, 4, 5, 255} {
			for _, data := range []string{"", "abc", payload(mostBytes + 1)} {
				wantFault(t, none, frame.Frame{Type: continuation, Stream: stream, Flags: flags, Data: data}, api.ProtocolError)
			}
		}
	}
}

func TestP11_2WithABlockOpenAllElseIsAFault(t *testing.T) {
	for _, st := range []block.State{opened, ending, {Stream: 5}, {Stream: 5, Data: payload(mostBytes)}} {
		for kind := range 256 {
			for _, stream := range []int{1, 4, 5, 6, 7, greatestStream} {
				if kind == continuation && stream == 5 {
					continue
				}
				for _, flags := range []uint8{0, 1, 4, 5} {
					for _, data := range []string{"", "de", payload(mostBytes + 1)} {
						wantFault(t, st, frame.Frame{Type: uint8(kind), Stream: stream, Flags: flags, Data: data}, api.ProtocolError)
					}
				}
			}
		}
	}
}

func TestP11_2WithABlockOpenOtherKindsOfNoStreamAreAFault(t *testing.T) {
	for kind := range 256 {
		if kind == headers || kind == continuation {
			continue
		}
		for _, stream := range []int{math.MinInt, -1, 0, greatestStream + 1, math.MaxInt} {
			wantFault(t, opened, frame.Frame{Type: uint8(kind), Stream: stream, Data: "de"}, api.ProtocolError)
			wantFault(t, ending, frame.Frame{Type: uint8(kind), Stream: stream, Flags: 4}, api.ProtocolError)
		}
	}
}

func TestP11_2PiecesOfStrangeStreamsAreNothing(t *testing.T) {
	for _, st := range []block.State{none, opened, ending, {Stream: 1}, {Stream: greatestStream, Data: payload(mostBytes)}} {
		for _, kind := range []uint8{headers, continuation} {
			for _, stream := range []int{math.MinInt, -5, -1, 0, greatestStream + 1, greatestStream + 6, 1 << 32, 1<<32 + 1, 1<<32 + 5, math.MaxInt} {
				for _, flags := range []uint8{0, 1, 4, 5, 255} {
					wantNothing(t, st, frame.Frame{Type: kind, Stream: stream, Flags: flags, Data: "de"})
					wantNothing(t, st, frame.Frame{Type: kind, Stream: stream, Flags: flags, Data: payload(mostBytes + 1)})
				}
			}
		}
	}
}

func TestP11_2StreamsAtTheEdges(t *testing.T) {
	for _, stream := range []int{1, 2, greatestStream - 1, greatestStream} {
		st := block.State{Stream: stream, Data: "abc", End: true}
		wantOpen(t, none, frame.Frame{Type: headers, Stream: stream, Data: "abc", Flags: 1}, st)
		wantWhole(t, st, frame.Frame{Type: continuation, Stream: stream, Data: "de", Flags: 4}, block.Whole{Stream: stream, Data: "abcde", End: true})
		wantFault(t, none, frame.Frame{Type: continuation, Stream: stream}, api.ProtocolError)
		wantFault(t, st, frame.Frame{Type: headers, Stream: stream}, api.ProtocolError)
	}
}

func TestP11_2DataOfNoBytes(t *testing.T) {
	wantOpen(t, none, frame.Frame{Type: headers, Stream: 5}, block.State{Stream: 5})
	wantOpen(t, none, frame.Frame{Type: headers, Stream: 5, Flags: 1}, block.State{Stream: 5, End: true})
	wantWhole(t, none, frame.Frame{Type: headers, Stream: 5, Flags: 4}, block.Whole{Stream: 5})
	wantWhole(t, none, frame.Frame{Type: headers, Stream: 5, Flags: 5}, block.Whole{Stream: 5, End: true})
	wantOpen(t, block.State{Stream: 5}, frame.Frame{Type: continuation, Stream: 5}, block.State{Stream: 5})
	wantWhole(t, block.State{Stream: 5}, frame.Frame{Type: continuation, Stream: 5, Flags: 4}, block.Whole{Stream: 5})
	wantOpen(t, opened, frame.Frame{Type: continuation, Stream: 5}, opened)
	wantWhole(t, ending, frame.Frame{Type: continuation, Stream: 5, Flags: 4}, block.Whole{Stream: 5, Data: "abc", End: true})
	wantOpen(t, block.State{Stream: 5, End: true}, frame.Frame{Type: continuation, Stream: 5, Data: "de"}, block.State{Stream: 5, Data: "de", End: true})
	full := payload(mostBytes)
	wantOpen(t, block.State{Stream: 5, Data: full}, frame.Frame{Type: continuation, Stream: 5}, block.State{Stream: 5, Data: full})
	wantWhole(t, block.State{Stream: 5, Data: full}, frame.Frame{Type: continuation, Stream: 5, Flags: 4}, block.Whole{Stream: 5, Data: full})
}

func TestP11_2HeadersOfAsManyBytesAsMayBeAndMore(t *testing.T) {
	for _, n := range []int{mostBytes - 1, mostBytes} {
		wantOpen(t, none, frame.Frame{Type: headers, Stream: 5, Data: payload(n), Flags: 1}, block.State{Stream: 5, Data: payload(n), End: true})
		wantWhole(t, none, frame.Frame{Type: headers, Stream: 5, Data: payload(n), Flags: 4}, block.Whole{Stream: 5, Data: payload(n)})
	}
	for _, n := range []int{mostBytes + 1, mostBytes + 2, 8192, mostPart, 70000} {
		for _, flags := range []uint8{0, 1, 4, 5} {
			wantFault(t, none, frame.Frame{Type: headers, Stream: 5, Data: payload(n), Flags: flags}, api.Calm)
		}
	}
}

func TestP11_2ContinuationUpToAsManyBytesAsMayBeAndMore(t *testing.T) {
	s := payload(mostBytes)
	for _, held := range []int{0, 1, 2, 2048, mostBytes - 1, mostBytes} {
		st := block.State{Stream: 5, Data: s[:held], End: held%2 == 0}
		wantOpen(t, st, frame.Frame{Type: continuation, Stream: 5, Data: s[held:]}, block.State{Stream: 5, Data: s, End: st.End})
		wantWhole(t, st, frame.Frame{Type: continuation, Stream: 5, Data: s[held:], Flags: 4}, block.Whole{Stream: 5, Data: s, End: st.End})
		for _, more := range []string{"x", "xy", s, payload(mostPart)} {
			for _, flags := range []uint8{0, 1, 4, 5} {
				wantFault(t, st, frame.Frame{Type: continuation, Stream: 5, Data: s[held:] + more, Flags: flags}, api.Calm)
			}
		}
	}
}

// A fault of the frame's kind goes ahead of one of its length.
func TestP11_2ProtocolErrorAheadOfCalm(t *testing.T) {
	long := payload(mostBytes + 1)
	wantFault(t, none, frame.Frame{Type: continuation, Stream: 5, Data: long}, api.ProtocolError)
	wantFault(t, opened, frame.Frame{Type: continuation, Stream: 7, Data: long}, api.ProtocolError)
	wantFault(t, opened, frame.Frame{Type: headers, Stream: 5, Data: long}, api.ProtocolError)
	wantFault(t, opened, frame.Frame{Type: 0, Stream: 5, Data: long}, api.ProtocolError)
}

func TestP11_2RefusedStatesStayAsTheyAre(t *testing.T) {
	for _, x := range refused() {
		for _, kind := range []uint8{0, 1, 2, 3, 4, 5, 6, 7, 8, 9, 10, 77, 255} {
			for _, stream := range []int{-1, 0, 1, 5, x.st.Stream, greatestStream, greatestStream + 1} {
				for _, flags := range []uint8{0, 4, 5} {
					wantNothing(t, x.st, frame.Frame{Type: kind, Stream: stream, Flags: flags, Data: "de"})
				}
			}
			wantNothing(t, x.st, frame.Frame{Type: kind, Stream: 5, Data: payload(mostBytes + 1)})
		}
	}
}

func TestP11_2AllKindsOfFramesAgainstTheModel(t *testing.T) {
	states := []block.State{none, opened, ending, {Stream: 1}, {Stream: greatestStream, Data: payload(mostBytes - 1)}, {Stream: -1}, {End: true}, {Data: "x"}}
	for _, st := range states {
		for kind := range 12 {
			for flags := range 256 {
				for _, stream := range []int{-1, 0, 1, 5, greatestStream, greatestStream + 1} {
					for _, data := range []string{"", "d", "de", payload(mostBytes + 1)} {
						wantAsModel(t, st, frame.Frame{Type: uint8(kind), Flags: uint8(flags), Stream: stream, Data: data})
					}
				}
			}
		}
	}
}

// What a frame has beside its kind, its flags, its stream and its Data is nothing to a block.
func TestP11_2OtherFieldsAreNothing(t *testing.T) {
	f := frame.Frame{Type: headers, Flags: 32 + 8, Stream: 5, Data: "abc", Pad: 7, Dep: 3, Sole: true, Weight: 9, Code: 1, Last: 11, Inc: 13, Pairs: []api.Pair{{ID: 1, Value: 2}}}
	wantOpen(t, none, f, opened)
	f.Type = continuation
	wantOpen(t, opened, f, block.State{Stream: 5, Data: "abcabc"})
	f.Flags |= 4
	wantWhole(t, ending, f, block.Whole{Stream: 5, Data: "abcabc", End: true})
	if !slices.Equal(f.Pairs, []api.Pair{{ID: 1, Value: 2}}) {
		t.Errorf("On changed what came: %v", f.Pairs)
	}
}

// A second block follows on the first one as if it were the first.
func TestP11_2BlocksOneBehindTheOther(t *testing.T) {
	st := none
	for _, stream := range []int{5, 3, 5, greatestStream, 1} {
		wantOpen(t, st, frame.Frame{Type: headers, Stream: stream, Data: "abc", Flags: 1}, block.State{Stream: stream, Data: "abc", End: true})
		st, _, _, _ = block.On(st, frame.Frame{Type: headers, Stream: stream, Data: "abc", Flags: 1})
		wantWhole(t, st, frame.Frame{Type: continuation, Stream: stream, Data: "de", Flags: 4}, block.Whole{Stream: stream, Data: "abcde", End: true})
		st, _, _, _ = block.On(st, frame.Frame{Type: continuation, Stream: stream, Data: "de", Flags: 4})
		wantNothing(t, st, frame.Frame{Type: 6, Data: "12345678"})
	}
}

func near(a, b string) bool { return unsafe.StringData(a) == unsafe.StringData(b) }

// A state keeps none of what came: a piece would hold its whole payload.
func TestP11_2AnswersAreNewMemory(t *testing.T) {
	came := payload(mostPart)
	f := frame.Frame{Type: headers, Stream: 5, Data: came[:100]}
	st, _, _, _ := block.On(none, f)
	if st.Data != came[:100] || near(st.Data, f.Data) {
		t.Errorf("the state keeps what came with HEADERS")
	}
	f.Flags = 4
	if _, w, _, _ := block.On(none, f); w.Data != came[:100] || near(w.Data, f.Data) {
		t.Errorf("the whole block keeps what came with HEADERS")
	}
	f = frame.Frame{Type: continuation, Stream: 5, Data: came[100:200]}
	if st, _, _, _ := block.On(block.State{Stream: 5}, f); st.Data != came[100:200] || near(st.Data, f.Data) {
		t.Errorf("the state keeps what came with CONTINUATION")
	}
	f = frame.Frame{Type: continuation, Stream: 5, Flags: 4}
	if _, w, _, _ := block.On(st, f); w.Data != came[:100] || near(w.Data, st.Data) {
		t.Errorf("the whole block shares with the state")
	}
}

// modelParts counts a block's frames first, and then fills them byte by byte.
func modelParts(stream int, b string, end bool, most int) []frame.Frame {
	n := (len(b) + most - 1) / most
	if n == 0 {
		n = 1
	}
	data := make([][]byte, n)
	for i := range len(b) {
		data[i/most] = append(data[i/most], b[i])
	}
	l := make([]frame.Frame, n)
	for i := range l {
		kind, flags := continuation, 0
		if i == 0 {
			kind = headers
		}
		if i == 0 && end {
			flags++
		}
		if i == n-1 {
			flags += 4
		}
		l[i] = frame.Frame{Type: uint8(kind), Flags: uint8(flags), Stream: stream, Data: string(data[i])}
	}
	return l
}

// parts also holds what is so of every answer: that the argument stays as it is, with what stands in its room behind; that no part changes with it; and that each part may be put.
func parts(t *testing.T, stream int, b string, end bool, most int) ([]frame.Frame, api.Errno) {
	t.Helper()
	came := []byte(b + "room behind")
	l, e := block.Parts(stream, came[:len(b)], end, most)
	if string(came) != b+"room behind" {
		t.Errorf("Parts(%d, %s, %t, %d) changed what came", stream, brief(b), end, most)
	}
	was := make([]string, len(l))
	for i, f := range l {
		was[i] = strings.Clone(f.Data)
		if e := frame.Check(f); e != api.OK {
			t.Errorf("Parts(%d, %s, %t, %d): frame.Check of part %d = %d", stream, brief(b), end, most, i, e)
		}
	}
	for i := range came {
		came[i] ^= 0xff
	}
	for i, f := range l {
		if f.Data != was[i] {
			t.Errorf("Parts(%d, %s, %t, %d): part %d changes with what came", stream, brief(b), end, most, i)
		}
	}
	return l, e
}

func wantParts(t *testing.T, stream int, b string, end bool, most int, want ...frame.Frame) {
	t.Helper()
	l, e := parts(t, stream, b, end, most)
	if e != api.OK || !slices.EqualFunc(l, want, frame.Same) {
		t.Errorf("Parts(%d, %s, %t, %d) = %s, %d, want %s", stream, brief(b), end, most, showFrames(l), e, showFrames(want))
	}
}

func wantNoParts(t *testing.T, stream int, b string, end bool, most int, want api.Errno) {
	t.Helper()
	l, e := parts(t, stream, b, end, most)
	if len(l) != 0 || e != want {
		t.Errorf("Parts(%d, %s, %t, %d) = %s, %d, want none, %d", stream, brief(b), end, most, showFrames(l), e, want)
	}
}

func TestP11_3Example(t *testing.T) {
	wantParts(t, 1, "abc", true, 2, frame.Frame{Type: 1, Flags: 1, Stream: 1, Data: "ab"}, frame.Frame{Type: 9, Flags: 4, Stream: 1, Data: "c"})
}

func TestP11_3OnePartAlone(t *testing.T) {
	for _, most := range []int{3, 4, 100, mostPart} {
		wantParts(t, 5, "abc", false, most, frame.Frame{Type: 1, Flags: 4, Stream: 5, Data: "abc"})
		wantParts(t, 5, "abc", true, most, frame.Frame{Type: 1, Flags: 5, Stream: 5, Data: "abc"})
	}
}

func TestP11_3NoBytesAreOnePart(t *testing.T) {
	for _, most := range []int{1, 2, mostPart} {
		wantParts(t, 5, "", false, most, frame.Frame{Type: 1, Flags: 4, Stream: 5})
		wantParts(t, 5, "", true, most, frame.Frame{Type: 1, Flags: 5, Stream: 5})
		for _, b := range [][]byte{nil, {}} {
			l, e := block.Parts(5, b, true, most)
			if e != api.OK || len(l) != 1 || !frame.Same(l[0], frame.Frame{Type: 1, Flags: 5, Stream: 5}) {
				t.Errorf("Parts of no bytes = %s, %d", showFrames(l), e)
			}
		}
	}
}

func TestP11_3BytesAroundMost(t *testing.T) {
	for _, most := range []int{1, 2, 3, 10, 255, 1000, 2047, 2048} {
		for _, n := range []int{0, 1, most - 1, most, most + 1, 2*most - 1, 2 * most, min(2*most+1, mostBytes)} {
			for _, end := range []bool{false, true} {
				wantParts(t, 7, payload(n), end, most, modelParts(7, payload(n), end, most)...)
			}
		}
	}
	wantParts(t, 7, "abcd", true, 2, frame.Frame{Type: 1, Flags: 1, Stream: 7, Data: "ab"}, frame.Frame{Type: 9, Flags: 4, Stream: 7, Data: "cd"})
	wantParts(t, 7, "abcde", true, 2, frame.Frame{Type: 1, Flags: 1, Stream: 7, Data: "ab"}, frame.Frame{Type: 9, Stream: 7, Data: "cd"}, frame.Frame{Type: 9, Flags: 4, Stream: 7, Data: "e"})
	wantParts(t, 7, "abcde", false, 2, frame.Frame{Type: 1, Stream: 7, Data: "ab"}, frame.Frame{Type: 9, Stream: 7, Data: "cd"}, frame.Frame{Type: 9, Flags: 4, Stream: 7, Data: "e"})
}

func TestP11_3SmallBlocksAgainstTheModel(t *testing.T) {
	for n := range 50 {
		for most := 1; most <= 52; most++ {
			for _, end := range []bool{false, true} {
				wantParts(t, 5, payload(n), end, most, modelParts(5, payload(n), end, most)...)
			}
		}
	}
}

func TestP11_3BlocksOfAsManyBytesAsMayBe(t *testing.T) {
	for _, most := range []int{1, 2, 7, 1000, 2048, 4095, 4096, 4097, mostPart - 1, mostPart} {
		for _, n := range []int{mostBytes - 1, mostBytes} {
			wantParts(t, greatestStream, payload(n), true, most, modelParts(greatestStream, payload(n), true, most)...)
		}
		for _, n := range []int{mostBytes + 1, mostBytes + 2, mostPart, mostPart + 1, 70000} {
			wantNoParts(t, 5, payload(n), true, most, api.ErrLong)
			wantNoParts(t, 5, payload(n), false, most, api.ErrLong)
		}
	}
}

func TestP11_3StreamsAtTheEdges(t *testing.T) {
	for _, stream := range []int{1, 2, 3, greatestStream - 1, greatestStream} {
		wantParts(t, stream, "abc", true, 2, modelParts(stream, "abc", true, 2)...)
	}
	for _, stream := range []int{math.MinInt, -greatestStream, -1, 0, greatestStream + 1, 1 << 32, 1<<32 + 1, math.MaxInt} {
		for _, b := range []string{"", "abc", payload(mostBytes)} {
			wantNoParts(t, stream, b, true, 2, api.ErrRange)
		}
	}
}

func TestP11_3MostAtTheEdges(t *testing.T) {
	for _, most := range []int{1, 2, mostPart - 1, mostPart} {
		wantParts(t, 5, "abc", true, most, modelParts(5, "abc", true, most)...)
	}
	for _, most := range []int{math.MinInt, -mostPart, -1, 0, mostPart + 1, 1 << 32, 1<<32 + 2, math.MaxInt} {
		for _, b := range []string{"", "abc", payload(mostBytes)} {
			wantNoParts(t, 5, b, true, most, api.ErrRange)
			wantNoParts(t, 0, b, true, most, api.ErrRange)
		}
	}
}

func TestP11_3RangeAheadOfLong(t *testing.T) {
	long := payload(mostBytes + 1)
	for _, x := range []struct{ stream, most int }{{0, 2}, {-1, 2}, {greatestStream + 1, 2}, {5, 0}, {5, -1}, {5, mostPart + 1}, {0, 0}} {
		wantNoParts(t, x.stream, long, true, x.most, api.ErrRange)
	}
	wantNoParts(t, 5, long, true, 2, api.ErrLong)
}

// Two answers have nothing in common, nor has a part with another one, nor the room behind the parts.
func TestP11_3AnswersAreNewMemory(t *testing.T) {
	b := []byte("abcdefgh")
	one, _ := block.Parts(5, b, true, 3)
	two, _ := block.Parts(5, b, true, 3)
	want := modelParts(5, "abcdefgh", true, 3)
	for _, f := range one[:cap(one)][len(one):] {
		if !frame.Same(f, frame.Frame{}) {
			t.Errorf("the room behind the parts has %s", showFrame(f))
		}
	}
	for i := range one {
		one[i] = frame.Frame{Type: 77, Data: "changed"}
	}
	_ = append(one, frame.Frame{Type: 78})
	if !slices.EqualFunc(two, want, frame.Same) {
		t.Errorf("a second answer changes with the first one: %s", showFrames(two))
	}
	for i := range two {
		two[i].Data += "more"
		for j := i + 1; j < len(two); j++ {
			if !frame.Same(two[j], want[j]) {
				t.Errorf("part %d changes with part %d", j, i)
			}
		}
	}
	if !bytes.Equal(b, []byte("abcdefgh")) {
		t.Errorf("what came has changed: %q", b)
	}
}

// wantTogether holds that a block's parts, one behind the other, are put together by the last one alone.
func wantTogether(t *testing.T, stream int, b string, end bool, most int) {
	t.Helper()
	l, e := parts(t, stream, b, end, most)
	if e != api.OK {
		t.Fatalf("Parts(%d, %s, %t, %d): %d", stream, brief(b), end, most, e)
	}
	st, came := none, 0
	for i, f := range l {
		came = min(came+most, len(b))
		if i == len(l)-1 {
			wantWhole(t, st, f, block.Whole{Stream: stream, Data: b, End: end})
			return
		}
		next := block.State{Stream: stream, Data: b[:came], End: end}
		wantOpen(t, st, f, next)
		st = next
	}
	t.Errorf("Parts(%d, %s, %t, %d) has no part", stream, brief(b), end, most)
}

func TestP11_4WhatWasPartedIsPutTogether(t *testing.T) {
	for most := 1; most <= 20; most++ {
		for n := range 65 {
			wantTogether(t, 5, payload(n), n%2 == 0, most)
			wantTogether(t, greatestStream, payload(n), n%2 == 1, most)
		}
	}
}

func TestP11_4GreatBlocksArePutTogether(t *testing.T) {
	for _, most := range []int{1, 2, 3, 20, 100, 1024, 2047, 2048, 2049, 4095, 4096, 4097, mostPart} {
		for _, n := range []int{0, 1, 1000, mostBytes - 1, mostBytes} {
			wantTogether(t, 1, payload(n), true, most)
			wantTogether(t, 1, payload(n), false, most)
		}
	}
}

// The parts also go as bytes: put, and read again, they are put together none the less.
func TestP11_4PartsArePutAndReadAgain(t *testing.T) {
	for most := 1; most <= 20; most++ {
		b := payload(61)
		l, _ := parts(t, 3, b, true, most)
		st := none
		for i, f := range l {
			raw, e := frame.Put(f)
			if e != api.OK {
				t.Fatalf("frame.Put(%s) = %d", showFrame(f), e)
			}
			h, _ := fhead.Get(raw)
			read, fault := frame.Read(h, string(raw[fhead.Size:]))
			if fault != (frame.Fault{}) || !frame.Same(read, f) {
				t.Fatalf("read again, %s is %s, %v", showFrame(f), showFrame(read), fault)
			}
			next, w, is, code := block.On(st, read)
			if is != (i == len(l)-1) || code != api.NoError {
				t.Errorf("On(%s, %s) = %t, %d", showState(st), showFrame(read), is, code)
			}
			if is && w != (block.Whole{Stream: 3, Data: b, End: true}) {
				t.Errorf("put together by %d: %s", most, showWhole(w))
			}
			st = next
		}
		if st != none {
			t.Errorf("behind the last part %s is left", showState(st))
		}
	}
}

// Between two parts a frame of any kind is a fault, behind which the next part still goes on.
func TestP11_4NothingComesBetween(t *testing.T) {
	b := payload(23)
	l, _ := parts(t, 5, b, true, 5)
	for at := 1; at < len(l); at++ {
		st := none
		for _, f := range l[:at] {
			st, _, _, _ = block.On(st, f)
		}
		for kind := range 256 {
			for _, stream := range []int{0, 3, 5, 7} {
				f := frame.Frame{Type: uint8(kind), Flags: 4, Stream: stream, Data: "12345678"}
				if piece := kind == headers || kind == continuation; kind == continuation && stream == 5 || piece && stream == 0 {
					continue
				}
				wantFault(t, st, f, api.ProtocolError)
			}
		}
		got, w, is, code := st, block.Whole{}, false, api.NoError
		for _, f := range l[at:] {
			got, w, is, code = block.On(got, f)
		}
		if got != none || w != (block.Whole{Stream: 5, Data: b, End: true}) || !is || code != api.NoError {
			t.Errorf("from part %d on: %s, %s, %t, %d", at, showState(got), showWhole(w), is, code)
		}
	}
}

// A part that is missing, or comes twice, is not the same block; one of the first part's kind is a fault.
func TestP11_4PartsInAnotherOrder(t *testing.T) {
	l, _ := parts(t, 5, "abcdef", false, 2)
	first, _, _, _ := block.On(none, l[0])
	wantFault(t, first, l[0], api.ProtocolError)
	wantFault(t, none, l[1], api.ProtocolError)
	wantFault(t, none, l[2], api.ProtocolError)
	wantWhole(t, first, l[2], block.Whole{Stream: 5, Data: "abef"})
	second, _, _, _ := block.On(first, l[1])
	wantOpen(t, second, l[1], block.State{Stream: 5, Data: "abcdcd"})
}
