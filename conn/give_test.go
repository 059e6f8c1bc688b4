package conn_test

import (
	"math"
	"slices"
	"strconv"
	"strings"
	"testing"

	"footman/api"
	"footman/conn"
	"footman/ids"
	"footman/outq"
	"footman/response"
)

// P20.6: an open stream whose state is over.

func TestBothEndsWithNoEvent(t *testing.T) {
	for name, end := range map[string]func(k *talk){
		"it has ended, and is answered without a body": func(k *talk) {
			k.feed(headers(17, 5, get))
			k.say(17, 0)
			k.want("what waits", k.sent(), "HEADERS 17 200 end")
		},
		"it has ended, and is answered with a body": func(k *talk) {
			k.feed(headers(17, 5, get))
			k.say(17, 3)
			k.want("what waits", k.sent(), "HEADERS 17 200; DATA 17 3 end")
		},
		"it is answered, and ends with data": func(k *talk) {
			k.feed(headers(17, 4, get))
			k.say(17, 0)
			k.sent()
			k.turnless(data(17, 1, "x"))
		},
		"it is answered with a body, and ends with nothing": func(k *talk) {
			k.feed(headers(17, 4, get))
			k.say(17, 3)
			k.sent()
			k.turnless(data(17, 1, ""))
		},
		"it is answered, and ends with trailers": func(k *talk) {
			k.feed(headers(17, 4, get))
			k.say(17, 0)
			k.sent()
			k.turnless(headers(17, 5, ""))
		},
		"its body's end goes as its window is given": func(k *talk) {
			k.feed(set(4, 0), headers(17, 5, get))
			k.say(17, 3)
			k.sent()
			k.turn(update(17, 3), "", "DATA 17 3 end")
		},
		"its body's end goes as the connection's window is given": func(k *talk) {
			k.st.Send, k.m.send = 0, 0
			k.feed(headers(17, 5, get))
			k.say(17, 3)
			k.sent()
			k.turn(update(0, 3), "", "DATA 17 3 end")
		},
		"its body's end goes as the settings change": func(k *talk) {
			k.feed(set(4, 0), headers(17, 5, get))
			k.say(17, 3)
			k.sent()
			k.turn(set(4, 3), "", "SETTINGS ack; DATA 17 3 end")
		},
		"its body's end goes as there is room": func(k *talk) {
			k.feed(headers(17, 5, get))
			k.fillTo(0)
			k.drain(4096)
			k.say(17, 3)
			k.drain(40)
			k.sent()
		},
	} {
		k := scene(t)
		end(k)
		if conn.Open(k.st) != 4 || len(k.st.List) != 4 || ids.Class(k.st.IDs, 17) != ids.Gone {
			t.Errorf("%s: %+v %+v", name, k.st.List, k.st.IDs)
		}
		k.wantDead(noError)
		// Nothing is told of it any more, neither as it is reset nor as the connection fails.
		k.turnless(reset(17, 8) + update(17, 1))
		if e := k.answer(17, response.Response{Status: 200}, 0); e != api.ErrNone {
			t.Errorf("%s: error %d", name, e)
		}
		if e := k.refuse(17, 8); e != api.ErrNone {
			t.Errorf("%s: error %d", name, e)
		}
		k.in(t).turn(data(17, 0, ""), goneAll, goaway(k.st.IDs.Last, streamClosed))
		k.in(t).turn(headers(17, 5, get), goneAll, goaway(k.st.IDs.Last, streamClosed))
		k.in(t).turn(update(0, 0), goneAll, goaway(k.st.IDs.Last, protocolError))
	}
}

func TestOneEndIsNotBoth(t *testing.T) {
	k := scene(t)
	k.say(opened, 0)
	k.say(halfDone, 5)
	k.want("what waits", k.sent(), "HEADERS 3 200 end; HEADERS 5 200; DATA 5 5 end")
	if !slices.Equal(k.st.IDs.Open, []int{3, 7, 15}) {
		t.Errorf("%+v", k.st.IDs)
	}
	k.turnless(data(opened, 0, "x"))
	k.turn(reset(opened, 8), gone(opened), "")
	k.turn(data(idle, 0, ""), "gone 7; gone 15", goaway(15, protocolError))
}

// To pump.

func TestBodies(t *testing.T) {
	for _, body := range []int{0, 1, 2, 25, 26, 27, 1022, 1023, 1024, 1025, 2047, 2048, 2049, 5000, 65534, 65535} {
		for _, id := range []int{opened, halfDone} {
			k := scene(t)
			k.say(id, body)
			n := strconv.Itoa(id)
			want := []string{"HEADERS " + n + " 200"}
			for left := body; left > 0; left -= 1024 {
				want = append(want, "DATA "+n+" "+strconv.Itoa(min(left, 1024)))
			}
			var got []string
			for s := k.sent(); s != ""; s = k.sent() {
				got = append(got, s)
			}
			if all := strings.Join(got, "; "); all != strings.Join(want, "; ")+" end" {
				t.Errorf("a body of %d: %s", body, all)
			}
			if k.got[id] != body || k.st.Send != 65535-body {
				t.Errorf("of a body of %d came %d, the window is %d", body, k.got[id], k.st.Send)
			}
			if isOpen := ids.Class(k.st.IDs, id) == ids.Open; isOpen != (id == opened) {
				t.Errorf("stream %d is open: %v", id, isOpen)
			}
		}
	}
}

func TestTheGreatestBody(t *testing.T) {
	k := scene(t)
	k.say(halfDone, 65536)
	n := 0
	for k.sent() != "" {
		n++
	}
	if k.got[halfDone] != 65535 || k.st.List[1].Left != 1 || k.st.List[1].From != 65535 || n < 2 {
		t.Errorf("%d bytes came, and %+v", k.got[halfDone], k.st.List[1])
	}
	k.turnless(update(halfDone, 1))
	k.turn(update(0, 1), "", "DATA 5 1 end")
	k = scene(t)
	k.turn(update(halfDone, 1)+update(0, 1), "", "")
	k.say(halfDone, 65536)
	for k.sent() != "" {
	}
	if k.got[halfDone] != 65536 || conn.Open(k.st) != 3 {
		t.Errorf("%d bytes came, and %+v", k.got[halfDone], k.st.List)
	}
}

func TestStreamByStream(t *testing.T) {
	k := scene(t)
	k.say(counted, 1500)
	k.say(opened, 1100)
	k.say(halfDone, 10)
	// What was answered first goes first.
	k.want("what waits", k.sent(), "HEADERS 15 200; DATA 15 1024; DATA 15 476 end; HEADERS 3 200; DATA 3 1024; DATA 3 76 end; HEADERS 5 200; DATA 5 10 end")
	k = scene(t)
	k.turn(set(4, 0), "", "SETTINGS ack")
	k.say(counted, 1500)
	k.say(halfDone, 10)
	k.say(opened, 1100)
	k.want("what waits", k.sent(), "HEADERS 15 200; HEADERS 5 200; HEADERS 3 200")
	// All of a stream goes ahead of the next one, by rising numbers.
	k.in(t).turn(set(4, 5000), "", "SETTINGS ack; DATA 3 1024; DATA 3 76 end; DATA 5 10 end; DATA 15 1024; DATA 15 476 end")
	k.in(t).turn(set(4, 9), "", "SETTINGS ack; DATA 3 9; DATA 5 9; DATA 15 9")
	next := k.in(t)
	next.turn(update(halfDone, 4)+update(counted, 3)+update(opened, 1), "", "DATA 5 4; DATA 15 3; DATA 3 1")
	next.turn(set(4, 2), "", "SETTINGS ack; DATA 3 2; DATA 5 2; DATA 15 2")
	// A window of the connection that is too small for all goes to the first ones.
	k.st.Send, k.m.send = 0, 0
	next = k.in(t)
	next.turn(set(4, 5000), "", "SETTINGS ack")
	next.turn(update(0, 1099), "", "DATA 3 1024; DATA 3 75")
	next.turn(update(0, 3), "", "DATA 3 1 end; DATA 5 2")
	next.turn(update(0, 1033), "", "DATA 5 8 end; DATA 15 1024; DATA 15 1")
	next.turn(update(0, 5000), "", "DATA 15 475 end")
	if next.st.Send != 5000-475 {
		t.Error(next.st.Send)
	}
}

func TestOnlyWhatWasAnsweredGoes(t *testing.T) {
	k := scene(t)
	k.turn(update(opened, 5)+update(0, 5)+ping, "", "PING ack 12345678")
	if s := k.st.List[0]; s.Told || s.From != 0 || s.Left != 0 {
		t.Error(s)
	}
	k.say(halfDone, 5)
	k.want("what waits", k.sent(), "HEADERS 5 200; DATA 5 5 end")
}

func TestTheLeastOfTheWindows(t *testing.T) {
	for _, x := range []struct {
		conn, stream int
		out          string
		left         int
	}{
		{5000, 5000, "DATA 5 1024; DATA 5 976 end", 0},
		{2000, 2000, "DATA 5 1024; DATA 5 976 end", 0},
		{1999, 5000, "DATA 5 1024; DATA 5 975", 1},
		{5000, 1999, "DATA 5 1024; DATA 5 975", 1},
		{1025, 1024, "DATA 5 1024", 976},
		{1024, 1025, "DATA 5 1024", 976},
		{1, 5000, "DATA 5 1", 1999},
		{5000, 1, "DATA 5 1", 1999},
		{0, 5000, "", 2000},
		{5000, 0, "", 2000},
		{0, 0, "", 2000},
		{5000, -1, "", 2000},
		{0, -1, "", 2000},
		{5000, -65535, "", 2000},
		{1000, 3, "DATA 5 3", 1997},
	} {
		k := scene(t)
		for i := range k.st.List {
			k.st.List[i].Send, k.m.list[i].send = x.stream, x.stream
		}
		k.st.Send, k.m.send = x.conn, x.conn
		k.say(halfDone, 2000)
		want := "HEADERS 5 200"
		if x.out != "" {
			want += "; " + x.out
		}
		k.want("what waits", k.sent(), want)
		if x.left == 0 {
			if conn.Open(k.st) != 3 || k.st.Send != x.conn-2000 {
				t.Errorf("%+v: %+v", x, k.st)
			}
			continue
		}
		sent := 2000 - x.left
		if s := k.st.List[1]; s.Left != x.left || s.From != sent || s.Send != x.stream-sent || k.st.Send != x.conn-sent || s.State != 2 {
			t.Errorf("%+v: %+v, %d", x, s, k.st.Send)
		}
		// Given anew, one by the other, so much more goes.
		k.feed(update(0, 5000))
		k.feed(update(halfDone, 70000))
		var got []string
		for s := k.sent(); s != ""; s = k.sent() {
			got = append(got, s)
		}
		if k.got[halfDone] != 2000 || !strings.HasSuffix(got[len(got)-1], " end") || k.st.Send != x.conn+3000 {
			t.Errorf("%+v: %v, %d", x, got, k.st.Send)
		}
	}
}

func TestFramesAreChunks(t *testing.T) {
	for _, frame := range []int{16384, 20000, 1<<24 - 1} {
		k := scene(t)
		k.turn(set(5, frame), "", "SETTINGS ack")
		k.say(halfDone, 3*1024+1)
		k.want("what waits", k.sent(), "HEADERS 5 200; DATA 5 1024; DATA 5 1024; DATA 5 1024; DATA 5 1 end")
		k.say(opened, 2*1024)
		k.want("what waits", k.sent(), "HEADERS 3 200; DATA 3 1024; DATA 3 1024 end")
	}
}

func TestRoomForTheNextFrame(t *testing.T) {
	for _, n := range []int{1, 2, 500, 1023, 1024, 1025, 1500} {
		first := min(n, 1024)
		need := first + 9 + 4096
		for _, room := range []int{0, 1, 4096, 4105, need - 2, need - 1, need, need + 1} {
			k := scene(t)
			k.turn(set(4, 0), "", "SETTINGS ack")
			k.say(halfDone, n)
			k.sent()
			k.fillTo(room + 9)
			k.feed(set(4, 5000)) // whose acknowledgement takes nine
			k.wantPumped(room, need, halfDone, n)
		}
	}
}

// wantPumped holds how much of a body went, with so much room, and what is behind Drain where there was too little.
func (k *talk) wantPumped(room, need, id, body int) {
	k.t.Helper()
	first := min(body, 1024)
	s := k.st.List[1]
	if room < need {
		if s.ID != id || s.From != 0 || s.Left != body {
			k.fatal("with the room %d of %d there went %d", room, need, s.From)
		}
		// One byte less than what lacks is not enough; with it, it goes, behind Drain.
		k.drain(need - room - 1)
		if s := k.st.List[1]; s.From != 0 || s.ID != id {
			k.fatal("with one byte less than there must be there went %d", s.From)
		}
		k.drain(1)
	}
	if body > first {
		if s := k.st.List[1]; s.ID != id || s.From != first || s.Left != body-first {
			k.fatal("with just enough room %+v", s)
		}
		return
	}
	if conn.Open(k.st) != 3 {
		k.fatal("with just enough room %+v", k.st.List)
	}
}

func TestALesserFrameGoesWhereAGreaterOneCannot(t *testing.T) {
	k := scene(t)
	k.turn(set(4, 0), "", "SETTINGS ack")
	k.say(opened, 1024)
	k.say(halfDone, 10)
	k.sent()
	k.fillTo(1000)
	k.want("events", k.feed(set(4, 5000)), "")
	k.drain(4096 + 9 + 10 - outq.Room(k.st.Out))
	if !slices.Equal(k.st.IDs.Open, []int{3, 7, 15}) || k.st.List[0].Left != 1024 {
		t.Errorf("%+v", k.st.List)
	}
	for k.sent() != "" {
	}
	if k.got[opened] != 1024 || k.got[halfDone] != 10 {
		t.Error(k.got)
	}
}

func TestAFullQueueIsPumpedByDrain(t *testing.T) {
	k := scene(t)
	k.say(halfDone, 65535)
	if n := outq.Room(k.st.Out); n < 4096 || n >= 1024+9+4096 {
		t.Errorf("the room is %d", n)
	}
	got := ""
	for got == "" || k.st.Out.Made != k.st.Out.Gone {
		got += k.drain(1000)
		if n := outq.Room(k.st.Out); n < 4096 {
			t.Fatalf("the room is %d", n)
		}
	}
	if k.got[halfDone] != 65535 || conn.Open(k.st) != 3 {
		t.Error(k.got[halfDone], k.st.List)
	}
}

func TestPumpBehindEachFrame(t *testing.T) {
	// A frame that lets a stream end, another one go on: what goes stands where it may first.
	k := scene(t)
	k.turn(set(4, 0), "", "SETTINGS ack")
	k.say(opened, 20)
	k.say(halfDone, 20)
	k.sent()
	k.turn(update(opened, 5)+ping+update(halfDone, 20)+ping+reset(opened, 8)+update(opened, 5), "gone 3", "DATA 3 5; PING ack 12345678; DATA 5 20 end; PING ack 12345678")
}

// P20.7: Answer, Refuse.

func TestErrorsOfAnswer(t *testing.T) {
	t.Parallel()
	right := response.Response{Status: 200, Length: 5}
	wrong := []response.Response{{Status: 99}, {Status: 600}, {Status: 0}, {Status: -200}, {Status: 200, Length: -1}, {Status: 200, Length: 1000000000}, {Status: 200, Retry: -1}, {Status: 200, Retry: 1000000000}, {Status: math.MaxInt, Length: math.MinInt}}
	bodies := []int{-1, 65537, -1 << 40, math.MinInt, math.MaxInt}
	live := scene(t)
	live.say(counted, 0)
	live.sent()
	failed := live.in(t)
	failed.feed(update(0, 0))
	stuck := live.in(t)
	stuck.fillTo(5)
	stuck.feed(ping)
	absent := []int{passed, wasCut, wasReset, wasDone, idle, 2, 0, -1, -3, greatest, math.MaxInt, math.MinInt}
	answered := []int{halfSaid, counted}
	asked := []int{opened, halfDone}
	for _, x := range append(wrong, right) {
		isRight := x == right
		for _, body := range append(bodies, 0, 1, 65536) {
			for _, dead := range []*talk{failed, stuck} {
				for _, id := range slices.Concat(absent, answered, asked) {
					if e := dead.answer(id, x, body); e != api.ErrState {
						t.Errorf("of a dead one, %d %+v %d: error %d", id, x, body, e)
					}
				}
			}
			for _, id := range absent {
				if e := live.answer(id, x, body); e != api.ErrNone {
					t.Errorf("stream %d, %+v %d: error %d", id, x, body, e)
				}
			}
			for _, id := range answered {
				if e := live.answer(id, x, body); e != api.ErrState {
					t.Errorf("stream %d, %+v %d: error %d", id, x, body, e)
				}
			}
			for _, id := range asked {
				if isRight && body >= 0 && body <= 65536 {
					continue
				}
				if e := live.answer(id, x, body); e != api.ErrRange {
					t.Errorf("stream %d, %+v %d: error %d", id, x, body, e)
				}
			}
		}
	}
	live.want("what waits", live.sent(), "")
}

func TestAnswers(t *testing.T) {
	for _, x := range []response.Response{
		{Status: 100}, {Status: 599}, {Status: 200, Length: 999999999}, {Status: 429, Retry: 1}, {Status: 503, Retry: 999999999}, {Status: 599, Length: 999999999, Retry: 999999999}, {Status: 200, Length: 5}, {Status: 404, Length: 5},
	} {
		for _, body := range []int{0, 1, 1024} {
			k := scene(t)
			for _, id := range []int{halfDone, opened} {
				if e := k.answer(id, x, body); e != api.OK {
					t.Fatal(e)
				}
				n := strconv.Itoa(id)
				want := "HEADERS " + n + " " + strconv.Itoa(x.Status) + " end"
				if body > 0 {
					want = strings.TrimSuffix(want, " end") + "; DATA " + n + " " + strconv.Itoa(body) + " end"
				}
				k.want("what waits", k.sent(), want)
			}
			if s := k.st.List[0]; s.ID != opened || s.State != 3 || !s.Told || s.From != body || s.Left != 0 {
				t.Errorf("%+v", s)
			}
			if ids.Class(k.st.IDs, halfDone) != ids.Gone {
				t.Errorf("%+v", k.st.IDs)
			}
		}
	}
}

func TestAnswerTellsOfItsBody(t *testing.T) {
	k := scene(t)
	k.turn(set(4, 0), "", "SETTINGS ack")
	k.say(opened, 70)
	if s := k.st.List[0]; s.State != 1 || !s.Told || s.From != 0 || s.Left != 70 {
		t.Errorf("%+v", s)
	}
	if e := k.answer(opened, response.Response{Status: 200}, 0); e != api.ErrState {
		t.Errorf("error %d", e)
	}
	k.want("what waits", k.sent(), "HEADERS 3 200")
	k.turn(update(opened, 7), "", "DATA 3 7")
	if s := k.st.List[0]; s.State != 1 || s.From != 7 || s.Left != 63 {
		t.Errorf("%+v", s)
	}
	if e := k.answer(opened, response.Response{Status: 200}, 0); e != api.ErrState {
		t.Errorf("error %d", e)
	}
	k.turn(update(opened, 63), "", "DATA 3 63 end")
	if s := k.st.List[0]; s.State != 3 || s.From != 70 || s.Left != 0 {
		t.Errorf("%+v", s)
	}
	if e := k.answer(opened, response.Response{Status: 200}, 0); e != api.ErrState {
		t.Errorf("error %d", e)
	}
}

func TestAnswersAreReadByLayerSix(t *testing.T) {
	// One behind the other: k's reader holds each block against what was answered.
	k := greeted(t)
	last := 0
	for i := range 40 {
		id := 2*i + 1
		k.feed(headers(id, 5, get))
		if i%7 == 3 {
			k.turn(set(1, []int{0, 60, 200, 4096}[last%4]), "", "SETTINGS ack")
			last++
		}
		k.answer(id, response.Response{Status: 200 + i%3*150, Length: i * 37, Retry: i % 4 * 1000}, 0)
		k.want("what waits", k.sent(), "HEADERS "+strconv.Itoa(id)+" "+strconv.Itoa(200+i%3*150)+" end")
	}
}

func TestRefuse(t *testing.T) {
	live := scene(t)
	for _, id := range []int{passed, wasCut, wasReset, wasDone, idle, 2, 0, -1, greatest, math.MaxInt, math.MinInt} {
		if e := live.refuse(id, 7); e != api.ErrNone {
			t.Errorf("stream %d: error %d", id, e)
		}
	}
	live.want("what waits", live.sent(), "")
	for _, code := range []api.Code{0, 1, 7, 8, 11, 99, mostValue} {
		// Also one that was answered already, whole or not.
		for _, id := range []int{opened, halfDone, halfSaid, counted} {
			k := live.in(t)
			if e := k.refuse(id, code); e != api.OK {
				t.Errorf("stream %d: error %d", id, e)
			}
			n := strconv.Itoa(id)
			k.want("what waits", k.sent(), "RST_STREAM "+n+" "+strconv.Itoa(int(code)))
			if ids.Class(k.st.IDs, id) != ids.Cut || conn.Open(k.st) != 3 || len(k.st.List) != 3 {
				t.Errorf("%+v", k.st.IDs)
			}
			if e := k.refuse(id, code); e != api.ErrNone {
				t.Errorf("stream %d, again: error %d", id, e)
			}
			// What still comes of it is dropped.
			k.turnless(data(id, 1, "x") + headers(id, 5, "") + update(id, 5) + reset(id, 8))
			k.turn(update(0, 0), strings.TrimPrefix(strings.Replace("; "+goneAll, "; "+gone(id), "", 1), "; "), goaway(15, protocolError))
			if e := k.refuse(opened, code); e != api.ErrState {
				t.Errorf("of a dead one: error %d", e)
			}
			if e := k.refuse(idle, code); e != api.ErrState {
				t.Errorf("of a dead one: error %d", e)
			}
		}
	}
	k := live.in(t)
	k.turn(set(4, 5), "", "SETTINGS ack")
	k.say(opened, 100)
	k.refuse(opened, 2)
	k.want("what waits", k.sent(), "HEADERS 3 200; DATA 3 5; RST_STREAM 3 2")
	k.turnless(update(opened, 1000))
}

func TestOnlyEightThatWereCutAreRemembered(t *testing.T) {
	k := greeted(t)
	for id := 1; id <= 17; id += 2 {
		k.feed(headers(id, 4, get))
		k.refuse(id, 7)
	}
	k.sent()
	for id := 3; id <= 17; id += 2 {
		k.turnless(data(id, 0, "x"))
	}
	k.turn(data(1, 0, "x"), "", goaway(17, streamClosed))
}

// A queue that has just enough room, and one byte less.

// sending are acts by which a frame is sent, on a talk with the streams 3 (opened), 5 (its other side has ended) and 7 (whose content-length is 5), and how many bytes that has.
func sending() map[string]struct {
	act  func(k *talk) string
	size int
	told string // what is told, whether there is room or not
	code api.Code
} {
	type acting = struct {
		act  func(k *talk) string
		size int
		told string
		code api.Code
	}
	full := strings.Repeat("x", 16384)
	return map[string]acting{
		"the acknowledgement of SETTINGS":          {func(k *talk) string { return k.feed(set(1, 100)) }, 9, "", 0},
		"the acknowledgement of PING":              {func(k *talk) string { return k.feed(ping) }, 17, "", 0},
		"WINDOW_UPDATE":                            {func(k *talk) string { return k.feed(data(3, 0, full)) }, 13, "", 0},
		"Limit":                                    {func(k *talk) string { return strconv.FormatBool(k.limit(3)) }, 15, "true", 0},
		"Shut":                                     {func(k *talk) string { k.shut(); return "" }, 17, "", 0},
		"HEADERS that end":                         {func(k *talk) string { k.say(5, 0); return "" }, 14, "", 0},
		"HEADERS ahead of a body":                  {func(k *talk) string { k.say(3, 100); return "" }, 15, "", 0},
		"Refuse":                                   {func(k *talk) string { k.refuse(3, 7); return "" }, 13, "", 0},
		"a cut by the state":                       {func(k *talk) string { return k.feed(data(5, 0, "")) }, 13, "gone 5", 0},
		"a cut by the length":                      {func(k *talk) string { return k.feed(data(7, 1, "")) }, 13, "gone 7", 0},
		"a cut by a window":                        {func(k *talk) string { return k.feed(update(3, greatest)) }, 13, "gone 3", 0},
		"a cut by trailers":                        {func(k *talk) string { return k.feed(headers(3, 4, "")) }, 13, "gone 3", 0},
		"a cut by a fault":                         {func(k *talk) string { return k.feed(update(3, 0)) }, 13, "gone 3", 0},
		"a cut of what is no request":              {func(k *talk) string { return k.feed(headers(21, 5, "")) }, 13, "", 0},
		"a cut of a list that is too great":        {func(k *talk) string { return k.feed(headers(21, 5, wide(1025))) }, 13, "", 0},
		"a failure by a frame":                     {func(k *talk) string { return k.feed(update(0, 0)) }, 17, "gone 3; gone 5; gone 7", protocolError},
		"a failure by the bytes":                   {func(k *talk) string { return k.feed(long) }, 17, "gone 3; gone 5; gone 7", sizeError},
		"a failure by a block":                     {func(k *talk) string { return k.feed(headers(21, 5, wrong)) }, 17, "gone 3; gone 5; gone 7", compressionError},
		"a failure since nothing was acknowledged": {func(k *talk) string { return k.tick(50) }, 17, "gone 3; gone 5; gone 7", settingsTimeout},
	}
}

func TestJustEnoughRoom(t *testing.T) {
	t.Parallel()
	for name, x := range sending() {
		size := x.size
		if strings.HasPrefix(name, "HEADERS") {
			size = 0 // it is found out below
		}
		ahead := func(k *talk) {
			k.feed(headers(3, 4, post), headers(5, 5, get), headers(7, 4, post+plain("content-length", "5")), data(3, 0, strings.Repeat("x", 16384)))
		}
		if size == 0 {
			k := filled(t, 4000, ahead)
			was := outq.Len(k.st.Out)
			x.act(k)
			size = outq.Len(k.st.Out) - was
		}
		k := filled(t, size, ahead)
		waits := strings.Join(k.st.Out.Parts, "")
		k.want(name, x.act(k), x.told)
		k.wantDead(x.code)
		if all := strings.Join(k.st.Out.Parts, ""); outq.Room(k.st.Out) != 0 || len(all) != len(waits)+size || !strings.HasPrefix(all, waits) {
			t.Errorf("%s: the room is %d, %d bytes wait", name, outq.Room(k.st.Out), len(all))
		}
		for _, room := range []int{size - 1, 0} {
			k := filled(t, room, ahead)
			waits := strings.Join(k.st.Out.Parts, "")
			k.want(name, x.act(k), x.told)
			k.wantDead(calm)
			if strings.Join(k.st.Out.Parts, "") != waits {
				t.Errorf("%s: with the room %d something was sent", name, room)
			}
			if x.code != 0 && (conn.Open(k.st) != 0 || len(k.st.List) != 0) {
				t.Errorf("%s: streams are open: %+v", name, k.st.List)
			}
			k.wantSilent()
		}
	}
}

func TestNothingIsSentBehindAFrameWithoutRoom(t *testing.T) {
	// A lesser one would have room: the acknowledgement of SETTINGS has nine bytes, that of PING 17.
	k := filled(t, 16, func(k *talk) { k.feed(headers(3, 5, get), headers(5, 4, get)) })
	waits := strings.Join(k.st.Out.Parts, "")
	k.want("events", k.feed(ping, set(1, 5), reset(3, 8), headers(9, 5, get), data(1, 0, "")), "")
	k.wantDead(calm)
	if strings.Join(k.st.Out.Parts, "") != waits {
		t.Error("something was sent")
	}
	k.wantSilent()
}

// To fail.

func TestToFail(t *testing.T) {
	k := scene(t)
	k.turnless(headers(101, 4, get)[:5])
	k.feed(headers(101, 4, get)[5:])
	k.sent()
	k.turn(headers(103, 5, "")+update(0, 0), goneAll+"; gone 101", resetOf(103, protocolError)+"; "+goaway(103, protocolError))
	k.wantDead(protocolError)
	if conn.Open(k.st) != 0 || len(k.st.List) != 0 || len(k.st.IDs.Open) != 0 || k.st.IDs.Last != 103 {
		t.Errorf("%+v", k.st)
	}
	k.wantSilent()
	// With no stream it tells of none.
	k = greeted(t)
	k.turn(update(0, 0), "", goaway(0, protocolError))
	// What waits goes out behind it, and the GOAWAY is the last of it.
	k = scene(t)
	k.say(halfDone, 5000)
	k.want("events", k.feed(update(0, 0)), "gone 3; gone 7; gone 15")
	k.want("what waits", k.sent(), "HEADERS 5 200; DATA 5 1024; DATA 5 1024; DATA 5 1024; DATA 5 1024; DATA 5 904 end; "+goaway(15, protocolError))
	// A body that did not go ahead of it does not go at all.
	k = scene(t)
	k.turn(set(4, 1), "", "SETTINGS ack")
	k.say(halfDone, 5000)
	k.want("events", k.feed(set(4, 65535)+update(halfDone, 0)+set(2, 2)), "gone 3; gone 7; gone 15")
	k.sent()
	k = scene(t)
	k.st.Send, k.m.send = 0, 0
	k.say(halfDone, 5000)
	k.turn(update(0, 10)+long, goneAll, "HEADERS 5 200; DATA 5 10; "+goaway(15, sizeError))
	if k.got[halfDone] != 10 {
		t.Error(k.got)
	}
}

// P20.8: Limit, Tick, Shut, Drain.

func TestLimit(t *testing.T) {
	k := greeted(t)
	for _, n := range []int{0, -1, 17, 18, 4, math.MinInt, math.MaxInt, 1<<32 + 3, -4} {
		if k.limit(n) {
			t.Errorf("Limit(%d)", n)
		}
	}
	k.want("what waits", k.sent(), "")
	for n := 1; n <= 16; n++ {
		next := k.in(t)
		if is := next.limit(n); is != (n != 4) {
			t.Errorf("Limit(%d) = %v", n, is)
		}
		if n == 4 {
			continue
		}
		next.want("what waits", next.sent(), "SETTINGS 3="+strconv.Itoa(n))
		if l := next.st.Sent; len(l) != 2 || !slices.Equal(l[1].Pairs, []api.Pair{{ID: 3, Value: uint32(n)}}) || next.st.Told != n {
			t.Errorf("Limit(%d): %+v, %d", n, l, next.st.Told)
		}
		if next.limit(n) || !next.limit(4) {
			t.Errorf("behind Limit(%d)", n)
		}
	}
	// With three that are not acknowledged there may be one more, with four none.
	k.tick(7)
	for i, n := range []int{1, 16, 5} {
		if !k.limit(n) {
			t.Errorf("with %d that are not acknowledged, Limit(%d)", i+1, n)
		}
	}
	if k.st.Sent[1].Since != 7 {
		t.Errorf("%+v", k.st.Sent)
	}
	if len(k.st.Sent) != 4 || k.limit(6) || k.limit(1) {
		t.Error("with four that are not acknowledged")
	}
	k.want("what waits", k.sent(), "SETTINGS 3=1; SETTINGS 3=16; SETTINGS 3=5")
	k.turnless(ack)
	if k.limit(5) || !k.limit(6) || k.limit(7) {
		t.Error("with three that are not acknowledged")
	}
	k.want("what waits", k.sent(), "SETTINGS 3=6")
	k.feed(update(0, 0))
	k.sent()
	if k.limit(7) {
		t.Error("of a dead one")
	}
	// Held is nothing to it: what counts is what was told.
	k = greeted(t)
	k.feed(ack)
	if !k.limit(2) || !k.limit(4) || k.limit(4) {
		t.Error("what was told counts")
	}
	k.want("what waits", k.sent(), "SETTINGS 3=2; SETTINGS 3=4")
}

func TestLimitBeforeTheGreeting(t *testing.T) {
	k := newTalk(t, 16, 5, mostTick)
	if !k.limit(1) {
		t.Error("ahead of the preface")
	}
	k.want("what waits", k.sent(), "SETTINGS 3=16 6=1024; SETTINGS 3=1")
}

func TestTick(t *testing.T) {
	// Of a tick that is not greater, or is none, nothing changes.
	k := newTalk(t, 4, 50, 100)
	was := clone(k.st)
	for _, now := range []int{100, 99, 0, -1, math.MinInt, mostTick + 1, mostTick + 2, math.MaxInt} {
		k.want("events", k.tick(now), "")
		if !alike(k.st, was) {
			t.Errorf("Tick(%d) has changed something", now)
		}
	}
	for _, now := range []int{101, 120, 149} {
		k.want("events", k.tick(now), "")
		k.wantDead(noError)
		if k.st.Now != now {
			t.Errorf("Tick(%d): %d", now, k.st.Now)
		}
	}
	for _, now := range []int{150, 151, 1000, mostTick} {
		next := k.in(t)
		next.want("events", next.tick(now), "")
		next.wantDead(settingsTimeout)
		if next.st.Now != now {
			t.Errorf("Tick(%d): %d", now, next.st.Now)
		}
		next.want("what waits", next.sent(), "SETTINGS 3=4 6=1024; "+goaway(0, settingsTimeout))
		next.wantSilent()
	}
	// Behind its acknowledgement nothing is late.
	k.turn(greeting+ack, "", "SETTINGS 3=4 6=1024; SETTINGS ack")
	k.want("events", k.tick(mostTick-1), "")
	k.wantDead(noError)
	k.want("events", k.tick(mostTick), "")
	k.wantDead(noError)
}

func TestTickOfStreams(t *testing.T) {
	k := scene(t)
	k.want("events", k.tick(49), "")
	k.want("events", k.tick(50), goneAll)
	k.wantDead(settingsTimeout)
	k.want("what waits", k.sent(), goaway(15, settingsTimeout))
}

func TestTickOfSeveral(t *testing.T) {
	k := greeted(t)
	k.tick(20)
	k.limit(1)
	k.tick(30)
	k.limit(2)
	k.sent()
	// The oldest one counts: it was sent at 0, the others at 20 and 30.
	k.in(t).want("events", k.in(t).tick(49), "")
	late := k.in(t)
	late.tick(50)
	late.wantDead(settingsTimeout)
	k.turnless(ack)
	k.tick(69)
	k.wantDead(noError)
	late = k.in(t)
	late.tick(70)
	late.wantDead(settingsTimeout)
	k.turnless(ack)
	k.tick(79)
	k.wantDead(noError)
	late = k.in(t)
	late.tick(80)
	late.wantDead(settingsTimeout)
	k.turnless(ack)
	k.tick(mostTick)
	k.wantDead(noError)
}

func TestWaitIsTheLeastAndTheGreatest(t *testing.T) {
	k := newTalk(t, 1, 1, 0)
	k.tick(1)
	k.wantDead(settingsTimeout)
	k = newTalk(t, 1, mostTick, 0)
	k.tick(mostTick - 1)
	k.wantDead(noError)
	k.tick(mostTick)
	k.wantDead(settingsTimeout)
	k = newTalk(t, 1, mostTick, 1)
	k.tick(mostTick)
	k.wantDead(noError)
}

func TestShut(t *testing.T) {
	k := scene(t)
	k.shut()
	if !k.st.Away || k.st.Dead {
		t.Error(k.st)
	}
	k.want("what waits", k.sent(), goaway(15, noError))
	k.shut()
	k.want("what waits", k.sent(), "")
	// New streams still come, and the old ones go on.
	k.turn(headers(idle, 5, get), "asked 17 {GET http /  -1 3} end", "")
	k.say(idle, 3)
	k.say(halfDone, 3)
	k.want("what waits", k.sent(), "HEADERS 17 200; DATA 17 3 end; HEADERS 5 200; DATA 5 3 end")
	k.turnless(data(opened, 1, "x"))
	if !k.limit(9) {
		t.Error("Limit of one that is away")
	}
	k.want("what waits", k.sent(), "SETTINGS 3=9")
	k.turn(update(0, 0), "gone 3; gone 7; gone 15", goaway(17, protocolError))
	was := clone(k.st)
	k.shut()
	if !alike(k.st, was) {
		t.Error("Shut of a dead one")
	}
	k = newTalk(t, 4, 50, 0)
	k.shut()
	k.want("what waits", k.sent(), "SETTINGS 3=4 6=1024; "+goaway(0, noError))
	dead := greeted(t)
	dead.feed(update(0, 0))
	dead.shut()
	if dead.st.Away {
		t.Error("Shut of a dead one")
	}
	dead.want("what waits", dead.sent(), goaway(0, protocolError))
}

func TestDrain(t *testing.T) {
	first := bytesOf(4, 0, 0, pairsOf([]api.Pair{{ID: 3, Value: 4}, {ID: 6, Value: 1024}}))
	for n := -3; n <= 40; n++ {
		k := newTalk(t, 4, 50, 0)
		k.feed(greeting + ping)
		all := first + ack + bytesOf(6, 1, 0, "12345678")
		if s := k.drain(n); s != all[:max(n, 0)] {
			t.Errorf("Drain(%d) = %x", n, s)
		}
		if s := k.drain(math.MaxInt); s != all[max(n, 0):] {
			t.Errorf("behind Drain(%d) %x", n, s)
		}
		if s := k.drain(math.MaxInt) + k.drain(1) + k.drain(0) + k.drain(math.MinInt); s != "" {
			t.Errorf("of nothing %x", s)
		}
		if k.st.Out.Made != len(all) || k.st.Out.Gone != len(all) {
			t.Errorf("%+v", k.st.Out)
		}
	}
	// A dead one's bytes go out, and nothing follows.
	for n := range 20 {
		k := scene(t)
		k.say(counted, 0)
		k.feed(update(0, 0))
		all := strings.Join(k.st.Out.Parts, "")
		if s := k.drain(n); s != all[:n] {
			t.Errorf("of a dead one Drain(%d) = %x", n, s)
		}
		if s := k.drain(len(all)); s != all[n:] {
			t.Errorf("of a dead one behind Drain(%d) %x", n, s)
		}
	}
	// Not even a body, for which there is room then.
	k := scene(t)
	k.fillTo(4000)
	k.say(halfDone, 5000)
	k.feed(strings.Repeat(ping, 300))
	k.wantDead(calm)
	waits := outq.Len(k.st.Out)
	if s := k.drain(1 << 20); len(s) != waits || outq.Len(k.st.Out) != 0 {
		t.Errorf("%d bytes of %d went, and %d wait", len(s), waits, outq.Len(k.st.Out))
	}
}

// P20.9: Agreed, Open.

func TestAgreed(t *testing.T) {
	hold := func(k *talk, want int) {
		t.Helper()
		if n := conn.Agreed(k.st); n != want {
			t.Errorf("Agreed is %d, not %d", n, want)
		}
	}
	k := newTalk(t, 8, 50, 0)
	hold(k, mostValue)
	k.limit(4)
	hold(k, mostValue)
	k.feed(greeting + ack)
	hold(k, 8)
	k.feed(ack)
	hold(k, 4)
	k.limit(6)
	hold(k, 6)
	k.limit(2)
	k.limit(16)
	k.limit(3)
	hold(k, 16)
	k.feed(ack) // of 6
	hold(k, 16)
	k.feed(ack) // of 2
	hold(k, 16)
	k.feed(ack) // of 16
	hold(k, 16)
	k.feed(ack) // of 3
	hold(k, 3)
	// What the other side sets is nothing to it.
	k.feed(set(3, 77))
	hold(k, 3)
	k.limit(1)
	hold(k, 3)
	k.feed(ack)
	hold(k, 1)
}

func TestOpen(t *testing.T) {
	hold := func(k *talk, want int) {
		t.Helper()
		if n := conn.Open(k.st); n != want {
			t.Errorf("%d are open, not %d", n, want)
		}
	}
	k := greeted(t)
	hold(k, 0)
	for i := range 16 {
		k.feed(headers(2*i+1, 5, get))
		hold(k, i+1)
	}
	k.say(1, 0)
	hold(k, 15)
	k.say(3, 2000)
	hold(k, 14)
	k.refuse(5, 8)
	hold(k, 13)
	k.feed(reset(7, 8))
	hold(k, 12)
	k.feed(data(9, 0, ""))
	hold(k, 11)
	k.feed(headers(33, 5, ""))
	hold(k, 11)
	k.feed(headers(35, 5, get+wide(1025)))
	hold(k, 11)
	k.feed(headers(37, 4, get))
	hold(k, 12)
	k.say(37, 0)
	hold(k, 12)
	k.feed(data(37, 1, ""))
	hold(k, 11)
	k.feed(headers(39, 0, get))
	hold(k, 11)
	k.feed(ping)
	k.wantDead(protocolError)
	hold(k, 0)
}
