package conn_test

import (
	"slices"
	"strconv"
	"strings"
	"testing"

	"footman/api"
	"footman/conn"
	"footman/ids"
	"footman/request"
	"footman/response"
	"footman/unack"
)

// text is a text's bytes in a block, also of one whose length has no room in a byte.
func text(s string) string {
	n := len(s)
	if n < 127 {
		return string([]byte{byte(n)}) + s
	}
	b := []byte{127}
	for n -= 127; n > 127; n /= 128 {
		b = append(b, byte(n%128+128))
	}
	return string(append(b, byte(n))) + s
}

// wide is a block's bytes whose one field, of the name a, counts so much.
func wide(n int) string { return "\x00\x01a" + text(strings.Repeat("v", n-33)) }

const (
	getCounts = 123              // what the fields of get and post count together, less one of post
	adding    = "\x40\x01a\x01b" // a field that goes into the table
	newest    = "\xbe"           // the field that came last
	wrong     = "\xff\x7f"       // a place of no table
)

func goaway(last int, code api.Code) string {
	return "GOAWAY " + strconv.Itoa(last) + " " + strconv.Itoa(int(code))
}

func resetOf(id int, code api.Code) string {
	return "RST_STREAM " + strconv.Itoa(id) + " " + strconv.Itoa(int(code))
}

func gone(id int) string { return "gone " + strconv.Itoa(id) }

// P20.3: headers.

func TestBlocksInParts(t *testing.T) {
	const asked = "asked 17 {GET http /  -1 3}"
	k := scene(t)
	k.in(t).turn(headers(idle, 4, get), asked, "")
	k.in(t).turn(headers(idle, 5, get), asked+" end", "")
	for i := 0; i <= len(get); i++ {
		next := k.in(t)
		next.turnless(headers(idle, 1, get[:i]))
		if next.st.Block.Stream != idle || next.st.Block.Data != get[:i] || !next.st.Block.End || next.st.IDs.Last != counted || conn.Open(next.st) != 4 {
			t.Errorf("an open block: %+v", next.st)
		}
		next.turn(bytesOf(9, 4, idle, get[i:]), asked+" end", "")
		for j := i; j <= len(get); j++ {
			k.in(t).turn(headers(idle, 0, get[:i])+bytesOf(9, 0, idle, get[i:j])+bytesOf(9, 4, idle, get[j:]), asked, "")
			// That a CONTINUATION has the flag 1 tells nothing.
			k.in(t).turn(headers(idle, 0, get[:i])+bytesOf(9, 1, idle, get[i:j])+bytesOf(9, 5, idle, get[j:]), asked, "")
		}
	}
	k.in(t).turn(headers(idle, 12, padded(get, 7)), asked, "")
	k.in(t).turn(headers(idle, 36, "\x80\x00\x00\x03\x07"+get), asked, "")
	k.in(t).turn(headers(idle, 45, padded("\x00\x00\x00\x11\x07"+get, 255)), asked+" end", "")
}

func TestFaultsOfBlocks(t *testing.T) {
	k := scene(t)
	for b, code := range map[string]api.Code{
		bytesOf(9, 4, idle, get):                                                     protocolError,
		bytesOf(9, 4, opened, ""):                                                    protocolError,
		bytesOf(9, 0, wasCut, ""):                                                    protocolError,
		headers(idle, 4, get) + bytesOf(9, 4, idle, ""):                              protocolError,
		headers(idle, 0, get) + bytesOf(9, 4, opened, get):                           protocolError,
		headers(idle, 0, get) + bytesOf(9, 4, idle+2, ""):                            protocolError,
		headers(idle, 0, strings.Repeat("\x82", 4097)):                               calm,
		headers(idle, 4, strings.Repeat("\x82", 4097)):                               calm,
		headers(wasCut, 4, strings.Repeat("\x82", 4097)):                             calm,
		headers(2, 4, strings.Repeat("\x82", 4097)):                                  calm,
		headers(idle, 0, strings.Repeat("\x82", 4096)) + bytesOf(9, 0, idle, "\x82"): calm,
		headers(idle, 0, strings.Repeat("\x82", 2000)) + bytesOf(9, 0, idle, strings.Repeat("\x82", 2000)) + bytesOf(9, 4, idle, strings.Repeat("\x82", 97)): calm,
	} {
		next := k.in(t)
		told := next.feed(b + ping)
		if !strings.HasSuffix(told, goneAll) && !strings.HasSuffix(told, goneAll+"; gone 17") {
			next.fatal("told %s", told)
		}
		next.want("what waits", next.sent(), goaway(next.st.IDs.Last, code))
		next.wantDead(code)
	}
	// As many bytes as may be: all these fields are one list that is too great.
	for _, b := range []string{
		headers(idle, 5, strings.Repeat("\x82", 4096)),
		headers(idle, 1, strings.Repeat("\x82", 4096)) + bytesOf(9, 4, idle, ""),
		headers(idle, 1, "") + bytesOf(9, 0, idle, strings.Repeat("\x82", 1000)) + bytesOf(9, 4, idle, strings.Repeat("\x82", 3096)),
	} {
		next := k.in(t)
		next.turn(b, "", resetOf(idle, calm))
		next.wantDead(noError)
	}
}

func TestBlocksThatCannotBeRead(t *testing.T) {
	k := scene(t)
	for _, id := range []int{passed, opened, halfDone, halfSaid, wasCut, wasReset, wasDone, counted, idle, 2, 18} {
		for _, b := range []string{"\x80", wrong, newest, get + "\x40", "\x3f\xe1\x3f", get + "\x20"} {
			next := k.in(t)
			next.turn(headers(id, 5, b)+ping, goneAll, goaway(15, compressionError))
			next.wantDead(compressionError)
			next = k.in(t)
			next.turn(headers(id, 1, b[:1])+bytesOf(9, 4, id, b[1:]), goneAll, goaway(15, compressionError))
		}
	}
}

func TestTheTableGoesOn(t *testing.T) {
	// Of each stream that lets the connection live its block changes the table, whatever becomes of the stream.
	for id, block := range map[int]string{
		wasCut:   adding,
		opened:   adding,
		halfDone: adding,
		counted:  adding,
		idle:     get + adding,
		idle + 2: adding,                    // no request
		idle + 4: get + adding + wide(1024), // a list that is too great
	} {
		k := scene(t)
		k.feed(headers(id, 5, block))
		k.sent()
		k.turn(headers(31, 5, get+newest), "asked 31 {GET http /  -1 3} end", "")
		if len(k.st.Dec.Table.List) != 1 || k.st.Dec.Table.List[0] != (api.Field{Name: "a", Value: "b"}) {
			t.Errorf("stream %d: the table is %+v", id, k.st.Dec.Table)
		}
	}
	k := scene(t)
	k.turn(headers(idle, 5, get+newest), goneAll, goaway(15, compressionError))
	k = scene(t)
	k.feed(headers(idle, 5, "\x20"+get+adding))
	if k.st.Dec.Table.Max != 0 || len(k.st.Dec.Table.List) != 0 || len(k.st.List) != 5 {
		t.Errorf("the table is %+v", k.st.Dec.Table)
	}
}

func TestHeadersByClass(t *testing.T) {
	k := scene(t)
	for _, block := range []string{get, "", wide(1025)} {
		for _, flags := range []byte{4, 5} {
			for _, id := range []int{2, 4, 14, 16, 18, greatest - 1} {
				next := k.in(t)
				next.turn(headers(id, flags, block), goneAll, goaway(15, protocolError))
				next.wantDead(protocolError)
			}
			for _, id := range []int{passed, wasReset, wasDone} {
				next := k.in(t)
				next.turn(headers(id, flags, block), goneAll, goaway(15, streamClosed))
				next.wantDead(streamClosed)
			}
			next := k.in(t)
			next.turn(headers(wasCut, flags, block)+headers(wasCut, flags, block), "", "")
			next.wantDead(noError)
		}
	}
	for _, id := range []int{idle, idle + 2, 1001, greatest} {
		next := k.in(t)
		next.turn(headers(id, 5, get), "asked "+strconv.Itoa(id)+" {GET http /  -1 3} end", "")
		if next.st.IDs.Last != id || conn.Open(next.st) != 5 {
			t.Errorf("stream %d did not begin", id)
		}
	}
	// What was passed over then is gone.
	k.turn(headers(idle+2, 5, get)+headers(idle, 5, get), "asked 19 {GET http /  -1 3} end; gone 3; gone 5; gone 7; gone 15; gone 19", goaway(19, streamClosed))
}

func TestAsManyStreamsAsMayBe(t *testing.T) {
	k := greeted(t)
	events, all := []string{}, ""
	for id := 1; id <= 31; id += 2 {
		n := strconv.Itoa(id)
		k.turn(headers(id, 4, get), "asked "+n+" {GET http /  -1 3}", "")
		events = append(events, gone(id))
		if conn.Open(k.st) != (id+1)/2 || len(k.st.List) != (id+1)/2 {
			t.Fatalf("%d are open", conn.Open(k.st))
		}
	}
	all = strings.Join(events, "; ")
	for _, b := range []string{headers(33, 5, get), headers(33, 4, ""), headers(35, 4, get+wide(1025))} {
		next := k.in(t)
		next.turn(b, all, goaway(31, calm))
		next.wantDead(calm)
		if conn.Open(next.st) != 0 || len(next.st.List) != 0 {
			t.Error("behind the failure some are open")
		}
	}
	for id, end := range map[int]func(k *talk){
		1:  func(k *talk) { k.feed(reset(1, 8)) },
		7:  func(k *talk) { k.refuse(7, 8) },
		31: func(k *talk) { k.say(31, 0); k.feed(data(31, 1, "")) },
		9:  func(k *talk) { k.feed(data(9, 1, "x")); k.say(9, 5) },
		11: func(k *talk) { k.feed(update(11, 0)) },
	} {
		next := k.in(t)
		end(next)
		next.sent()
		if conn.Open(next.st) != 15 {
			t.Errorf("stream %d did not end: %d", id, conn.Open(next.st))
		}
		next.turn(headers(33, 5, get), "asked 33 {GET http /  -1 3} end", "")
		next.feed(headers(35, 5, get))
		next.wantDead(calm)
	}
}

func TestListsThatAreTooGreat(t *testing.T) {
	k := scene(t)
	for _, flags := range []byte{4, 5} {
		next := k.in(t)
		if told := next.feed(headers(idle, flags, get+wide(1024-getCounts))); !strings.HasPrefix(told, "asked 17") {
			next.fatal("told %s", told)
		}
		next = k.in(t)
		next.turn(headers(idle, flags, get+wide(1025-getCounts)), "", resetOf(idle, calm))
		next.wantDead(noError)
		if ids.Class(next.st.IDs, idle) != ids.Cut || conn.Open(next.st) != 4 || next.st.IDs.Last != idle {
			t.Errorf("%+v", next.st.IDs)
		}
		// So too of one that is no request.
		k.in(t).turn(headers(idle, flags, wide(1025)), "", resetOf(idle, calm))
		k.in(t).turn(headers(idle, flags, wide(1024)), "", resetOf(idle, protocolError))
	}
	k.in(t).turnless(headers(opened, 5, wide(1024)))
	k.in(t).turn(headers(opened, 5, wide(1025)), gone(opened), resetOf(opened, calm))
	k.in(t).turn(headers(counted, 5, wide(1025)), gone(counted), resetOf(counted, calm))
	k.in(t).turn(headers(opened, 5, ":a"+wide(1024)), goneAll, goaway(15, compressionError))
}

func TestRequestsRightAndWrong(t *testing.T) {
	k := scene(t)
	length := func(s string) string { return plain("content-length", s) }
	for _, x := range []struct {
		block string
		end   bool
		want  string // the request; of one that is not right none
	}{
		{get, true, "{GET http /  -1 3}"},
		{get, false, "{GET http /  -1 3}"},
		{"\x82\x87\x85\x01\x01a" + plain("priority", "u=7"), true, "{GET https /index.html a -1 7}"},
		{post + length("0"), true, "{POST http /  0 3}"},
		{post + length("0"), false, "{POST http /  0 3}"},
		{post + length("5"), false, "{POST http /  5 3}"},
		{post + length("999999999"), false, "{POST http /  999999999 3}"},
		{post + length("5") + length("5"), false, "{POST http /  5 3}"},
		{post + length("5"), true, ""},
		{post + length("5") + length("6"), false, ""},
		{post + length("05"), false, ""},
		{post + length("1000000000"), false, ""},
		{post + length("x"), false, ""},
		{post + length(""), true, ""},
		{"", true, ""},
		{"", false, ""},
		{"\x82\x84", true, ""},
		{"\x82\x86", true, ""},
		{"\x84\x86", true, ""},
		{get + "\x82", true, ""},
		{get + "\x88", true, ""},
		{plain("a", "b") + get, true, ""},
		{get + plain("A", "b"), true, ""},
		{get + plain("connection", "b"), true, ""},
		{get + plain("te", "gzip"), true, ""},
		{get + plain("te", "trailers"), true, "{GET http /  -1 3}"},
	} {
		next := k.in(t)
		flags := byte(4)
		if x.end {
			flags = 5
		}
		if x.want == "" {
			next.turn(headers(idle, flags, x.block)+headers(idle, flags, get)+ping, "", resetOf(idle, protocolError)+"; PING ack 12345678")
			if ids.Class(next.st.IDs, idle) != ids.Cut || next.st.IDs.Last != idle {
				t.Errorf("%x: %+v", x.block, next.st.IDs)
			}
			continue
		}
		want := "asked 17 " + x.want
		if x.end {
			want += " end"
		}
		next.turn(headers(idle, flags, x.block), want, "")
		if q := next.st.List[4]; q.State != 1 && !x.end || q.State != 2 && x.end {
			t.Errorf("the state is %d", q.State)
		}
	}
}

func TestWhatTheListHolds(t *testing.T) {
	k := greeted(t)
	k.turn(headers(1, 5, get), "asked 1 {GET http /  -1 3} end", "")
	k.turn(set(4, 77)+headers(3, 4, post+plain("content-length", "12")), "asked 3 {POST http /  12 3}", "SETTINGS ack")
	k.turn(set(4, greatest)+headers(9, 5, get+plain("content-length", "0")), "asked 9 {GET http /  0 3} end", "SETTINGS ack")
	k.turn(set(4, 0)+headers(11, 4, get), "asked 11 {GET http /  -1 3}", "SETTINGS ack")
	want := []conn.Stream{
		{ID: 1, State: 2, Send: 0, Recv: 65535, Want: -1},
		{ID: 3, State: 1, Send: 0, Recv: 65535, Want: 12},
		{ID: 9, State: 2, Send: 0, Recv: 65535, Want: 0},
		{ID: 11, State: 1, Send: 0, Recv: 65535, Want: -1},
	}
	if !slices.Equal(k.st.List, want) || !slices.Equal(k.st.IDs.Open, []int{1, 3, 9, 11}) {
		t.Errorf("%+v", k.st.List)
	}
	k.turn(set(4, 77), "", "SETTINGS ack")
	k.turn(headers(13, 4, get), "asked 13 {GET http /  -1 3}", "")
	if s := k.st.List[4]; s.Send != 77 {
		t.Errorf("%+v", s)
	}
}

func TestAskedHasTheRequest(t *testing.T) {
	q := request.Request{Method: "PATCH", Scheme: "https", Path: "/a?b", Host: "h:1", Length: 3, Rank: 6}
	block := "\x02\x05PATCH\x87\x04\x04/a?b\x01\x03h:1" + plain("content-length", "3") + plain("priority", "u=6")
	k := scene(t)
	_, l := conn.Feed(k.st, []byte(headers(idle, 4, block)))
	if want := (conn.Event{Kind: conn.Asked, Stream: idle, Req: q}); len(l) != 1 || l[0] != want {
		t.Errorf("%+v", l)
	}
}

func TestTrailers(t *testing.T) {
	k := scene(t)
	const sum = "\x00\x08checksum\x011"
	// Right ones: the stream's other side has ended.
	for _, b := range []string{"", sum, sum + sum, plain("content-length", "x"), adding} {
		next := k.in(t)
		next.turnless(headers(opened, 5, b))
		if next.st.List[0].State != 2 || conn.Open(next.st) != 4 {
			t.Errorf("behind trailers: %+v", next.st.List)
		}
		next.turn(headers(opened, 5, b), gone(opened), resetOf(opened, streamClosed))
		// Where this side has ended too, nothing is left of it.
		next = k.in(t)
		next.turnless(headers(halfSaid, 5, b))
		if conn.Open(next.st) != 3 || ids.Class(next.st.IDs, halfSaid) != ids.Gone {
			t.Errorf("behind both ends: %+v", next.st.IDs)
		}
		next = k.in(t)
		next.turnless(headers(halfSaid, 1, b) + bytesOf(9, 4, halfSaid, ""))
	}
	for _, b := range []string{"", sum, get, wide(1025), plain("te", "trailers")} {
		// Without an end, or behind it, their code is the state's, whatever else is wrong.
		for _, id := range []int{opened, halfSaid, counted} {
			next := k.in(t)
			next.turn(headers(id, 4, b), gone(id), resetOf(id, protocolError))
			next.wantDead(noError)
			if ids.Class(next.st.IDs, id) != ids.Cut {
				t.Errorf("%+v", next.st.IDs)
			}
		}
		for _, flags := range []byte{4, 5} {
			next := k.in(t)
			next.turn(headers(halfDone, flags, b), gone(halfDone), resetOf(halfDone, streamClosed))
			next.wantDead(noError)
		}
	}
	for _, b := range []string{"\x82", "\x88", sum + "\x84", plain("te", "trailers"), plain("A", "b"), plain("upgrade", "b"), plain("a", " b"), plain("", "b")} {
		for _, id := range []int{opened, halfSaid} {
			next := k.in(t)
			next.turn(headers(id, 5, b), gone(id), resetOf(id, protocolError))
			next.wantDead(noError)
		}
	}
}

func TestTrailersAndTheLength(t *testing.T) {
	k := scene(t)
	for got := 0; got <= 5; got++ {
		next := k.in(t)
		next.turnless(data(counted, 0, "12345"[:got]))
		if got == 5 {
			next.turnless(headers(counted, 5, ""))
			continue
		}
		next.turn(headers(counted, 5, ""), gone(counted), resetOf(counted, protocolError))
	}
	// A list that is too great goes ahead of a length that is not right.
	k.in(t).turn(headers(counted, 5, wide(1025)), gone(counted), resetOf(counted, calm))
	// Where none was told any length is right.
	next := k.in(t)
	next.turnless(data(opened, 0, "12345678") + headers(opened, 5, ""))
	next = k.in(t)
	next.turnless(headers(opened, 5, ""))
	next = k.in(t)
	next.feed(headers(idle, 4, post+plain("content-length", "0")))
	next.turnless(headers(idle, 5, ""))
}

func TestAStreamEndsInABlock(t *testing.T) {
	// What a block's stream is counts when the block is whole.
	k := scene(t)
	k.turnless(headers(opened, 1, ""))
	k.refuse(opened, 7)
	k.want("what waits", k.sent(), resetOf(opened, 7))
	k.turnless(bytesOf(9, 4, opened, adding))
	if len(k.st.Dec.Table.List) != 1 || conn.Open(k.st) != 3 {
		t.Errorf("%+v", k.st)
	}
	k = scene(t)
	k.turnless(headers(opened, 1, ""))
	k.say(opened, 0)
	k.want("what waits", k.sent(), "HEADERS 3 200 end")
	k.turnless(bytesOf(9, 4, opened, ""))
	if ids.Class(k.st.IDs, opened) != ids.Gone {
		t.Errorf("%+v", k.st.IDs)
	}
}

// P20.4: data.

func TestDataByClass(t *testing.T) {
	k := scene(t)
	for _, flags := range []byte{0, 1} {
		for _, s := range []string{"", "x", strings.Repeat("x", 16384)} {
			for _, id := range []int{2, 4, 14, 16, 18, greatest - 1, idle, idle + 2, greatest} {
				next := k.in(t)
				next.turn(data(id, flags, s), goneAll, goaway(15, protocolError))
				next.wantDead(protocolError)
			}
			for _, id := range []int{passed, wasReset, wasDone} {
				next := k.in(t)
				next.turn(data(id, flags, s), goneAll, goaway(15, streamClosed))
				next.wantDead(streamClosed)
			}
			next := k.in(t)
			next.turnless(data(wasCut, flags, s))
			if next.st.Recv != 65535-len(s) {
				t.Errorf("of a stream that was cut Recv is %d", next.st.Recv)
			}
			next = k.in(t)
			next.turn(data(halfDone, flags, s), gone(halfDone), resetOf(halfDone, streamClosed))
			if next.st.Recv != 65535-len(s) {
				t.Errorf("of a stream that has ended Recv is %d", next.st.Recv)
			}
		}
	}
}

func TestDataCounts(t *testing.T) {
	k := scene(t)
	for _, x := range []struct {
		flags   byte
		payload string
		got     int
	}{
		{0, "", 0},
		{0, "x", 1},
		{0, strings.Repeat("x", 16384), 16384},
		{8, padded("", 0), 0},
		{8, padded("", 255), 0},
		{8, padded("xyz", 0), 3},
		{8, padded("xyz", 1), 3},
		{8, padded(strings.Repeat("x", 16128), 255), 16128},
		{246, "xy", 2},
	} {
		next := k.in(t)
		next.turnless(data(opened, x.flags, x.payload))
		s := next.st.List[0]
		if next.st.Recv != 65535-len(x.payload) || s.Recv != 65535-len(x.payload) || s.Got != x.got || s.State != 1 {
			t.Errorf("%d bytes: %d %+v", len(x.payload), next.st.Recv, s)
		}
		next = k.in(t)
		next.turnless(data(opened, x.flags|1, x.payload))
		if s := next.st.List[0]; s.State != 2 || s.Got != x.got || s.ID != opened {
			t.Errorf("%d bytes at the end: %+v", len(x.payload), s)
		}
		next = k.in(t)
		next.turnless(data(halfSaid, x.flags, x.payload))
		if s := next.st.List[2]; s.State != 3 || s.Got != x.got || s.Recv != 65535-len(x.payload) {
			t.Errorf("%d bytes behind an answer: %+v", len(x.payload), s)
		}
		next.turnless(data(halfSaid, 1, ""))
		if conn.Open(next.st) != 3 || ids.Class(next.st.IDs, halfSaid) != ids.Gone {
			t.Errorf("%d bytes, and both ends: %+v", len(x.payload), next.st.IDs)
		}
	}
}

// withRecv is a talk whose window of the connection is another one; by right bytes alone none is below 32768.
func (k *talk) withRecv(n int) *talk {
	next := k.fork()
	next.st.Recv, next.m.recv = n, n
	next.note("Recv = " + strconv.Itoa(n))
	return next
}

func TestWindowOfTheConnection(t *testing.T) {
	k := scene(t)
	for _, flags := range []byte{0, 1} {
		for _, id := range []int{opened, wasCut} {
			for _, x := range []struct {
				payload string
				padding byte
			}{{"12345", 0}, {padded("12", 2), 8}, {padded("", 4), 8}} {
				next := k.withRecv(5).in(t)
				next.turn(data(id, flags|x.padding, x.payload), "", "WINDOW_UPDATE 0 65535")
				next.wantDead(noError)
				next = k.withRecv(4).in(t)
				next.turn(data(id, flags|x.padding, x.payload), goneAll, goaway(15, flowError))
				next.wantDead(flowError)
			}
		}
		// The connection's window goes ahead of what is wrong with the stream.
		k.withRecv(4).in(t).turn(data(halfDone, flags, "12345"), goneAll, goaway(15, flowError))
		k.withRecv(5).in(t).turn(data(halfDone, flags, "12345"), gone(halfDone), resetOf(halfDone, streamClosed)+"; WINDOW_UPDATE 0 65535")
		k.withRecv(5).in(t).turn(data(counted, flags, "123456"), goneAll, goaway(15, flowError))
		k.withRecv(0).in(t).turn(data(opened, flags, ""), "", "WINDOW_UPDATE 0 65535")
		// Of none of the client's streams it is not asked.
		k.withRecv(4).in(t).turn(data(idle, flags, "12345"), goneAll, goaway(15, protocolError))
		k.withRecv(4).in(t).turn(data(wasDone, flags, "12345"), goneAll, goaway(15, streamClosed))
	}
}

func TestWindowIsGivenAnew(t *testing.T) {
	k := scene(t)
	full := strings.Repeat("x", 16384)
	for _, id := range []int{opened, wasCut} {
		next := k.in(t)
		next.turnless(data(id, 0, full) + data(id, 0, full[:16382]))
		if next.st.Recv != 32769 {
			t.Error(next.st.Recv)
		}
		next.turnless(data(id, 0, "x"))
		if next.st.Recv != 32768 {
			t.Error(next.st.Recv)
		}
		next.in(t).turn(data(id, 0, full), "", "WINDOW_UPDATE 0 49151")
		next.turnless(data(id, 0, ""))
		next.turn(data(id, 0, "x"), "", "WINDOW_UPDATE 0 32768")
		if next.st.Recv != 65535 {
			t.Error(next.st.Recv)
		}
		next.turnless(data(id, 0, "x"))
	}
	// Also behind a frame by which the stream is cut.
	k.in(t).turn(data(opened, 0, full)+data(halfDone, 0, full), gone(halfDone), resetOf(halfDone, streamClosed)+"; WINDOW_UPDATE 0 32768")
	k.in(t).turn(data(opened, 0, full)+data(counted, 0, full), gone(counted), resetOf(counted, protocolError)+"; WINDOW_UPDATE 0 32768")
	// None where the connection is dead.
	next := k.withRecv(32769).in(t)
	next.turn(data(wasDone, 0, full), goneAll, goaway(15, streamClosed))
	for _, room := range []int{12, 13, 25, 26} {
		next := filled(t, room, func(k *talk) {
			k.feed(headers(3, 5, get))
			k.feed(headers(5, 4, get))
			k.feed(data(5, 0, full))
		})
		waits := len(strings.Join(next.st.Out.Parts, ""))
		next.want("events", next.feed(data(3, 0, full)), gone(3))
		next.wantDead(map[bool]api.Code{true: calm}[room < 26])
		if room < 13 && next.st.Recv != 32767 {
			t.Errorf("of a dead one Recv is %d", next.st.Recv)
		}
		if n := len(strings.Join(next.st.Out.Parts, "")) - waits; n != min(room/13, 2)*13 {
			t.Errorf("with the room %d %d bytes more wait", room, n)
		}
	}
}

func TestWindowOfAStream(t *testing.T) {
	full := strings.Repeat("x", 16384)
	for _, last := range []struct {
		frame string
		is    bool
	}{
		{data(3, 0, full[:16383]), true},
		{data(3, 1, full[:16383]), true},
		{data(3, 0, full), false},
		{data(3, 1, full), false},
		{data(3, 8, padded(full[:16127], 255)), true},
		{data(3, 8, padded(full[:16128], 255)), false},
		{data(3, 9, padded(full[:16300], 83)), false},
	} {
		k := scene(t)
		k.turn(strings.Repeat(data(3, 0, full), 3), "", "WINDOW_UPDATE 0 32768")
		if k.st.List[0].Recv != 16383 {
			t.Fatal(k.st.List[0])
		}
		if last.is {
			k.turnless(last.frame)
			if k.st.List[0].Recv != 0 || k.st.Recv != 32768 {
				t.Error(k.st)
			}
			k.wantDead(noError)
			continue
		}
		k.turn(last.frame, gone(3), resetOf(3, flowError)+"; WINDOW_UPDATE 0 32768")
		k.wantDead(noError)
	}
	// A window with nothing left takes a frame of nothing, and of nothing else.
	k := scene(t)
	k.turn(strings.Repeat(data(3, 0, full), 3)+data(3, 0, full[1:]), "", "WINDOW_UPDATE 0 32768")
	k.turnless(data(3, 0, ""))
	k.in(t).turnless(data(3, 1, ""))
	k.in(t).turn(data(3, 0, "x"), gone(3), resetOf(3, flowError)+"; WINDOW_UPDATE 0 32768")
	k.in(t).turn(data(3, 8, padded("", 0)), gone(3), resetOf(3, flowError)+"; WINDOW_UPDATE 0 32768")
	// What is wrong with the state goes ahead of the stream's window; that ahead of the length.
	k.in(t).turn(data(3, 1, "")+data(3, 0, "x"), gone(3), resetOf(3, streamClosed)+"; WINDOW_UPDATE 0 32768")
	k = greeted(t)
	k.feed(headers(3, 4, post+plain("content-length", "65535")))
	k.turn(strings.Repeat(data(3, 0, full), 3), "", "WINDOW_UPDATE 0 32768")
	k.in(t).turn(data(3, 1, full), gone(3), resetOf(3, flowError)+"; WINDOW_UPDATE 0 32768")
	k.in(t).turnless(data(3, 1, full[1:]))
	k.in(t).turn(data(3, 1, full[2:]), gone(3), resetOf(3, protocolError))
}

func TestDataAndTheLength(t *testing.T) {
	k := scene(t)
	for _, x := range []struct {
		frames string
		is     bool
	}{
		{data(15, 1, "12345"), true},
		{data(15, 0, "12345"), true},
		{data(15, 0, "123") + data(15, 1, "45"), true},
		{data(15, 0, "12345") + data(15, 1, ""), true},
		{data(15, 0, "1") + data(15, 0, "") + data(15, 0, "234"), true},
		{data(15, 9, padded("12345", 9)), true},
		{data(15, 8, padded("1234", 9)), true},
		{data(15, 0, "123456"), false},
		{data(15, 1, "123456"), false},
		{data(15, 1, "1234"), false},
		{data(15, 1, ""), false},
		{data(15, 0, "12345") + data(15, 0, "6"), false},
		{data(15, 0, "12345") + data(15, 1, "6"), false},
		{data(15, 0, "123") + data(15, 1, "4"), false},
		{data(15, 9, padded("1234", 1)), false},
		{data(15, 8, padded("123456", 0)), false},
	} {
		next := k.in(t)
		if x.is {
			next.turnless(x.frames)
			if conn.Open(next.st) != 4 {
				t.Errorf("%x: %+v", x.frames, next.st.List)
			}
			continue
		}
		next.turn(x.frames+ping, gone(15), resetOf(15, protocolError)+"; PING ack 12345678")
		next.wantDead(noError)
	}
	next := k.in(t)
	next.feed(headers(17, 4, post+plain("content-length", "0")))
	next.in(t).turnless(data(17, 0, "") + data(17, 1, ""))
	next.in(t).turn(data(17, 0, "x"), gone(17), resetOf(17, protocolError))
	next.in(t).turn(data(17, 1, "x"), gone(17), resetOf(17, protocolError))
}

// P20.5: the others.

func TestResetByClass(t *testing.T) {
	k := scene(t)
	for _, code := range []int{0, 1, 8, 99, mostValue} {
		for _, id := range []int{opened, halfDone, halfSaid, counted} {
			next := k.in(t)
			next.turn(reset(id, code), gone(id), "")
			next.wantDead(noError)
			if ids.Class(next.st.IDs, id) != ids.Gone || conn.Open(next.st) != 3 || len(next.st.List) != 3 {
				t.Errorf("%+v", next.st.IDs)
			}
			next.in(t).turnless(reset(id, code))
			next.in(t).turn(data(id, 0, ""), strings.TrimPrefix(strings.Replace("; "+goneAll, "; "+gone(id), "", 1), "; "), goaway(15, streamClosed))
		}
		for _, id := range []int{passed, wasCut, wasReset, wasDone} {
			next := k.in(t)
			was := clone(next.st)
			next.turnless(reset(id, code))
			if !alike(was, next.st) {
				t.Errorf("a reset of stream %d has changed something", id)
			}
		}
		for _, id := range []int{idle, idle + 2, greatest, 2, 16, 18, greatest - 1} {
			next := k.in(t)
			next.turn(reset(id, code), goneAll, goaway(15, protocolError))
			next.wantDead(protocolError)
		}
	}
}

func TestAcknowledgements(t *testing.T) {
	k := greeted(t)
	if k.st.Held != mostValue || conn.Agreed(k.st) != mostValue {
		t.Error(k.st.Held)
	}
	next := k.in(t)
	next.turnless(ack)
	if next.st.Held != 4 || len(next.st.Sent) != 0 || conn.Agreed(next.st) != 4 {
		t.Error(next.st.Held, next.st.Sent)
	}
	next.turn(ack, "", goaway(0, protocolError))
	next.wantDead(protocolError)
	for _, n := range []int{2, 9, 5} {
		if !k.limit(n) {
			t.Fatal(n)
		}
	}
	k.want("what waits", k.sent(), "SETTINGS 3=2; SETTINGS 3=9; SETTINGS 3=5")
	for i, n := range []int{4, 2, 9, 5} {
		k.turnless(bytesOf(4, 255, 0, ""))
		if k.st.Held != n || len(k.st.Sent) != 3-i {
			t.Errorf("behind %d: Held %d, Sent %v", i+1, k.st.Held, k.st.Sent)
		}
	}
	k.feed(headers(1, 5, get))
	k.turn(ack+ping, "gone 1", goaway(1, protocolError))
	k.wantDead(protocolError)
}

func TestAcknowledgementWithoutStreams(t *testing.T) {
	for _, l := range [][]api.Pair{nil, {{ID: 6, Value: 9}}, {{ID: 1, Value: 3}, {ID: 4, Value: 3}}} {
		k := greeted(t)
		k.feed(ack)
		k.st.Sent, k.m.sent = unack.Queue{{Pairs: l}, {Pairs: []api.Pair{{ID: 3, Value: 7}, {ID: 6, Value: 3}}}}, []item{{l, 0}, {[]api.Pair{{ID: 3, Value: 7}, {ID: 6, Value: 3}}, 0}}
		k.turnless(ack)
		if k.st.Held != 4 || len(k.st.Sent) != 1 {
			t.Error(k.st.Held, k.st.Sent)
		}
		k.turnless(ack)
		if k.st.Held != 7 {
			t.Error(k.st.Held)
		}
	}
}

func TestSettingsThatAreWrong(t *testing.T) {
	k := scene(t)
	for _, x := range []struct {
		id    uint16
		value int
		code  api.Code
	}{
		{2, 2, protocolError}, {2, mostValue, protocolError},
		{4, 1 << 31, flowError}, {4, mostValue, flowError},
		{5, 16383, protocolError}, {5, 0, protocolError}, {5, 1 << 24, protocolError}, {5, mostValue, protocolError},
	} {
		for _, b := range []string{set(x.id, x.value), settings(api.Pair{ID: 4, Value: 9}, api.Pair{ID: x.id, Value: uint32(x.value)}), settings(api.Pair{ID: x.id, Value: uint32(x.value)}, api.Pair{ID: 2, Value: 3})} {
			next := k.in(t)
			next.turn(b+ping, goneAll, goaway(15, x.code))
			next.wantDead(x.code)
		}
	}
	for _, b := range []string{set(2, 0), set(2, 1), set(4, 1<<31-1), set(5, 16384), set(5, 1<<24-1), set(0, mostValue), set(7, 3), set(255, mostValue), set(1, mostValue), set(3, 0), set(6, 0)} {
		next := k.in(t)
		next.turn(b, "", "SETTINGS ack")
		next.wantDead(noError)
	}
}

func TestSettingsShiftTheWindows(t *testing.T) {
	hold := func(k *talk, want ...int) {
		t.Helper()
		l := []int{k.st.Send}
		for _, s := range k.st.List {
			l = append(l, s.Send)
		}
		if !slices.Equal(l, want) {
			t.Errorf("the windows are %v, not %v", l, want)
		}
	}
	k := scene(t)
	k.say(opened, 60000)
	for k.sent() != "" {
	}
	hold(k, 5535, 5535, 65535, 65535, 65535)
	k.turn(set(4, 0), "", "SETTINGS ack")
	hold(k, 5535, -60000, 0, 0, 0)
	k.turn(set(4, 70000), "", "SETTINGS ack")
	hold(k, 5535, 10000, 70000, 70000, 70000)
	k = scene(t)
	k.turn(update(0, 100000), "", "")
	k.turn(set(4, 1000), "", "SETTINGS ack")
	hold(k, 165535, 1000, 1000, 1000, 1000)
	k.say(opened, 5000)
	k.want("what waits", k.sent(), "HEADERS 3 200; DATA 3 1000")
	hold(k, 164535, 0, 1000, 1000, 1000)
	k.turn(set(4, 100), "", "SETTINGS ack")
	hold(k, 164535, -900, 100, 100, 100)
	k.turn(set(4, 0), "", "SETTINGS ack")
	hold(k, 164535, -1000, 0, 0, 0)
	k.turn(update(opened, 1000), "", "")
	hold(k, 164535, 0, 0, 0, 0)
	k.turn(update(opened, 1), "", "DATA 3 1")
	k.turn(set(4, 7), "", "SETTINGS ack; DATA 3 7")
	hold(k, 164527, 0, 7, 7, 7)
	k.turn(settings(api.Pair{ID: 4, Value: 0}, api.Pair{ID: 4, Value: 9}), "", "SETTINGS ack; DATA 3 2")
	k.turn(settings(api.Pair{ID: 1, Value: 0}), "", "SETTINGS ack")
	hold(k, 164525, 0, 9, 9, 9)
}

func TestSettingsShiftTooFar(t *testing.T) {
	for _, id := range []int{opened, halfDone, counted} {
		k := scene(t)
		k.turnless(update(id, greatest-65535-10))
		k.in(t).turn(set(4, 65545), "", "SETTINGS ack")
		k.in(t).turn(set(4, 0)+set(4, 65545), "", "SETTINGS ack; SETTINGS ack")
		next := k.in(t)
		next.turn(set(4, 65546)+ping, goneAll, goaway(15, flowError))
		next.wantDead(flowError)
		k.in(t).turn(set(4, greatest), goneAll, goaway(15, flowError))
		// Without that stream it is all right.
		next = k.in(t)
		next.turn(reset(id, 8)+set(4, 65546), gone(id), "SETTINGS ack")
		if next.st.Peer.Window != 65546 || next.st.List[1].Send != 65546 {
			t.Errorf("%+v", next.st.Peer)
		}
	}
	k := scene(t)
	k.turn(set(4, greatest), "", "SETTINGS ack")
	if k.st.List[0].Send != greatest || k.st.Send != 65535 {
		t.Error(k.st.List)
	}
}

func TestSettingsOfTheTable(t *testing.T) {
	k := scene(t)
	for _, n := range []int{0, 1, 100, 4095, 4096, 4097, mostValue} {
		next := k.in(t)
		next.turn(set(1, n), "", "SETTINGS ack")
		most := min(n, 4096)
		if next.st.Peer.Table != n || next.st.Enc.Last != most || next.st.Enc.Least != most {
			t.Errorf("Table %d: %+v", n, next.st.Enc)
		}
		next.answer(opened, response.Response{Status: 404, Length: 7, Retry: 9}, 7)
		next.want("what waits", next.sent(), "HEADERS 3 404; DATA 3 7 end")
		if next.st.Enc.Table.Max != most || len(next.st.Enc.Table.List) > 0 != (most > 99) {
			t.Errorf("Table %d: %+v", n, next.st.Enc)
		}
	}
	// The least one is told too.
	k.turn(set(1, 50)+set(1, 3000), "", "SETTINGS ack; SETTINGS ack")
	if k.st.Enc.Least != 50 || k.st.Enc.Last != 3000 {
		t.Errorf("%+v", k.st.Enc)
	}
	k.say(opened, 0)
	k.want("what waits", k.sent(), "HEADERS 3 200 end")
	if k.st.Enc.Table.Max != 3000 {
		t.Errorf("%+v", k.st.Enc)
	}
}

func TestSettingsAreKept(t *testing.T) {
	k := greeted(t)
	k.turn(settings(api.Pair{ID: 1, Value: 5}, api.Pair{ID: 2, Value: 0}, api.Pair{ID: 3, Value: 7}, api.Pair{ID: 4, Value: 8}, api.Pair{ID: 5, Value: 20000}, api.Pair{ID: 6, Value: 9}, api.Pair{ID: 3, Value: 6}, api.Pair{ID: 77, Value: 1}), "", "SETTINGS ack")
	p := k.st.Peer
	if p.Table != 5 || p.Push != 0 || p.Streams != 6 || p.Window != 8 || p.Frame != 20000 || p.List != 9 {
		t.Errorf("%+v", p)
	}
	if k.st.Send != 65535 || k.st.Held != mostValue || k.st.Told != 4 {
		t.Errorf("%+v", k.st)
	}
}

func TestPing(t *testing.T) {
	k := scene(t)
	was := clone(k.st)
	k.in(t).turn(bytesOf(6, 0, 0, "\x00abcdef\xff"), "", "PING ack \x00abcdef\xff")
	k.in(t).turn(bytesOf(6, 254, 0, "12345678"), "", "PING ack 12345678")
	k.in(t).turn(ping+bytesOf(6, 0, 0, "87654321"), "", "PING ack 12345678; PING ack 87654321")
	for _, flags := range []byte{1, 255} {
		k.turnless(bytesOf(6, flags, 0, "12345678"))
		if !alike(was, k.st) {
			t.Error("a PING with Ack has changed something")
		}
	}
	next, _ := conn.Feed(k.st, []byte(ping))
	if _, b := conn.Drain(next, 99); string(b) != bytesOf(6, 1, 0, "12345678") {
		t.Errorf("%x", b)
	}
}

func TestUpdateOfTheConnection(t *testing.T) {
	k := scene(t)
	for _, n := range []int{1, 5, greatest - 65535} {
		next := k.in(t)
		next.turnless(update(0, n))
		if next.st.Send != 65535+n || next.st.List[0].Send != 65535 {
			t.Error(next.st.Send)
		}
	}
	for _, n := range []int{greatest - 65534, greatest} {
		next := k.in(t)
		next.turn(update(0, n), goneAll, goaway(15, flowError))
		next.wantDead(flowError)
	}
	next := k.in(t)
	next.turn(update(0, 0), goneAll, goaway(15, protocolError))
	next = k.in(t)
	next.turnless(update(0, greatest-65535))
	next.turn(update(0, 1), goneAll, goaway(15, flowError))
	// The number's highest bit counts for nothing.
	next = k.in(t)
	next.turnless(update(0, -1<<31+3))
	if next.st.Send != 65538 {
		t.Error(next.st.Send)
	}
}

func TestUpdateByClass(t *testing.T) {
	k := scene(t)
	for i, id := range []int{opened, halfDone, halfSaid, counted} {
		for _, n := range []int{1, 5, greatest - 65535} {
			next := k.in(t)
			next.turnless(update(id, n))
			for j, s := range next.st.List {
				if want := 65535 + map[bool]int{true: n}[i == j]; s.Send != want {
					t.Errorf("stream %d: Send %d", s.ID, s.Send)
				}
			}
			if next.st.Send != 65535 {
				t.Error(next.st.Send)
			}
		}
		for _, n := range []int{greatest - 65534, greatest} {
			next := k.in(t)
			next.turn(update(id, n)+ping, gone(id), resetOf(id, flowError)+"; PING ack 12345678")
			next.wantDead(noError)
			if ids.Class(next.st.IDs, id) != ids.Cut {
				t.Error(next.st.IDs)
			}
		}
	}
	for _, n := range []int{1, greatest} {
		for _, id := range []int{passed, wasCut, wasReset, wasDone} {
			next := k.in(t)
			was := clone(next.st)
			next.turnless(update(id, n) + update(id, n))
			if !alike(was, next.st) {
				t.Errorf("a WINDOW_UPDATE of stream %d has changed something", id)
			}
		}
		for _, id := range []int{idle, idle + 2, greatest, 2, 16, 18} {
			next := k.in(t)
			next.turn(update(id, n), goneAll, goaway(15, protocolError))
			next.wantDead(protocolError)
		}
	}
}

func TestTheOthersCountForNothing(t *testing.T) {
	k := scene(t)
	was := clone(k.st)
	l := []string{bytesOf(7, 0, 0, four(0)+four(0)), bytesOf(7, 255, 0, four(99)+four(2)+"bye"), bytesOf(10, 0, 0, ""), bytesOf(10, 255, 0, "xyz"), bytesOf(255, 1, 0, strings.Repeat("x", 16384))}
	for _, id := range []int{passed, opened, halfDone, halfSaid, wasCut, wasReset, wasDone, counted, idle, 2, 18, greatest, greatest - 1} {
		l = append(l, bytesOf(2, 0, id, "\x00\x00\x00\x05\x09"), bytesOf(2, 255, id, four(id)+"\x09"), bytesOf(10, 5, id, "x"), bytesOf(200, 0, id, ""))
	}
	for _, b := range l {
		k.turnless(b)
		if !alike(was, k.st) {
			t.Fatalf("%x has changed something", b)
		}
	}
	for _, id := range []int{0, passed, opened, wasCut, idle, 2} {
		next := k.in(t)
		next.turn(bytesOf(5, 4, id, four(2)+get), goneAll, goaway(15, protocolError))
		next.wantDead(protocolError)
	}
}
