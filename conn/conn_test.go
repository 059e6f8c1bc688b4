package conn_test

import (
	"math"
	"reflect"
	"slices"
	"strconv"
	"strings"
	"testing"

	"footman/api"
	"footman/conn"
	"footman/dyntab"
	"footman/hdec"
	"footman/henc"
	"footman/ids"
	"footman/outq"
	"footman/sets"
	"footman/split"
	"footman/unack"
)

func TestConstants(t *testing.T) {
	if conn.Asked != 0 || conn.Gone != 1 || conn.Chunk != 1024 || conn.Reserve != 4096 || conn.Low != 32768 {
		t.Error(conn.Asked, conn.Gone, conn.Chunk, conn.Reserve, conn.Low)
	}
}

// P20.1: New.

// edges are numbers that are within two bounds, just below and just above them, and far outside.
func edges(least, most int) (in, out []int) {
	in = []int{least, least + 1, (least + most) / 2, most - 1, most}
	out = []int{least - 1, least - 2, -1 << 32, math.MinInt, most + 1, most + 2, most + 1<<32, math.MaxInt}
	return in, out
}

func TestNewBounds(t *testing.T) {
	streamsIn, streamsOut := edges(1, 16)
	waitIn, waitOut := edges(1, mostTick)
	nowIn, nowOut := edges(0, mostTick)
	for _, streams := range slices.Concat(streamsIn, streamsOut) {
		for _, wait := range slices.Concat(waitIn, waitOut) {
			for _, now := range slices.Concat(nowIn, nowOut) {
				st, e := conn.New(streams, wait, now)
				isRight := slices.Contains(streamsIn, streams) && slices.Contains(waitIn, wait) && slices.Contains(nowIn, now)
				if !isRight && (e != api.ErrRange || !alike(st, conn.State{})) {
					t.Errorf("New(%d, %d, %d): error %d, %+v", streams, wait, now, e, st)
				}
				if isRight && (e != api.OK || st.Told != streams || st.Wait != wait || st.Now != now) {
					t.Errorf("New(%d, %d, %d): error %d, %+v", streams, wait, now, e, st)
				}
			}
		}
	}
}

func TestNewIsMadeSo(t *testing.T) {
	for streams := 1; streams <= 16; streams++ {
		st, e := conn.New(streams, 7, 12345)
		own := []api.Pair{{ID: 3, Value: uint32(streams)}, {ID: 6, Value: 1024}}
		out := bytesOf(4, 0, 0, pairsOf(own))
		want := conn.State{
			Dec:  hdec.State{Table: dyntab.Table{Max: 4096}, Cap: 4096},
			Enc:  henc.State{Table: dyntab.Table{Max: 4096}, Least: 4096, Last: 4096},
			Peer: sets.Values{Table: 4096, Push: 1, Streams: mostValue, Window: 65535, Frame: 16384, List: mostValue},
			Sent: unack.Queue{{Pairs: own, Since: 12345}},
			Held: mostValue,
			Told: streams,
			Send: 65535,
			Recv: 65535,
			Out:  outq.Queue{Parts: []string{out}, Made: len(out)},
			Now:  12345,
			Wait: 7,
		}
		if e != api.OK || !alike(st, want) {
			t.Errorf("New(%d, 7, 12345) = error %d, %+v", streams, e, st)
		}
		if conn.Open(st) != 0 || conn.Agreed(st) != mostValue {
			t.Errorf("of a new one Open is %d, Agreed %d", conn.Open(st), conn.Agreed(st))
		}
		k := newTalk(t, streams, 7, 12345)
		k.want("what waits", k.sent(), "SETTINGS 3="+strconv.Itoa(streams)+" 6=1024")
		k.want("what waits then", k.sent(), "")
	}
}

func TestTwoNewShareNothing(t *testing.T) {
	a, _ := conn.New(5, 7, 1)
	b, _ := conn.New(5, 7, 1)
	if share(a, b) {
		t.Error("two new ones share memory")
	}
}

// P20.2: Feed.

func TestFeedOfNothing(t *testing.T) {
	for _, k := range []*talk{newTalk(t, 1, 1, 0), greeted(t), scene(t)} {
		was := clone(k.st)
		if told := k.feed(""); told != "" || !alike(k.st, was) {
			t.Error("fed nothing, it has changed", told)
		}
	}
}

// turnless feeds bytes of which nothing is told, and behind which nothing waits.
func (k *talk) turnless(bytes string) {
	k.t.Helper()
	k.turn(bytes, "", "")
}

func TestFeedOfDead(t *testing.T) {
	failed := scene(t)
	failed.want("events", failed.feed(data(passed, 0, "x")), goneAll)
	failed.wantDead(streamClosed)
	failed.wantSilent()
	stuck := filled(t, 16, func(k *talk) { k.feed(headers(3, 5, get)) })
	stuck.want("events", stuck.feed(ping), "")
	stuck.wantDead(calm)
	stuck.wantSilent()
}

func TestPrefaceIsHeldByteByByte(t *testing.T) {
	for i := range len(preface) {
		wrong := []byte(preface)
		wrong[i] ^= 0x20
		k := newTalk(t, 2, 9, 0)
		k.turn(string(wrong)+settings(), "", "SETTINGS 3=2 6=1024; GOAWAY 0 1")
		k.wantDead(protocolError)
		if k.st.Begun || !k.st.Split.Dead {
			t.Error(i, k.st)
		}
		k.wantSilent()
		k = newTalk(t, 2, 9, 0)
		k.turn(preface[:i], "", "SETTINGS 3=2 6=1024")
		k.wantDead(noError)
		k.turnless(preface[i:])
		k.turn(settings(), "", "SETTINGS ack")
		k.wantDead(noError)
	}
}

func TestFirstFrame(t *testing.T) {
	payloads := []string{"x", get, "\x00\x00\x00\x03\x07", four(8), "", "", "12345678", four(0) + four(0), four(5), get, "x", ""}
	kinds := []byte{0, 1, 2, 3, 4, 5, 6, 7, 8, 9, 10, 255}
	for i, kind := range kinds {
		for _, id := range []int{0, 1, 2} {
			for _, flags := range []byte{0, 4, 5, 1, 254, 255} {
				k := newTalk(t, 3, 9, 0)
				first := bytesOf(kind, flags, id, payloads[i])
				if kind == 4 && flags%2 == 0 {
					// SETTINGS is a first one, right or wrong.
					k.turn(preface+first, "", map[bool]string{true: "SETTINGS 3=3 6=1024; SETTINGS ack", false: "SETTINGS 3=3 6=1024; GOAWAY 0 1"}[id == 0])
					if !k.st.Begun {
						t.Errorf("behind a first SETTINGS on stream %d it has not begun", id)
					}
					continue
				}
				k.turn(preface+first+settings(), "", "SETTINGS 3=3 6=1024; GOAWAY 0 1")
				k.wantDead(protocolError)
				if k.st.Begun {
					t.Errorf("behind a first frame %d with the flags %d it has begun", kind, flags)
				}
			}
		}
	}
}

func TestFirstFrameThatCannotBeRead(t *testing.T) {
	// What is no SETTINGS is a ProtocolError, though it could not be read either; of SETTINGS that can't be read their own code counts.
	for _, x := range []struct {
		first string
		code  api.Code
		begun bool
	}{
		{bytesOf(6, 0, 0, "1234567"), protocolError, false},
		{bytesOf(8, 0, 0, four(0)), protocolError, false},
		{bytesOf(3, 0, 1, "123"), protocolError, false},
		{bytesOf(2, 0, 1, "123"), protocolError, false},
		{bytesOf(4, 1, 0, "123456"), protocolError, false},
		{bytesOf(4, 0, 0, "12345"), sizeError, true},
		{bytesOf(4, 0, 5, ""), protocolError, true},
		{set(4, 1<<31), flowError, true},
		{set(2, 2), protocolError, true},
	} {
		k := newTalk(t, 3, 9, 0)
		k.turn(preface+x.first, "", "SETTINGS 3=3 6=1024; GOAWAY 0 "+strconv.Itoa(int(x.code)))
		k.wantDead(x.code)
		if k.st.Begun != x.begun {
			t.Errorf("%x: Begun is %v", x.first, k.st.Begun)
		}
	}
}

func TestBehindTheFirstFrame(t *testing.T) {
	k := newTalk(t, 3, 9, 0)
	k.turn(preface, "", "SETTINGS 3=3 6=1024")
	if k.st.Begun {
		t.Error("it has begun behind the preface")
	}
	k.turn(settings()+ack+ping+settings(), "", "SETTINGS ack; PING ack 12345678; SETTINGS ack")
	k.wantDead(noError)
	if !k.st.Begun {
		t.Error("it has not begun")
	}
}

// between are frames of all kinds, right ones and such that can't be read, of which none may stand in a block of a stream.
func between(id int) []string {
	other := id + 2
	l := []string{ack, settings(), ping, bytesOf(6, 1, 0, "12345678"), bytesOf(7, 0, 0, four(0)+four(0)), update(0, 5), update(0, 0), bytesOf(6, 0, 0, "1"), bytesOf(4, 0, 0, "1"), bytesOf(9, 4, 0, ""), bytesOf(10, 0, 0, "")}
	for _, n := range []int{id, other} {
		l = append(l, data(n, 0, "x"), headers(n, 4, get), headers(n, 0, get), bytesOf(2, 0, n, "12345"), bytesOf(2, 0, n, "1234"), reset(n, 8), bytesOf(5, 4, n, ""), update(n, 5), update(n, 0), bytesOf(10, 0, n, "x"), bytesOf(255, 255, n, ""))
	}
	return append(l, bytesOf(9, 4, other, ""), bytesOf(9, 0, other, "x"), bytesOf(9, 4, 2, ""))
}

func TestNothingStandsInABlock(t *testing.T) {
	begun := scene(t)
	begun.turnless(headers(idle, 0, get))
	trailing := scene(t)
	trailing.turnless(headers(opened, 1, "") + bytesOf(9, 0, opened, ""))
	for id, k := range map[int]*talk{idle: begun, opened: trailing} {
		for _, b := range between(id) {
			next := k.in(t)
			next.turn(b, goneAll, "GOAWAY 15 1")
			next.wantDead(protocolError)
		}
		next := k.in(t)
		next.feed(bytesOf(9, 4, id, ""))
		next.wantDead(noError)
	}
}

// faulty are frames of which frame.Read tells a fault of the connection, by the fault.
func faulty() map[string]api.Code {
	l := map[string]api.Code{}
	for _, b := range []string{
		data(0, 0, "x"), headers(0, 4, get), bytesOf(2, 0, 0, "12345"), bytesOf(2, 0, 0, "1"), reset(0, 8), bytesOf(9, 4, 0, ""),
		bytesOf(4, 0, 3, ""), bytesOf(4, 1, 3, ""), bytesOf(6, 0, 3, "12345678"), bytesOf(7, 0, 3, four(0)+four(0)), bytesOf(4, 0, 17, ""),
		bytesOf(5, 4, 0, four(2)), bytesOf(5, 4, 3, four(2)), bytesOf(5, 4, 9, four(2)), bytesOf(5, 4, 2, four(2)), bytesOf(5, 4, 17, four(2)),
		data(3, 8, "\x01"), data(3, 8, "\x03ab"), headers(17, 12, "\x04"+get), data(9, 8, "\x01"), data(1, 8, "\x01"),
		update(0, 0), update(0, -1<<31),
	} {
		l[b] = protocolError
	}
	for _, b := range []string{
		data(3, 8, ""), headers(17, 8, ""), headers(17, 36, "1234"), headers(17, 44, padded("1234", 1)), bytesOf(3, 0, 3, ""), bytesOf(3, 0, 3, "123"), bytesOf(3, 0, 3, "12345"), bytesOf(3, 0, 9, "123"),
		bytesOf(4, 0, 0, "1"), bytesOf(4, 0, 0, "12345"), bytesOf(4, 0, 0, "1234567"), bytesOf(4, 1, 0, "123456"), bytesOf(4, 1, 0, "1"),
		bytesOf(6, 0, 0, ""), bytesOf(6, 0, 0, "1234567"), bytesOf(6, 1, 0, "123456789"), bytesOf(7, 0, 0, "1234567"), bytesOf(7, 0, 0, ""),
		bytesOf(8, 0, 3, "123"), bytesOf(8, 0, 3, "12345"), bytesOf(8, 0, 0, ""), bytesOf(8, 0, 17, "123"),
	} {
		l[b] = sizeError
	}
	return l
}

func TestFaultsOfTheConnection(t *testing.T) {
	k := scene(t)
	for b, code := range faulty() {
		next := k.in(t)
		next.turn(b+ping, goneAll, "GOAWAY 15 "+strconv.Itoa(int(code)))
		next.wantDead(code)
	}
}

func TestFaultsOfAStream(t *testing.T) {
	k := scene(t)
	for _, x := range []struct {
		payload func(id int) string
		code    string
	}{
		{func(id int) string { return bytesOf(2, 0, id, "1234") }, "6"},
		{func(id int) string { return bytesOf(2, 0, id, "") }, "6"},
		{func(id int) string { return bytesOf(2, 255, id, "123456") }, "6"},
		{func(id int) string { return update(id, 0) }, "1"},
		{func(id int) string { return update(id, -1<<31) }, "1"},
	} {
		for _, id := range []int{opened, halfDone, halfSaid, counted} {
			next := k.in(t)
			next.turn(x.payload(id)+ping, "gone "+strconv.Itoa(id), "RST_STREAM "+strconv.Itoa(id)+" "+x.code+"; PING ack 12345678")
			next.wantDead(noError)
			if ids.Class(next.st.IDs, id) != ids.Cut || len(next.st.List) != 3 {
				t.Errorf("stream %d was not cut", id)
			}
		}
		for _, id := range []int{passed, wasCut, wasReset, wasDone} {
			next := k.in(t)
			next.turn(x.payload(id)+ping, "", "PING ack 12345678")
			if ids.Class(next.st.IDs, id) != ids.Class(k.st.IDs, id) || len(next.st.List) != 4 {
				t.Errorf("stream %d is another one", id)
			}
		}
		for _, id := range []int{idle, idle + 2, greatest, 2, 4, 16, greatest - 1} {
			next := k.in(t)
			next.turn(x.payload(id)+ping, goneAll, "GOAWAY 15 "+x.code)
			next.wantDead(api.Code(x.code[0] - '0'))
		}
	}
}

// long is a frame's head that says too much.
const long = "\x00\x40\x01\x00\x00\x00\x00\x00\x03"

func TestFaultsOfTheBytes(t *testing.T) {
	k := scene(t)
	next := k.in(t)
	next.turn(ping+long+ping, goneAll, "PING ack 12345678; GOAWAY 15 6")
	next.wantDead(sizeError)
	if !next.st.Split.Dead {
		t.Error("the bytes may go on")
	}
	next = k.in(t)
	next.turnless(long[:8])
	next.turn(long[8:], goneAll, "GOAWAY 15 6")
	next.wantDead(sizeError)
	next = k.in(t)
	next.turn(data(passed, 0, "")+long, goneAll, "GOAWAY 15 5")
	next.wantDead(streamClosed)
	next = k.in(t)
	next.turn(headers(idle, 0, get)+long, goneAll, "GOAWAY 15 6")
	next.wantDead(sizeError)
	next = k.in(t)
	next.turn("\xff\xff\xff\x63\x00\x00\x00\x00\x00", goneAll, "GOAWAY 15 6")
	most := k.in(t)
	most.turnless(bytesOf(99, 0, 0, strings.Repeat("x", 16384)))
	most.wantDead(noError)
}

func TestBehindTheFrameThatKills(t *testing.T) {
	// What stands behind is not taken, whether it is a frame, whole or not, or none.
	for _, behind := range []string{"", "x", ping, ping[:12], headers(idle, 5, get), long, settings(), data(passed, 0, "x")} {
		k := scene(t)
		k.turn(update(passed, 5)+reset(idle, 8)+behind, goneAll, "GOAWAY 15 1")
		k.wantDead(protocolError)
		if k.st.Split != (split.State{Got: 24}) {
			t.Errorf("behind the frame that kills %q is held", k.st.Split.Buf)
		}
		k.wantSilent()
	}
}

func TestFramesUpToADeath(t *testing.T) {
	k := scene(t)
	k.turn(headers(idle, 5, get)+reset(opened, 8)+data(wasReset, 0, "")+reset(counted, 8)+headers(idle+2, 5, get),
		"asked 17 {GET http /  -1 3} end; gone 3; gone 5; gone 7; gone 15; gone 17", "GOAWAY 17 5")
}

func TestEventsHaveNothingBeside(t *testing.T) {
	k := scene(t)
	_, l := conn.Feed(k.st, []byte(headers(idle, 5, get)+data(idle, 0, "x")+reset(opened, 8)))
	want := []conn.Event{{Kind: conn.Asked, Stream: idle, End: true}, {Kind: conn.Gone, Stream: idle}, {Kind: conn.Gone, Stream: opened}}
	want[0].Req.Method, want[0].Req.Scheme, want[0].Req.Path, want[0].Req.Length, want[0].Req.Rank = "GET", "http", "/", -1, 3
	if !reflect.DeepEqual(l, want) {
		t.Errorf("%+v", l)
	}
}
