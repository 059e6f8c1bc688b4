package conn_test

import (
	"fmt"
	"maps"
	"reflect"
	"slices"
	"strconv"
	"strings"
	"testing"

	"footman/api"
	"footman/block"
	"footman/conn"
	"footman/frame"
	"footman/hdec"
	"footman/henc"
	"footman/ids"
	"footman/outq"
	"footman/response"
	"footman/sets"
	"footman/split"
	"footman/unack"
	"footman/window"
)

// copied is a copy of a value, in memory of its own, with so much room behind each slice, in which something stands. Of slices with no elements it makes nil where there is to be no room.
func copied(v reflect.Value, room int) reflect.Value {
	to := reflect.New(v.Type()).Elem()
	to.Set(v)
	switch v.Kind() {
	case reflect.Struct:
		for i := range v.NumField() {
			to.Field(i).Set(copied(v.Field(i), room))
		}
	case reflect.Slice:
		to.SetZero()
		if v.Len()+room == 0 {
			return to
		}
		l := reflect.MakeSlice(v.Type(), v.Len()+room, v.Len()+room)
		for i := range v.Len() {
			l.Index(i).Set(copied(v.Index(i), room))
		}
		for i := range room {
			fill(l.Index(v.Len() + i))
		}
		to.Set(l.Slice(0, v.Len()))
	}
	return to
}

// fill writes something into all of a value that has none.
func fill(v reflect.Value) {
	switch v.Kind() {
	case reflect.Struct:
		for i := range v.NumField() {
			fill(v.Field(i))
		}
	case reflect.String:
		v.SetString("behind")
	case reflect.Int:
		v.SetInt(-54321)
	case reflect.Uint8, reflect.Uint16, reflect.Uint32:
		v.SetUint(77)
	case reflect.Bool:
		v.SetBool(true)
	}
}

func clone(st conn.State) conn.State { return copied(reflect.ValueOf(st), 0).Interface().(conn.State) }

func roomy(st conn.State) conn.State { return copied(reflect.ValueOf(st), 2).Interface().(conn.State) }

func alike(a, b conn.State) bool { return reflect.DeepEqual(clone(a), clone(b)) }

// eachList goes through all slices that have memory.
func eachList(v reflect.Value, do func(reflect.Value)) {
	switch v.Kind() {
	case reflect.Struct:
		for i := range v.NumField() {
			eachList(v.Field(i), do)
		}
	case reflect.Slice:
		if v.Cap() > 0 {
			do(v)
		}
		for i := range v.Len() {
			eachList(v.Index(i), do)
		}
	}
}

// whole tells all that stands in a state's slices, with what stands in the room behind them.
func whole(st conn.State) []any {
	var l []any
	eachList(reflect.ValueOf(st), func(v reflect.Value) {
		l = append(l, copied(v.Slice(0, v.Cap()), 0).Interface())
	})
	return l
}

// stretch is where a slice's memory begins, and where it ends, its room behind it too.
type stretch [2]uintptr

func memory(st conn.State) []stretch {
	var l []stretch
	eachList(reflect.ValueOf(st), func(v reflect.Value) {
		l = append(l, stretch{v.Pointer(), v.Pointer() + uintptr(v.Cap())*v.Type().Elem().Size()})
	})
	return l
}

// share tells whether two slices of states have memory in common; none shares with itself.
func share(states ...conn.State) bool {
	var l []stretch
	for _, st := range states {
		l = append(l, memory(st)...)
	}
	slices.SortFunc(l, func(a, b stretch) int { return slices.Compare(a[:], b[:]) })
	for i := range l {
		if i > 0 && l[i][0] < l[i-1][1] {
			return true
		}
	}
	return false
}

// talk is a connection, and the model beside it; and the other side, which reads what comes.
type talk struct {
	t     *testing.T
	st    conn.State
	m     model
	log   []string
	raws  split.State
	dec   hdec.State
	heard []string
	said  map[int][]api.Field // what was answered, by streams
	sizes map[int]int         // and how many bytes
	got   map[int]int
	over  bool // the last frame was the GOAWAY of a failure
}

func newTalk(t *testing.T, streams, wait, now int) *talk {
	t.Helper()
	st, e := conn.New(streams, wait, now)
	if e != api.OK {
		t.Fatalf("New(%d, %d, %d): error %d", streams, wait, now, e)
	}
	dec, _ := hdec.New(4096)
	k := &talk{t: t, st: st, m: newModel(streams, wait, now), raws: split.State{Got: 24}, dec: dec, said: map[int][]api.Field{}, sizes: map[int]int{}, got: map[int]int{}}
	k.note(fmt.Sprintf("New(%d, %d, %d)", streams, wait, now))
	k.hold()
	return k
}

// fork is the same talk, which goes on for itself.
func (k *talk) fork() *talk {
	next := *k
	next.st, next.m = clone(k.st), k.m.fork()
	next.log, next.heard = slices.Clone(k.log), slices.Clone(k.heard)
	next.said, next.sizes, next.got = maps.Clone(k.said), maps.Clone(k.sizes), maps.Clone(k.got)
	return &next
}

// in is the talk in a test of its own.
func (k *talk) in(t *testing.T) *talk {
	next := k.fork()
	next.t = t
	return next
}

func (k *talk) note(what string) {
	if len(what) > 200 {
		what = what[:200] + ".."
	}
	k.log = append(k.log, what)
}

func (k *talk) fatal(what string, more ...any) {
	k.t.Helper()
	l := k.log
	if len(l) > 12 {
		l = append([]string{".."}, l[len(l)-12:]...)
	}
	k.t.Fatalf("%s\nbehind %s", fmt.Sprintf(what, more...), strings.Join(l, "\n  "))
}

// hold holds the state against the model, and against what may be.
func (k *talk) hold() {
	k.t.Helper()
	if s := k.m.differs(k.st); s != "" {
		k.fatal("not as it should be: %s\nis %+v\nmodel %+v", s, k.st, k.m)
	}
	if s := outOfBounds(k.st); s != "" {
		k.fatal("out of bounds: %s", s)
	}
}

// do does a call on the connection and on the model. The call is done twice on a state with room behind all slices, which is to stay as it is; no two of the three states may share memory, but where nothing changed.
func (k *talk) do(what string, call func(conn.State) (conn.State, any), by func(*model) any) any {
	k.t.Helper()
	k.note(what)
	came := roomy(k.st)
	was, all := clone(came), whole(came)
	next, told := call(came)
	kept := clone(next)
	again, twice := call(came)
	if !alike(came, was) || !reflect.DeepEqual(whole(came), all) {
		k.fatal("it changed what came in")
	}
	if !alike(next, kept) || !alike(next, again) || !reflect.DeepEqual(told, twice) {
		k.fatal("it did not answer twice the same: %+v, %+v", told, twice)
	}
	if !alike(next, was) && share(came, next, again) {
		k.fatal("it shares memory")
	}
	k.st = kept
	if want := by(&k.m); fmt.Sprintf("%+v", told) != fmt.Sprintf("%+v", want) {
		k.fatal("it told %+v, not %+v", told, want)
	}
	k.hold()
	return told
}

// textOf tells events by words.
func textOf(l []conn.Event) string {
	var all []string
	for _, e := range l {
		s := "gone " + strconv.Itoa(e.Stream)
		if e.Kind == conn.Asked {
			s = fmt.Sprintf("asked %d %v", e.Stream, e.Req)
			if e.End {
				s += " end"
			}
		}
		all = append(all, s)
	}
	return strings.Join(all, "; ")
}

// feed feeds bytes, from a slice with room behind, over which is written then.
func (k *talk) feed(parts ...string) string {
	k.t.Helper()
	s := strings.Join(parts, "")
	told := k.do(fmt.Sprintf("Feed %d bytes %x", len(s), s), func(st conn.State) (conn.State, any) {
		b := []byte(s + "behind")
		next, l := conn.Feed(st, b[:len(s)])
		if string(b) != s+"behind" {
			k.fatal("Feed changed the bytes")
		}
		clear(b)
		return next, l
	}, func(m *model) any { return m.feed(s) })
	return textOf(told.([]conn.Event))
}

func (k *talk) answer(id int, x response.Response, body int) api.Errno {
	k.t.Helper()
	e := k.do(fmt.Sprintf("Answer %d %v %d", id, x, body), func(st conn.State) (conn.State, any) {
		next, e := conn.Answer(st, id, x, body)
		if e != api.OK && !alike(next, st) {
			k.fatal("an error, and not as it was")
		}
		return next, e
	}, func(m *model) any { return m.answer(id, x.Status, x.Length, x.Retry, body) }).(api.Errno)
	if e == api.OK {
		k.said[id], k.sizes[id] = fieldsOf(x.Status, x.Length, x.Retry), body
	}
	return e
}

// say answers, where nothing hinders it.
func (k *talk) say(id, body int) {
	k.t.Helper()
	if e := k.answer(id, response.Response{Status: 200, Length: body}, body); e != api.OK {
		k.fatal("error %d", e)
	}
}

func (k *talk) refuse(id int, code api.Code) api.Errno {
	k.t.Helper()
	return k.do(fmt.Sprintf("Refuse %d %d", id, code), func(st conn.State) (conn.State, any) {
		next, e := conn.Refuse(st, id, code)
		if e != api.OK && !alike(next, st) {
			k.fatal("an error, and not as it was")
		}
		return next, e
	}, func(m *model) any { return m.refuse(id, code) }).(api.Errno)
}

func (k *talk) limit(n int) bool {
	k.t.Helper()
	return k.do(fmt.Sprintf("Limit %d", n), func(st conn.State) (conn.State, any) {
		next, is := conn.Limit(st, n)
		if !is && !alike(next, st) {
			k.fatal("false, and not as it was")
		}
		return next, is
	}, func(m *model) any { return m.limit(n) }).(bool)
}

func (k *talk) tick(now int) string {
	k.t.Helper()
	told := k.do(fmt.Sprintf("Tick %d", now), func(st conn.State) (conn.State, any) {
		next, l := conn.Tick(st, now)
		return next, l
	}, func(m *model) any { return m.tick(now) })
	return textOf(told.([]conn.Event))
}

func (k *talk) shut() {
	k.t.Helper()
	k.do("Shut", func(st conn.State) (conn.State, any) { return conn.Shut(st), nil }, func(m *model) any {
		m.shut()
		return nil
	})
}

// drain takes bytes off, which the other side reads.
func (k *talk) drain(n int) string {
	k.t.Helper()
	s := k.do(fmt.Sprintf("Drain %d", n), func(st conn.State) (conn.State, any) {
		next, b := conn.Drain(st, n)
		s := string(b)
		for i := range b[:cap(b)] {
			b[:cap(b)][i] = 0xee
		}
		return next, s
	}, func(m *model) any { return m.drain(n) }).(string)
	k.hear(s)
	return s
}

// sent takes off all that waits, and tells the frames that came whole since it was asked last.
func (k *talk) sent() string {
	k.t.Helper()
	k.drain(1 << 30)
	s := strings.Join(k.heard, "; ")
	k.heard = nil
	return s
}

// hear reads bytes as frames. Behind the GOAWAY of a failure there is to be none.
func (k *talk) hear(s string) {
	k.t.Helper()
	next, l, code := split.Feed(k.raws, []byte(s))
	if code != api.NoError {
		k.fatal("what went out is no frames")
	}
	k.raws = next
	for _, raw := range l {
		f, fault := frame.Read(raw.Head, raw.Data)
		if fault != (frame.Fault{}) {
			k.fatal("a frame that went out is wrong: %v", raw)
		}
		if k.over {
			k.fatal("behind the GOAWAY of a failure there is %v", f)
		}
		k.heard = append(k.heard, k.named(f))
	}
}

// named tells a frame by words, and holds a stream's frames against what was answered.
func (k *talk) named(f frame.Frame) string {
	k.t.Helper()
	name := []string{"DATA", "HEADERS", "?", "RST_STREAM", "SETTINGS", "?", "PING", "GOAWAY", "WINDOW_UPDATE"}[f.Type]
	s := name + " " + strconv.Itoa(f.Stream)
	switch f.Type {
	case 0:
		s += " " + strconv.Itoa(len(f.Data))
		if f.Data != letters(k.got[f.Stream], len(f.Data)) || len(f.Data) == 0 || len(f.Data) > 1024 {
			k.fatal("DATA of stream %d at %d: %.40q", f.Stream, k.got[f.Stream], f.Data)
		}
		k.got[f.Stream] += len(f.Data)
	case 1:
		dec, l, is, e := hdec.Block(k.dec, []byte(f.Data))
		k.dec = dec
		if e != api.OK || !is || f.Flags&4 == 0 || !slices.Equal(l, k.said[f.Stream]) {
			k.fatal("HEADERS of stream %d: %v, error %d, not %v", f.Stream, l, e, k.said[f.Stream])
		}
		s += " " + l[0].Value
	case 3:
		s += " " + strconv.Itoa(int(f.Code))
	case 4, 6:
		s = name
		if f.Flags&1 != 0 {
			s += " ack"
		}
		for _, p := range f.Pairs {
			s += " " + strconv.Itoa(int(p.ID)) + "=" + strconv.Itoa(int(p.Value))
		}
		if f.Data != "" {
			s += " " + f.Data
		}
	case 7:
		s = name + " " + strconv.Itoa(f.Last) + " " + strconv.Itoa(int(f.Code)) + f.Data
		k.over = f.Code != 0
	case 8:
		s += " " + strconv.Itoa(f.Inc)
	}
	if f.Type < 2 {
		isEnd := f.Flags&1 != 0
		if isEnd != (k.got[f.Stream] == k.sizes[f.Stream]) {
			k.fatal("stream %d ends at %d of %d: %v", f.Stream, k.got[f.Stream], k.sizes[f.Stream], isEnd)
		}
		if isEnd {
			s += " end"
		}
	}
	return s
}

// outOfBounds tells what of a state is more than the document lets it hold.
func outOfBounds(st conn.State) string {
	var l []string
	hold := func(what string, is bool) {
		if !is {
			l = append(l, what)
		}
	}
	hold("Split", split.Check(st.Split) == api.OK)
	hold("Block", block.Check(st.Block) == api.OK)
	hold("Dec", hdec.Check(st.Dec) == api.OK)
	hold("Enc", henc.Check(st.Enc) == api.OK)
	hold("Peer", sets.Check(st.Peer) == api.OK)
	hold("Sent", unack.Check(st.Sent) == api.OK)
	hold("IDs", ids.Check(st.IDs) == api.OK)
	hold("Out", outq.Check(st.Out) == api.OK)
	hold("Held", st.Held >= 0 && st.Held <= mostValue)
	hold("Told", st.Told >= 1 && st.Told <= 16)
	hold("Send", window.Check(st.Send) == api.OK)
	hold("Recv", st.Recv >= 0 && st.Recv <= 65535)
	hold("Now", st.Now >= 0 && st.Now <= mostTick)
	hold("Wait", st.Wait >= 1 && st.Wait <= mostTick)
	hold("Code", st.Dead == (st.Code != 0))
	hold("List", len(st.List) <= 16 && len(st.List) == len(st.IDs.Open))
	for i, s := range st.List {
		hold("a stream's ID", i < len(st.IDs.Open) && s.ID == st.IDs.Open[i])
		hold("a stream's State", s.State >= 1 && s.State <= 3)
		hold("a stream's Send", window.Check(s.Send) == api.OK)
		hold("a stream's Recv", s.Recv >= 0 && s.Recv <= 65535)
		hold("a stream's Want", s.Want >= -1 && s.Want <= 999999999)
		hold("a stream's Got", s.Got >= 0 && s.Got <= 65535-s.Recv)
		hold("a stream's body", s.From >= 0 && s.Left >= 0 && s.From+s.Left <= 65536 && (s.Told || s.From+s.Left == 0))
	}
	return strings.Join(l, " ")
}

// want holds two texts against each other.
func (k *talk) want(what, got, want string) {
	k.t.Helper()
	if got != want {
		k.fatal("%s: %q, not %q", what, got, want)
	}
}

// turn feeds bytes, and holds what was told, and what waits behind it, against what should be.
func (k *talk) turn(bytes, events, out string) {
	k.t.Helper()
	k.want("events", k.feed(bytes), events)
	k.want("what waits", k.sent(), out)
}

// wantDead holds that the connection died with a code, or, with none, that it lives.
func (k *talk) wantDead(code api.Code) {
	k.t.Helper()
	if k.st.Dead != (code != 0) || k.st.Code != code {
		k.fatal("Dead %v, with %d; not with %d", k.st.Dead, k.st.Code, code)
	}
}

// wantSilent holds that a dead connection takes, tells and sends nothing more, but what waits.
func (k *talk) wantSilent() {
	k.t.Helper()
	was := clone(k.st)
	for _, b := range []string{"", "x", settings(), ping, preface + settings(), headers(99, 5, get)} {
		if told := k.feed(b); told != "" {
			k.fatal("Feed of a dead one told %s", told)
		}
	}
	for _, id := range []int{-1, 0, 1, 3, 5, 7, 9, 99} {
		if e := k.answer(id, response.Response{Status: 200}, 1); e != api.ErrState {
			k.fatal("Answer of a dead one: error %d", e)
		}
		if e := k.refuse(id, 8); e != api.ErrState {
			k.fatal("Refuse of a dead one: error %d", e)
		}
	}
	for n := -1; n < 20; n++ {
		if k.limit(n) {
			k.fatal("Limit of a dead one")
		}
	}
	k.shut()
	if !alike(k.st, was) {
		k.fatal("a dead one has changed")
	}
	now := k.st.Now
	if told := k.tick(now+1) + k.tick(mostTick); told != "" {
		k.fatal("Tick of a dead one told %s", told)
	}
	if k.st.Now != mostTick {
		k.fatal("Tick of a dead one: Now is %d", k.st.Now)
	}
	k.st.Now = was.Now
	if !alike(k.st, was) {
		k.fatal("Tick of a dead one changed more than Now")
	}
	k.st.Now = mostTick
	all := strings.Join(was.Out.Parts, "")
	was.Now = mostTick
	if s := k.drain(1) + k.drain(0) + k.drain(-1) + k.drain(3) + k.drain(1<<30) + k.drain(5); s != all {
		k.fatal("of a dead one %d bytes went out, not %d", len(s), len(all))
	}
	if outq.Len(k.st.Out) != 0 {
		k.fatal("of a dead one something is left")
	}
	was.Out = k.st.Out
	if !alike(k.st, was) {
		k.fatal("Drain of a dead one changed more than what waits")
	}
}

// Frames and blocks, as their bytes.
const (
	get  = "\x82\x84\x86" // GET / http
	post = "\x83\x84\x86"
)

var (
	ping     = bytesOf(6, 0, 0, "12345678")
	ack      = bytesOf(4, 1, 0, "")
	greeting = preface + settings()
)

// plain is a field in a block, as texts, in no table.
func plain(name, value string) string {
	return "\x00" + string([]byte{byte(len(name))}) + name + string([]byte{byte(len(value))}) + value
}

// headers is HEADERS of one frame, with flags, of which 4 tells that the block is whole.
func headers(id int, flags byte, block string) string { return bytesOf(1, flags, id, block) }

func data(id int, flags byte, s string) string { return bytesOf(0, flags, id, s) }

// padded is a payload behind its Pad, with that many bytes behind.
func padded(s string, pad int) string {
	return string([]byte{byte(pad)}) + s + strings.Repeat("\x00", pad)
}

func settings(l ...api.Pair) string { return bytesOf(4, 0, 0, pairsOf(l)) }

func set(id uint16, value int) string { return settings(api.Pair{ID: id, Value: uint32(value)}) }

func update(id, n int) string { return bytesOf(8, 0, id, four(n)) }

func reset(id, code int) string { return bytesOf(3, 0, id, four(code)) }

// greeted is a talk behind the preface and both SETTINGS, of which nothing waits.
func greeted(t *testing.T) *talk {
	t.Helper()
	k := newTalk(t, 4, 50, 0)
	k.turn(greeting, "", "SETTINGS 3=4 6=1024; SETTINGS ack")
	return k
}

// Streams of each kind, that a scene has.
const (
	passed   = 1  // never began
	opened   = 3  // neither side has ended
	halfDone = 5  // the other side has
	halfSaid = 7  // this side has
	wasCut   = 9  // this side cut it off
	wasReset = 11 // the other side did
	wasDone  = 13 // both have ended
	counted  = 15 // opened, with a content-length of 5; the last one
	idle     = 17
)

const goneAll = "gone 3; gone 5; gone 7; gone 15"

// scene is a talk with streams of each kind, of which nothing waits.
func scene(t *testing.T) *talk {
	t.Helper()
	k := greeted(t)
	k.turn(headers(3, 4, post)+headers(5, 5, get)+headers(7, 4, post)+headers(9, 5, get)+headers(11, 5, get)+headers(13, 5, get)+headers(15, 4, post+plain("content-length", "5")),
		"asked 3 {POST http /  -1 3}; asked 5 {GET http /  -1 3} end; asked 7 {POST http /  -1 3}; asked 9 {GET http /  -1 3} end; asked 11 {GET http /  -1 3} end; asked 13 {GET http /  -1 3} end; asked 15 {POST http /  5 3}", "")
	k.say(7, 0)
	k.refuse(9, 8)
	k.say(13, 0)
	k.turn(reset(11, 8), "gone 11", "HEADERS 7 200 end; RST_STREAM 9 8; HEADERS 13 200 end")
	return k
}

// filled is a talk whose queue has so much room, behind what it did ahead.
func filled(t *testing.T, room int, ahead func(k *talk)) *talk {
	t.Helper()
	k := greeted(t)
	ahead(k)
	k.fillTo(room)
	return k
}

// fillTo sends what waits, and fills the queue so that there is so much room, at most 5000: by the body of a stream of its own, which ends with it, and by acknowledgements of PING. The first one of these goes in part, so that it comes out even.
func (k *talk) fillTo(room int) {
	k.t.Helper()
	const body = 58 * 1024
	k.sent()
	id := max(k.st.IDs.Last+2, 1)
	id += 1 - id%2
	k.feed(headers(id, 5, get), update(0, body))
	if w := k.st.List[len(k.st.List)-1].Send; w < body {
		k.feed(update(id, body-w))
	}
	k.say(id, body)
	k.drain((outq.Room(k.st.Out)*16 + room) % 17)
	k.feed(strings.Repeat(ping, (outq.Room(k.st.Out)-room)/17))
	if n := outq.Room(k.st.Out); n != room || ids.Class(k.st.IDs, id) != ids.Gone {
		k.fatal("the room is %d, not %d", n, room)
	}
}
