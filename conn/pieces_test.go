package conn_test

import (
	"fmt"
	"math"
	"math/rand"
	"reflect"
	"slices"
	"strings"
	"testing"

	"footman/api"
	"footman/conn"
	"footman/henc"
	"footman/request"
	"footman/response"
)

// client is another side that says many things, most of them right.
type client struct {
	r     *rand.Rand
	enc   henc.State
	wild  int  // of a hundred frames, so many are anything, and of others so many are astray; 0: none
	small bool // its windows are
}

func newClient(seed int64, wild int, small bool) *client {
	return &client{r: rand.New(rand.NewSource(seed)), enc: henc.New(), wild: wild, small: small}
}

// errs tells whether it does something by which a connection may die.
func (c *client) errs() bool { return c.r.Intn(100) < c.wild }

func (c *client) one(l ...string) string { return l[c.r.Intn(len(l))] }

// block is a list's bytes, by the table that both sides have.
func (c *client) block(l []api.Field) string {
	enc, b, e := henc.Block(c.enc, l)
	if e != api.OK {
		return ""
	}
	c.enc = enc
	return string(b)
}

// inParts is HEADERS, and CONTINUATION behind it, of a block.
func (c *client) inParts(id int, end bool, block string) string {
	flags, kind, s := byte(0), byte(1), ""
	if end {
		flags = 1
	}
	for c.r.Intn(3) == 0 {
		n := c.r.Intn(len(block) + 1)
		s += bytesOf(kind, flags, id, block[:n])
		block, kind, flags = block[n:], 9, 0
	}
	if kind == 1 && c.r.Intn(6) == 0 {
		return s + bytesOf(kind, flags|12, id, padded(block, c.r.Intn(9)))
	}
	if kind == 1 && c.r.Intn(6) == 0 {
		return s + bytesOf(kind, flags|36, id, four(c.r.Intn(9))+"\x07"+block)
	}
	return s + bytesOf(kind, flags|4, id, block)
}

func (c *client) request(st conn.State) string {
	id := st.IDs.Last + 2*c.r.Intn(2) + 2
	id -= 1 - id%2
	end := c.r.Intn(2) == 0
	q := request.Request{Method: c.one("GET", "POST", "PUT"), Scheme: c.one("http", "https"), Path: c.one("/", "/a", "/index.html"), Host: c.one("", "a", "b:1"), Length: -1, Rank: c.r.Intn(8)}
	if c.r.Intn(3) == 0 {
		q.Length = c.r.Intn(30)
		if end && c.r.Intn(8) != 0 {
			q.Length = 0
		}
	}
	l := request.Fields(q)
	for c.r.Intn(2) == 0 {
		l = append(l, api.Field{Name: c.one("a", "b", "x-longer-name"), Value: strings.Repeat("v", c.r.Intn(40)), Never: c.r.Intn(9) == 0})
	}
	switch c.r.Intn(25) {
	case 0:
		l = l[1:]
	case 1:
		l = append(l, l[0])
	case 2:
		l = append(l, api.Field{Name: "a", Value: strings.Repeat("w", 880+c.r.Intn(60))})
	case 3:
		l = append(l, api.Field{Name: c.one("Great", "te", "upgrade", ""), Value: "x"})
	}
	return c.inParts(id, end, c.block(l))
}

// id is a stream's number: of one that is open, or was cut; of one that errs of another one.
func (c *client) id(st conn.State) int {
	if c.errs() {
		return c.r.Intn(st.IDs.Last + 4)
	}
	if n := len(st.IDs.Cut); n > 0 && (c.r.Intn(12) == 0 || len(st.List) == 0) {
		return st.IDs.Cut[c.r.Intn(n)]
	}
	if n := len(st.List); n > 0 {
		return st.List[c.r.Intn(n)].ID
	}
	return max(st.IDs.Last, 1)
}

// taking is a stream that takes data, 0 if there is none.
func (c *client) taking(st conn.State) (int, int) {
	for _, i := range c.r.Perm(len(st.List)) {
		if s := st.List[i]; s.State != 2 {
			return s.ID, s.Want - s.Got
		}
	}
	return 0, 0
}

func (c *client) data(st conn.State) string {
	id, left := c.taking(st)
	if id == 0 && len(st.IDs.Cut) == 0 && !c.errs() {
		return ping
	}
	if id == 0 || c.r.Intn(40) == 0 {
		id, left = c.id(st), -1
	}
	n := c.r.Intn(20)
	if left >= 0 && c.r.Intn(9) != 0 {
		n = c.r.Intn(left + 1)
		if c.r.Intn(3) == 0 {
			n = left
		}
	}
	if left < 0 && c.r.Intn(3) == 0 {
		n = c.r.Intn(16385)
	}
	flags := byte(0)
	if left == n || left < 0 && c.r.Intn(4) == 0 || c.r.Intn(20) == 0 {
		flags = 1
	}
	s := strings.Repeat("d", n)
	if n < 9000 && c.r.Intn(5) == 0 {
		return data(id, flags|8, padded(s, c.r.Intn(256)))
	}
	return data(id, flags, s)
}

func (c *client) settings(st conn.State) string {
	if len(st.Sent) > 0 && c.r.Intn(2) == 0 || c.errs() {
		return ack
	}
	var l []api.Pair
	for c.r.Intn(3) != 0 {
		window := c.r.Intn(100000)
		if c.small {
			window = c.r.Intn(40)
		}
		l = append(l, []api.Pair{{ID: 1, Value: uint32(c.r.Intn(5000))}, {ID: 2, Value: uint32(c.r.Intn(2))}, {ID: 3, Value: uint32(c.r.Intn(20))}, {ID: 4, Value: uint32(window)}, {ID: 5, Value: uint32(16384 + c.r.Intn(9999))}, {ID: 6, Value: 7}, {ID: 9, Value: 9}}[c.r.Intn(7)])
	}
	return settings(l...)
}

func (c *client) update(st conn.State) string {
	id := 0
	if c.r.Intn(2) == 0 {
		id = c.id(st)
	}
	n := 1 + c.r.Intn(5000)
	switch k := c.r.Intn(20); {
	case k == 0 && (id != 0 || c.errs()):
		n = greatest - c.r.Intn(70000)
	case k == 1 && (id != 0 || c.errs()):
		n = 0
	}
	return update(id, n)
}

// anything is a frame of any kind, on any stream.
func (c *client) anything(st conn.State) string {
	payload := make([]byte, []int{0, 4, 5, 6, 8, c.r.Intn(20)}[c.r.Intn(6)])
	c.r.Read(payload)
	return bytesOf(byte(c.r.Intn(12)), byte(c.r.Intn(256)), c.r.Intn(st.IDs.Last+4), string(payload))
}

// says is what it says next: a frame, or a block's frames.
func (c *client) says(st conn.State) string {
	if c.errs() {
		return c.anything(st)
	}
	switch n := c.r.Intn(100); {
	case n < 30:
		return c.request(st)
	case n < 52:
		return c.data(st)
	case n < 57:
		if id, _ := c.taking(st); id != 0 {
			return c.inParts(id, c.r.Intn(9) != 0, c.block([]api.Field{{Name: c.one("a", "sum", "te"), Value: c.one("1", "trailers")}}))
		}
		return ping
	case n < 62 && (len(st.List) > 0 || c.errs()):
		return reset(c.id(st), 8)
	case n < 72:
		return c.settings(st)
	case n < 77:
		return bytesOf(6, byte(c.r.Intn(2)), 0, "12345678")
	case n < 94 && (st.IDs.Last > 0 || c.errs()):
		return c.update(st)
	case n < 96:
		return bytesOf(7, 0, 0, four(0)+four(0)+c.one("", "bye"))
	case n < 98:
		return bytesOf(2, 0, c.id(st), four(3)+"\x01")
	}
	return bytesOf(byte(10+c.r.Intn(200)), 0, c.id(st), "xyz")
}

// frames is some of what it says, one behind the other.
func (c *client) frames(st conn.State, n int) string {
	s := ""
	for range n {
		said := c.says(st)
		s += said
		st, _ = conn.Feed(st, []byte(said))
	}
	return s
}

// answers says something of a stream's request, by this side.
func (c *client) answers(k *talk) {
	k.t.Helper()
	body := []int{0, 1 + c.r.Intn(30), c.r.Intn(3000), c.r.Intn(65537)}[c.r.Intn(4)]
	k.answer(c.id(k.st), response.Response{Status: 100 + c.r.Intn(500), Length: body, Retry: c.r.Intn(3)}, body)
}

// step does one thing more, on either side. What it feeds is kept as a case.
func (c *client) step(k *talk, full, crowd bool) []fed {
	k.t.Helper()
	switch n := c.r.Intn(100); {
	case n < 50 || n < 72 && crowd:
		was, s := clone(k.st), c.frames(k.st, 1+c.r.Intn(4))
		if len(k.st.List) == 16 && !k.st.Dead && !c.errs() {
			s = c.update(k.st)
		}
		k.feed(s)
		return []fed{{was, s}}
	case n < 72:
		c.answers(k)
	case n < 75:
		k.refuse(c.id(k.st), api.Code(c.r.Intn(12)))
	case n < 78:
		k.limit(c.r.Intn(18))
	case n < 81:
		k.tick(k.st.Now + c.r.Intn(30))
	case n < 82:
		k.shut()
	case full:
		k.drain(c.r.Intn(40))
	case n < 92:
		k.drain(c.r.Intn(3000))
	default:
		k.sent()
	}
	return nil
}

// fed is bytes that come to a connection.
type fed struct {
	st    conn.State
	bytes string
}

// talks are many talks, each of a making of its own, up to a while behind a death; all that was fed on the way.
func talks(t *testing.T, n, steps int) []fed {
	t.Helper()
	var all []fed
	for seed := range n {
		c := newClient(int64(seed), []int{0, 0, 0, 1, 5}[seed%5], seed%3 == 1)
		full, crowd := seed%4 == 2, seed%7 == 3
		k := newTalk(t, 1+c.r.Intn(16), 1+c.r.Intn(500), c.r.Intn(1000))
		all = append(all, fed{clone(k.st), greeting})
		k.feed(greeting)
		k.limit(1 + c.r.Intn(16))
		for range steps {
			all = append(all, c.step(k, full, crowd)...)
			if k.st.Dead && c.r.Intn(4) == 0 {
				break
			}
		}
		for k.sent() != "" {
		}
		if k.st.Dead && !k.over && k.st.Code != api.Calm {
			k.fatal("a failure without GOAWAY")
		}
	}
	return all
}

// P20.10, and all that is ahead of it: each call is held against the model; what goes out is read; what is held is bounded.

func TestManyTalks(t *testing.T) {
	t.Parallel()
	l := talks(t, 140, 60)
	var alive, dead, full, streams int
	for _, x := range l {
		switch {
		case x.st.Dead:
			dead++
		case len(x.st.List) == 16:
			full++
		default:
			alive++
		}
		streams += len(x.st.List)
	}
	if alive < 1500 || dead < 40 || full < 20 || streams < 4000 {
		t.Errorf("the talks were too poor: %d %d %d %d", alive, dead, full, streams)
	}
}

// inPieces feeds bytes in pieces, and tells all events.
func inPieces(st conn.State, pieces ...string) (conn.State, []conn.Event) {
	var all []conn.Event
	for _, s := range pieces {
		next, l := conn.Feed(st, []byte(s))
		st = next
		all = append(all, l...)
	}
	return st, all
}

// wantSame holds that bytes in pieces do what they do at once: in what is told, in what waits, and in the state.
func wantSame(t *testing.T, x fed, pieces ...string) {
	t.Helper()
	st, l := conn.Feed(x.st, []byte(x.bytes))
	got, told := inPieces(x.st, pieces...)
	a, b := clone(st), clone(got)
	aOut, bOut := strings.Join(a.Out.Parts, ""), strings.Join(b.Out.Parts, "")
	if !slices.Equal(l, told) || aOut != bOut {
		t.Fatalf("in %d pieces of %x: told %v, not %v; %d bytes wait, not %d", len(pieces), x.bytes, told, l, len(bOut), len(aOut))
	}
	if !reflect.DeepEqual(a, b) {
		t.Fatalf("in %d pieces of %x:\n%+v\nnot\n%+v", len(pieces), x.bytes, b, a)
	}
}

// randomly cuts bytes into pieces, empty ones too.
func randomly(r *rand.Rand, s string) []string {
	var l []string
	for s != "" {
		n := min(r.Intn(1+[]int{2, 20, 200}[r.Intn(3)]), len(s))
		l = append(l, s[:n])
		s = s[n:]
	}
	return append(l, "")
}

// changed is bytes with one of them another one.
func changed(r *rand.Rand, s string) string {
	b := []byte(s)
	b[r.Intn(len(b))] ^= byte(1 << r.Intn(8))
	return string(b)
}

func TestInPieces(t *testing.T) {
	t.Parallel()
	r := rand.New(rand.NewSource(1))
	for _, x := range talks(t, 20, 40) {
		for range 2 {
			wantSame(t, x, randomly(r, x.bytes)...)
			y := fed{x.st, changed(r, x.bytes)}
			wantSame(t, y, randomly(r, y.bytes)...)
		}
		if len(x.bytes) > 300 {
			continue
		}
		wantSame(t, x, strings.Split(x.bytes, "")...)
		for i := range x.bytes {
			wantSame(t, x, x.bytes[:i], x.bytes[i:])
		}
	}
}

// saying is right bytes of many kinds, behind each other.
func saying() string {
	return greeting + ack + headers(1, 5, get) + headers(3, 0, post+adding) + bytesOf(9, 4, 3, plain("content-length", "6")) + ping +
		data(3, 8, padded("abc", 2)) + set(4, 10) + headers(5, 4, get+newest) + update(1, 5) + data(3, 1, "def") + headers(5, 5, "") +
		bytesOf(2, 0, 7, four(1)+"\x09") + reset(5, 8) + update(0, 9) + bytesOf(7, 0, 0, four(0)+four(0)) + bytesOf(99, 0, 3, "z") + headers(9, 5, "")
}

func TestEachPlaceOfASaying(t *testing.T) {
	for _, making := range [][3]int{{1, 1, 0}, {4, 50, 0}, {16, mostTick, mostTick}} {
		st, _ := conn.New(making[0], making[1], making[2])
		x := fed{st, saying()}
		wantSame(t, x, strings.Split(x.bytes, "")...)
		for i := range x.bytes {
			for j := i; j < len(x.bytes); j += 1 + len(x.bytes)/12 {
				wantSame(t, x, x.bytes[:i], x.bytes[i:j], x.bytes[j:])
			}
		}
	}
}

func TestEachByteOfASayingChanged(t *testing.T) {
	st, _ := conn.New(4, 50, 0)
	s := saying()
	for i := range s {
		for _, by := range []byte{1, 2, 4, 8, 16, 32, 64, 128, 255} {
			b := []byte(s)
			b[i] ^= by
			x := fed{st, string(b)}
			wantSame(t, x, x.bytes[:i], x.bytes[i:i+1], x.bytes[i+1:])
			if by%3 == 1 {
				k := newTalk(t, 4, 50, 0)
				k.feed(x.bytes)
				k.sent()
			}
			if i%8 == 0 {
				wantSame(t, x, strings.Split(x.bytes, "")...)
			}
		}
	}
}

func TestBytesOfNoKind(t *testing.T) {
	r := rand.New(rand.NewSource(3))
	for range 300 {
		b := make([]byte, r.Intn(200))
		r.Read(b)
		k := newTalk(t, 4, 50, 0)
		k.feed(string(b))
		k.sent()
		k = greeted(t)
		for i := range b {
			b[i] = []byte{0, 0, 0, 1, 2, 3, 4, 5, 6, 7, 8, 9, b[i]}[r.Intn(13)]
		}
		k.feed(string(b))
		k.sent()
	}
}

func TestPiecesAroundAnAnswer(t *testing.T) {
	// As long as all else keeps its place: what is done behind so many bytes.
	x := headers(17, 5, get) + headers(19, 4, post)
	y := data(19, 1, "abc") + update(17, 3) + ping
	var want conn.State
	k := scene(t)
	for i := range len(x) + 1 {
		for j := range len(y) + 1 {
			st, l := inPieces(k.st, x[:i], x[i:])
			st, e := conn.Answer(st, 17, response.Response{Status: 200}, 70000-4464)
			if e != api.OK || len(l) != 2 {
				t.Fatal(e, l)
			}
			st, _ = conn.Drain(st, 5000)
			st, l = inPieces(st, y[:j], y[j:])
			if len(l) != 0 {
				t.Fatal(l)
			}
			if i+j == 0 {
				want = clone(st)
			}
			if !alike(st, want) {
				t.Fatalf("cut at %d and %d: %+v, not %+v", i, j, st, want)
			}
		}
	}
}

func TestNothingGrows(t *testing.T) {
	// As long as it lives, and its other side takes what comes, it goes on within the same bounds.
	k := greeted(t)
	k.feed(ack)
	c := newClient(5, 0, false)
	for i := range 3000 {
		id := 2*i + 1
		block := c.block(append(request.Fields(request.Request{Method: "GET", Scheme: "http", Path: fmt.Sprintf("/%d", i), Length: -1, Rank: 3}), api.Field{Name: fmt.Sprintf("n%d", i), Value: "v"}))
		k.st, _ = conn.Feed(k.st, []byte(headers(id, 5, block)+ping))
		st, e := conn.Answer(k.st, id, response.Response{Status: 200, Length: i}, i%7)
		if e != api.OK {
			t.Fatal(e)
		}
		if i%2 == 0 {
			st, _ = conn.Feed(st, []byte(reset(id, 8)+update(0, 7)))
		}
		k.st, _ = conn.Drain(st, 1<<20)
		if s := outOfBounds(k.st); s != "" || k.st.Dead {
			t.Fatalf("behind %d streams: %s %d", i, s, k.st.Code)
		}
	}
	if len(k.st.List) != 0 || len(k.st.Out.Parts) != 0 {
		t.Errorf("%+v", k.st)
	}
}

func TestAClientThatTakesNothing(t *testing.T) {
	k := greeted(t)
	k.feed(ack)
	for i := range 16 {
		k.feed(headers(2*i+1, 5, get), update(0, 60000))
		k.say(2*i+1, 60000)
	}
	all := strings.Join(k.st.Out.Parts, "")
	if n := mostRoom - len(all); n < 4096-16*20 || n > 4096+1033 {
		t.Errorf("the room is %d", n)
	}
	for !k.st.Dead {
		k.feed(ping)
	}
	k.wantDead(calm)
	k.wantSilent()
}

// Rule 1: each call ends, of states that no call made, too.

func anyNumber(r *rand.Rand) int {
	l := []int{0, 1, 2, 3, 5, 7, 16, 17, 1000, 4096, 16384, 32767, 65535, 65536, greatest, greatest + 1, mostTick, math.MaxInt, -1, -greatest, math.MinInt}
	return l[r.Intn(len(l))]
}

// scramble writes anything into a value.
func scramble(r *rand.Rand, v reflect.Value) {
	switch v.Kind() {
	case reflect.Struct:
		for i := range v.NumField() {
			scramble(r, v.Field(i))
		}
	case reflect.Slice:
		l := reflect.MakeSlice(v.Type(), r.Intn(5), 5)
		for i := range l.Len() {
			scramble(r, l.Index(i))
		}
		v.Set(l)
	case reflect.String:
		v.SetString([]string{"", "x", greeting, ping[:7], strings.Repeat("y", 5000)}[r.Intn(5)])
	case reflect.Int:
		v.SetInt(int64(anyNumber(r)))
	case reflect.Uint8, reflect.Uint16, reflect.Uint32:
		v.SetUint(uint64(r.Intn(12)))
	case reflect.Bool:
		v.SetBool(r.Intn(4) == 0)
	}
}

// leaves are the fields of a value, and theirs, that may be changed one by one.
func leaves(v reflect.Value) []reflect.Value {
	switch v.Kind() {
	case reflect.Struct:
		var l []reflect.Value
		for i := range v.NumField() {
			l = append(l, leaves(v.Field(i))...)
		}
		return l
	case reflect.Slice:
		l := []reflect.Value{v}
		for i := range v.Len() {
			l = append(l, leaves(v.Index(i))...)
		}
		return l
	}
	return []reflect.Value{v}
}

func TestAllCallsEnd(t *testing.T) {
	r := rand.New(rand.NewSource(9))
	k := scene(t)
	k.say(opened, 5000)
	right := headers(17, 5, get) + data(3, 0, "x") + data(15, 1, "12345") + update(3, 5) + update(0, 5) + set(4, 70000) + ack + reset(5, 8) + headers(3, 5, "")
	for i := range 3000 {
		st := clone(k.st)
		v := reflect.ValueOf(&st).Elem()
		if i%3 == 0 {
			scramble(r, v)
		}
		for range 1 + r.Intn(3) {
			l := leaves(v)
			scramble(r, l[r.Intn(len(l))])
		}
		id := []int{3, 5, 7, 15, 17, anyNumber(r)}[r.Intn(6)]
		for _, b := range []string{right, ping, greeting + right, preface} {
			conn.Feed(st, []byte(b))
		}
		conn.Answer(st, id, response.Response{Status: 200}, anyNumber(r))
		conn.Answer(st, id, response.Response{Status: anyNumber(r), Length: anyNumber(r)}, 5000)
		conn.Refuse(st, id, api.Code(r.Intn(12)))
		conn.Limit(st, anyNumber(r))
		conn.Tick(st, anyNumber(r))
		conn.Shut(st)
		conn.Drain(st, anyNumber(r))
		conn.Agreed(st)
		conn.Open(st)
	}
	for _, id := range []int{-1, 0, 2, 3, math.MaxInt} {
		// A body without end, of a stream that may not be.
		st := clone(k.st)
		st.Send, st.Peer.Frame = math.MaxInt, math.MaxInt
		st.List[0] = conn.Stream{ID: id, State: 1, Send: math.MaxInt, Told: true, From: -5, Left: math.MaxInt}
		conn.Drain(st, 1)
		conn.Feed(st, []byte(right))
		st.Out.Parts = nil
		conn.Drain(st, 1)
		conn.Feed(st, []byte(right))
	}
	for _, n := range []int{-1, 0, 1, 5} {
		conn.Feed(conn.State{}, nil)
		conn.Drain(conn.State{}, n)
		conn.Tick(conn.State{}, n)
		conn.Limit(conn.State{}, n)
		conn.Answer(conn.State{}, n, response.Response{}, n)
		conn.Refuse(conn.State{}, n, 0)
	}
}
