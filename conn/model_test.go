package conn_test

import (
	"slices"
	"strconv"
	"strings"

	"footman/api"
	"footman/conn"
	"footman/fhead"
	"footman/frame"
	"footman/hdec"
	"footman/henc"
	"footman/request"
	"footman/sets"
)

const (
	preface   = "PRI * HTTP/2.0\r\n\r\nSM\r\n\r\n"
	mostRoom  = 65536
	mostValue = 1<<32 - 1
	greatest  = 1<<31 - 1 // of a window, an increment, and a stream's number
	mostTick  = 1 << 40
)

// Codes, by their numbers.
const (
	noError          = 0
	protocolError    = 1
	flowError        = 3
	settingsTimeout  = 4
	streamClosed     = 5
	sizeError        = 6
	compressionError = 9
	calm             = 11
)

// stream is an open stream, as the model has it: each side has ended, or not.
type stream struct {
	id           int
	theirs, ours bool
	send, recv   int
	want, got    int
	answered     bool
	from, left   int
}

type item struct {
	pairs []api.Pair
	since int
}

type openBlock struct {
	id   int
	data string
	end  bool
}

// model is a connection, told once more: it changes as it goes, and takes one byte behind the other.
type model struct {
	greeted           int
	buf               []byte
	broken            bool // the bytes are no frames
	begun, away, dead bool
	stuck             bool // dead, since a frame that is no GOAWAY of a failure had no room
	code              api.Code
	block             openBlock
	dec               hdec.State
	enc               henc.State
	peer              sets.Values
	sent              []item
	held, told        int
	last              int
	list              []stream
	cut               []int
	send, recv        int
	out               []byte
	gone              int
	now, wait         int
	events            []conn.Event
}

func newModel(streams, wait, now int) model {
	dec, _ := hdec.New(4096)
	m := model{
		dec:  dec,
		enc:  henc.New(),
		peer: sets.Values{Table: 4096, Push: 1, Streams: mostValue, Window: 65535, Frame: 16384, List: mostValue},
		held: mostValue,
		told: streams,
		send: 65535,
		recv: 65535,
		now:  now,
		wait: wait,
	}
	m.set(api.Pair{ID: 3, Value: uint32(streams)}, api.Pair{ID: 6, Value: 1024})
	return m
}

func (m model) fork() model {
	m.buf, m.sent, m.list, m.cut, m.out = slices.Clone(m.buf), slices.Clone(m.sent), slices.Clone(m.list), slices.Clone(m.cut), slices.Clone(m.out)
	return m
}

// bytesOf lays a frame by hand.
func bytesOf(kind, flags byte, id int, payload string) string {
	n := len(payload)
	return string([]byte{byte(n >> 16), byte(n >> 8), byte(n), kind, flags, byte(id >> 24), byte(id >> 16), byte(id >> 8), byte(id)}) + payload
}

// four is a number in four bytes.
func four(n int) string {
	return string([]byte{byte(n >> 24), byte(n >> 16), byte(n >> 8), byte(n)})
}

func pairsOf(l []api.Pair) string {
	s := ""
	for _, p := range l {
		s += string([]byte{byte(p.ID >> 8), byte(p.ID)}) + four(int(p.Value))
	}
	return s
}

func (m *model) put(s string) {
	if m.dead {
		return
	}
	if len(m.out)+len(s) > mostRoom {
		m.dead, m.stuck, m.code = true, true, calm
		return
	}
	m.out = append(m.out, s...)
}

func (m *model) set(l ...api.Pair) {
	m.put(bytesOf(4, 0, 0, pairsOf(l)))
	m.sent = append(m.sent, item{l, m.now})
}

func (m *model) fail(code api.Code) {
	m.put(bytesOf(7, 0, 0, four(m.last)+four(int(code))))
	if !m.dead {
		m.dead, m.code = true, code
	}
	m.stuck = false
	for _, s := range m.list {
		m.events = append(m.events, conn.Event{Kind: conn.Gone, Stream: s.id})
	}
	m.list = nil
}

func (m *model) at(id int) int {
	return slices.IndexFunc(m.list, func(s stream) bool { return s.id == id })
}

func (m *model) drop(id int) { m.list = slices.Delete(m.list, m.at(id), m.at(id)+1) }

// reset cuts a stream; one that was not asked of is in no list.
func (m *model) reset(id int, code api.Code) {
	m.put(bytesOf(3, 0, id, four(int(code))))
	m.cut = append(m.cut, id)
	if len(m.cut) > 8 {
		m.cut = m.cut[1:]
	}
	if m.at(id) >= 0 {
		m.drop(id)
		m.events = append(m.events, conn.Event{Kind: conn.Gone, Stream: id})
	}
}

func (m *model) class(id int) string {
	switch {
	case id < 1 || id%2 == 0:
		return "bad"
	case id > m.last:
		return "idle"
	case m.at(id) >= 0:
		return "open"
	case slices.Contains(m.cut, id):
		return "cut"
	}
	return "gone"
}

// over ends a stream that both sides have ended.
func (m *model) over(id int) {
	if s := m.list[m.at(id)]; s.theirs && s.ours {
		m.drop(id)
	}
}

func (m *model) feed(b string) []conn.Event {
	m.events = nil
	for i := 0; i < len(b) && !m.dead; i++ {
		m.take(b[i])
	}
	return m.events
}

func (m *model) take(c byte) {
	if m.greeted < len(preface) {
		if c != preface[m.greeted] {
			m.broken = true
			m.fail(protocolError)
			return
		}
		m.greeted++
		return
	}
	m.buf = append(m.buf, c)
	if len(m.buf) < 9 {
		return
	}
	n := int(m.buf[0])*65536 + int(m.buf[1])*256 + int(m.buf[2])
	if n > 16384 {
		m.broken = true
		m.fail(sizeError)
		return
	}
	if len(m.buf) < 9+n {
		return
	}
	b := m.buf
	m.buf = nil
	id := int(b[5]&127)*16777216 + int(b[6])*65536 + int(b[7])*256 + int(b[8])
	m.whole(b[3], b[4], id, string(b[9:]))
	m.pump()
}

// whole takes a whole frame.
func (m *model) whole(kind, flags byte, id int, payload string) {
	if !m.begun && (kind != 4 || flags%2 == 1) {
		m.fail(protocolError)
		return
	}
	m.begun = true
	if m.block.id != 0 && kind != 9 {
		m.fail(protocolError)
		return
	}
	f, fault := frame.Read(fhead.Head{Len: len(payload), Type: kind, Flags: flags, Stream: id}, payload)
	if fault.Code != 0 {
		switch {
		case fault.Stream == 0 || m.class(id) == "idle" || m.class(id) == "bad":
			m.fail(fault.Code)
		case m.class(id) == "open":
			m.reset(id, fault.Code)
		}
		return
	}
	switch kind {
	case 0:
		m.data(f, len(payload))
	case 1, 9:
		m.headers(f)
	case 3, 8:
		m.resetOrWindow(f)
	case 4:
		m.settings(f)
	case 6:
		if flags%2 == 0 {
			m.put(bytesOf(6, 1, 0, payload))
		}
	}
}

func (m *model) headers(f frame.Frame) {
	if f.Type == 9 && (m.block.id == 0 || m.block.id != f.Stream) {
		m.fail(protocolError)
		return
	}
	if f.Type == 1 {
		m.block = openBlock{f.Stream, "", f.Flags%2 == 1}
	}
	m.block.data += f.Data
	if len(m.block.data) > 4096 {
		m.fail(calm)
		return
	}
	if f.Flags&4 == 0 {
		return
	}
	b := m.block
	m.block = openBlock{}
	dec, l, fits, e := hdec.Block(m.dec, []byte(b.data))
	if e != api.OK {
		m.fail(compressionError)
		return
	}
	m.dec = dec
	switch m.class(b.id) {
	case "bad":
		m.fail(protocolError)
	case "gone":
		m.fail(streamClosed)
	case "idle":
		m.request(b, l, fits)
	case "open":
		m.trailers(b, l, fits)
	}
}

func (m *model) request(b openBlock, l []api.Field, fits bool) {
	if len(m.list) == 16 {
		m.fail(calm)
		return
	}
	m.last = b.id
	q, is := request.Read(l, b.end)
	if !fits {
		m.reset(b.id, calm)
		return
	}
	if !is {
		m.reset(b.id, protocolError)
		return
	}
	m.list = append(m.list, stream{id: b.id, theirs: b.end, send: m.peer.Window, recv: 65535, want: q.Length})
	m.events = append(m.events, conn.Event{Kind: conn.Asked, Stream: b.id, Req: q, End: b.end})
}

func (m *model) trailers(b openBlock, l []api.Field, fits bool) {
	s := &m.list[m.at(b.id)]
	switch {
	case s.theirs:
		m.reset(b.id, streamClosed)
	case !b.end:
		m.reset(b.id, protocolError)
	case !fits:
		m.reset(b.id, calm)
	case !request.Trailers(l), s.want >= 0 && s.got != s.want:
		m.reset(b.id, protocolError)
	default:
		s.theirs = true
		m.over(b.id)
	}
}

func (m *model) data(f frame.Frame, n int) {
	switch m.class(f.Stream) {
	case "bad", "idle":
		m.fail(protocolError)
		return
	case "gone":
		m.fail(streamClosed)
		return
	}
	if m.recv < n {
		m.fail(flowError)
		return
	}
	m.recv -= n
	if m.class(f.Stream) == "open" {
		m.body(f, n)
	}
	if m.recv < 32768 {
		m.put(bytesOf(8, 0, 0, four(65535-m.recv)))
		m.recv = 65535
	}
}

func (m *model) body(f frame.Frame, n int) {
	s := &m.list[m.at(f.Stream)]
	if s.theirs {
		m.reset(f.Stream, streamClosed)
		return
	}
	if s.recv < n {
		m.reset(f.Stream, flowError)
		return
	}
	s.recv -= n
	s.got += len(f.Data)
	s.theirs = f.Flags%2 == 1
	if s.want >= 0 && (s.got > s.want || s.theirs && s.got < s.want) {
		m.reset(f.Stream, protocolError)
		return
	}
	m.over(f.Stream)
}

func (m *model) resetOrWindow(f frame.Frame) {
	if f.Type == 8 && f.Stream == 0 {
		if m.send+f.Inc > greatest {
			m.fail(flowError)
			return
		}
		m.send += f.Inc
		return
	}
	switch m.class(f.Stream) {
	case "bad", "idle":
		m.fail(protocolError)
	case "open":
		s := &m.list[m.at(f.Stream)]
		switch {
		case f.Type == 3:
			m.drop(f.Stream)
			m.events = append(m.events, conn.Event{Kind: conn.Gone, Stream: f.Stream})
		case s.send+f.Inc > greatest:
			m.reset(f.Stream, flowError)
		default:
			s.send += f.Inc
		}
	}
}

func (m *model) settings(f frame.Frame) {
	if f.Flags%2 == 1 {
		if len(m.sent) == 0 {
			m.fail(protocolError)
			return
		}
		for _, p := range m.sent[0].pairs {
			if p.ID == 3 {
				m.held = int(p.Value)
			}
		}
		m.sent = m.sent[1:]
		return
	}
	peer, code := sets.Apply(m.peer, f.Pairs)
	if code != 0 {
		m.fail(code)
		return
	}
	by := peer.Window - m.peer.Window
	for _, s := range m.list {
		if s.send+by > greatest || s.send+by < -greatest {
			m.fail(flowError)
			return
		}
	}
	for i := range m.list {
		m.list[i].send += by
	}
	m.peer = peer
	m.enc, _ = henc.Limit(m.enc, peer.Table)
	m.put(bytesOf(4, 1, 0, ""))
}

// letters are the bytes of a body from a place on.
func letters(from, n int) string {
	b := make([]byte, n)
	for i := range b {
		b[i] = "abcdefghijklmnopqrstuvwxyz"[(from+i)%26]
	}
	return string(b)
}

func (m *model) pump() {
	for _, was := range slices.Clone(m.list) {
		for {
			if m.dead || m.at(was.id) < 0 {
				break
			}
			s := &m.list[m.at(was.id)]
			n := min(m.send, s.send, 1024, s.left)
			if n < 1 || mostRoom-len(m.out) < n+9+4096 {
				break
			}
			flags := byte(0)
			if n == s.left {
				flags, s.ours = 1, true
			}
			m.put(bytesOf(0, flags, s.id, letters(s.from, n)))
			m.send -= n
			s.send -= n
			s.from += n
			s.left -= n
			m.over(s.id)
		}
	}
}

// fieldsOf are an answer's fields.
func fieldsOf(status, length, retry int) []api.Field {
	l := []api.Field{{Name: ":status", Value: strconv.Itoa(status)}, {Name: "content-length", Value: strconv.Itoa(length)}}
	if retry != 0 {
		l = append(l, api.Field{Name: "retry-after", Value: strconv.Itoa(retry)})
	}
	return l
}

func (m *model) answer(id, status, length, retry, body int) api.Errno {
	switch {
	case m.dead:
		return api.ErrState
	case m.at(id) < 0:
		return api.ErrNone
	case m.list[m.at(id)].answered:
		return api.ErrState
	case status < 100 || status > 599 || length < 0 || length > 999999999 || retry < 0 || retry > 999999999:
		return api.ErrRange
	case body < 0 || body > 65536:
		return api.ErrRange
	}
	enc, b, _ := henc.Block(m.enc, fieldsOf(status, length, retry))
	m.enc = enc
	flags := byte(4)
	if body == 0 {
		flags = 5
	}
	m.put(bytesOf(1, flags, id, string(b)))
	s := &m.list[m.at(id)]
	s.answered, s.from, s.left, s.ours = true, 0, body, body == 0
	m.over(id)
	m.pump()
	return api.OK
}

func (m *model) refuse(id int, code api.Code) api.Errno {
	switch {
	case m.dead:
		return api.ErrState
	case m.at(id) < 0:
		return api.ErrNone
	}
	m.reset(id, code)
	return api.OK
}

func (m *model) limit(n int) bool {
	if m.dead || n < 1 || n > 16 || n == m.told || len(m.sent) > 3 {
		return false
	}
	m.set(api.Pair{ID: 3, Value: uint32(n)})
	m.told = n
	return true
}

func (m *model) tick(now int) []conn.Event {
	m.events = nil
	if now <= m.now || now > mostTick {
		return nil
	}
	m.now = now
	if !m.dead && len(m.sent) > 0 && m.sent[0].since+m.wait <= now {
		m.fail(settingsTimeout)
	}
	return m.events
}

func (m *model) shut() {
	if !m.dead && !m.away {
		m.put(bytesOf(7, 0, 0, four(m.last)+four(0)))
		m.away = true
	}
}

func (m *model) drain(n int) string {
	n = max(0, min(n, len(m.out)))
	s := string(m.out[:n])
	m.out = slices.Clone(m.out[n:])
	m.gone += n
	m.pump()
	return s
}

func (m *model) agreed() int {
	n := m.held
	for _, x := range m.sent {
		for _, p := range x.pairs {
			if p.ID == 3 {
				n = max(n, int(p.Value))
			}
		}
	}
	return n
}

// differs tells in what a state is not the model's. Of a dead one less is asked: nothing hangs on the rest any more.
func (m *model) differs(st conn.State) string {
	var l []string
	hold := func(what string, is bool) {
		if !is {
			l = append(l, what)
		}
	}
	out := strings.Join(st.Out.Parts, "")
	hold("Dead", st.Dead == m.dead)
	hold("Code", st.Code == m.code)
	hold("Begun", st.Begun == m.begun)
	hold("Now", st.Now == m.now)
	hold("Wait", st.Wait == m.wait)
	hold("Out", out == string(m.out))
	hold("Made", st.Out.Made == m.gone+len(m.out))
	hold("Gone", st.Out.Gone == m.gone)
	if m.stuck {
		return strings.Join(l, " ")
	}
	hold("IDs.Last", st.IDs.Last == m.last)
	hold("List", slices.EqualFunc(st.List, m.list, isStream))
	hold("IDs.Open", slices.EqualFunc(st.IDs.Open, m.list, func(id int, s stream) bool { return id == s.id }))
	hold("Open", conn.Open(st) == len(m.list))
	hold("Dec", hdec.Same(st.Dec, m.dec))
	hold("Enc", henc.Same(st.Enc, m.enc))
	hold("Sent", len(st.Sent) == len(m.sent))
	for i := range min(len(st.Sent), len(m.sent)) {
		hold("Sent", st.Sent[i].Since == m.sent[i].since && slices.Equal(st.Sent[i].Pairs, m.sent[i].pairs))
	}
	hold("Held", st.Held == m.held)
	hold("Told", st.Told == m.told)
	hold("IDs.Cut", slices.Equal(st.IDs.Cut, m.cut))
	hold("Send", st.Send == m.send)
	hold("Recv", st.Recv == m.recv)
	hold("Away", st.Away == m.away)
	if m.dead {
		return strings.Join(l, " ")
	}
	hold("Split", st.Split.Got == m.greeted && st.Split.Buf == string(m.buf) && !st.Split.Dead)
	hold("Block", st.Block.Stream == m.block.id && st.Block.Data == m.block.data && st.Block.End == m.block.end)
	hold("Peer", st.Peer == m.peer)
	hold("Agreed", conn.Agreed(st) == m.agreed())
	return strings.Join(l, " ")
}

func isStream(s conn.Stream, x stream) bool {
	state := uint8(1)
	if x.theirs {
		state = 2
	}
	if x.ours {
		state = 3
	}
	return s == conn.Stream{ID: x.id, State: state, Send: x.send, Recv: x.recv, Want: x.want, Got: x.got, Told: x.answered, From: x.from, Left: x.left}
}
