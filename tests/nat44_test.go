package tests

import (
	"fmt"
	"slices"
	"testing"

	"loop.example/g00314/impl"
)

// natCall is one of the three calls that take a packet of IPv4 through a pool.
type natCall func(p impl.Pool, b impl.Bib, q impl.V4, now int64) impl.NatOut

// natWay is such a call of the program beside one that goes by the document's words.
type natWay struct {
	what     string
	call     natCall
	reckoned natCall
}

var (
	goes    = natWay{"NatGo", impl.NatGo, wentOut}
	comes   = natWay{"NatCome", impl.NatCome, cameIn}
	backs   = natWay{"NatBack", impl.NatBack, cameBack}
	natWays = []natWay{goes, comes, backs}
)

// natRefused is what all three ask of what is handed in.
func natRefused(p impl.Pool, b impl.Bib, q impl.V4, now int64) int64 {
	switch {
	case !poolIsRight(p), !bibIsRight(p, b), !fourIsRight(q), !among(now, 0, 1000000000):
		return impl.ErrForm
	case q.More, q.Off != 0:
		return impl.ErrFrag
	}
	return impl.OK
}

// natTouch has what both ways touch by: flags are of TCP, a peer's port is not of ICMP.
func natTouch(t impl.Touch, q impl.V4) impl.Touch {
	t.Proto = q.Proto
	switch q.Proto {
	case 6:
		t.Flags = int64(q.Data[13])
	case 1:
		t.PeerPort = 0
	}
	return t
}

// wentOut goes by the document's words, fault by fault in their order.
func wentOut(p impl.Pool, b impl.Bib, q impl.V4, now int64) impl.NatOut {
	if code := natRefused(p, b, q, now); code != impl.OK {
		return impl.NatOut{Code: code}
	}
	told := flowTold(q.Src, q.Dst, q.Proto, q.Data)
	if told.Code != impl.OK {
		return impl.NatOut{Code: told.Code}
	}
	touched := touchedBib(p, b, natTouch(touchIn(q.Src, told.Flow.SrcPort, q.Dst, told.Flow.DstPort), q), now)
	if touched.Code != impl.OK {
		return impl.NatOut{Code: touched.Code}
	}
	next := flowFrom(q.Proto, touched.Bind.Out, touched.Bind.OutPort, q.Dst, told.Flow.DstPort)
	q.Src, q.Data = touched.Bind.Out, dataFor(told.Flow, next, q.Data).Data
	return impl.NatOut{Bib: touched.Bib, Four: q}
}

// cameIn goes by the document's words, as wentOut does.
func cameIn(p impl.Pool, b impl.Bib, q impl.V4, now int64) impl.NatOut {
	if code := natRefused(p, b, q, now); code != impl.OK {
		return impl.NatOut{Code: code}
	}
	if !slices.Contains(p.Addrs, q.Dst) {
		return impl.NatOut{Code: impl.ErrNone}
	}
	told := flowTold(q.Src, q.Dst, q.Proto, q.Data)
	if told.Code != impl.OK {
		return impl.NatOut{Code: told.Code}
	}
	touched := touchedBib(p, b, natTouch(touchOut(q.Dst, told.Flow.DstPort, q.Src, told.Flow.SrcPort), q), now)
	switch {
	case touched.Code != impl.OK:
		return impl.NatOut{Code: touched.Code}
	case len(touched.Bind.In) == 16:
		return impl.NatOut{Code: impl.ErrKind}
	}
	next := told.Flow
	next.Dst, next.DstPort = touched.Bind.In, touched.Bind.InPort
	if q.Proto == 1 {
		next.SrcPort = touched.Bind.InPort
	}
	q.Dst, q.Data = touched.Bind.In, dataFor(told.Flow, next, q.Data).Data
	return impl.NatOut{Bib: touched.Bib, Four: q}
}

func cameBack(p impl.Pool, b impl.Bib, q impl.V4, now int64) impl.NatOut {
	if code := natRefused(p, b, q, now); code != impl.OK {
		return impl.NatOut{Code: code}
	}
	if q.Proto == 1 {
		return impl.NatOut{Code: impl.ErrKind}
	}
	went := wentOut(p, b, q, now)
	if went.Code != impl.OK {
		return impl.NatOut{Code: went.Code}
	}
	return cameIn(p, went.Bib, went.Four, now)
}

func wantNat(t *testing.T, what string, got impl.NatOut, want impl.NatOut) {
	t.Helper()
	wantBib(t, what, got.Bib, want.Bib)
	wantFour(t, what, impl.V4Out{Packet: got.Four, Code: got.Code}, impl.V4Out{Packet: want.Four, Code: want.Code})
	wantSix(t, what+": of six", impl.V6Out{Packet: got.Six}, impl.V6Out{Packet: want.Six})
}

// tells holds an answer against the one that was written by hand, and against the reckoned one.
func (w natWay) tells(t *testing.T, what string, p impl.Pool, b impl.Bib, q impl.V4, now int64, want impl.NatOut) {
	t.Helper()
	wantNat(t, w.what+": "+what, w.call(p, b, q, now), want)
	wantNat(t, w.what+": "+what+" (as reckoned)", w.reckoned(p, b, q, now), want)
}

// refuses asks for a code alone: nothing is told beside it.
func (w natWay) refuses(t *testing.T, what string, p impl.Pool, b impl.Bib, q impl.V4, now int64, code int64) {
	t.Helper()
	w.tells(t, what, p, b, q, now, impl.NatOut{Code: code})
}

// passes asks that a packet is taken, and as it is reckoned; what is told is handed back.
func (w natWay) passes(t *testing.T, what string, p impl.Pool, b impl.Bib, q impl.V4, now int64) impl.NatOut {
	t.Helper()
	got := w.call(p, b, q, now)
	wantNumber(t, w.what+": "+what+": code", got.Code, impl.OK)
	wantNat(t, w.what+": "+what, got, w.reckoned(p, b, q, now))
	return got
}

// flowFrom is a flow from one end to another; of ICMP the first port is both.
func flowFrom(proto int64, src string, srcPort int64, dst string, dstPort int64) impl.Flow {
	if proto == 1 {
		dstPort = srcPort
	}
	return impl.Flow{Proto: proto, Src: src, Dst: dst, SrcPort: srcPort, DstPort: dstPort}
}

// carrying is a packet with those data, and with something in each field of its header.
func carrying(f impl.Flow, data string) impl.V4 {
	return impl.V4{Tos: 184, Id: 43981, Whole: true, Ttl: 9, Proto: f.Proto, Src: f.Src, Dst: f.Dst, Options: "\x01\x01\x01\x00", Data: data}
}

func packetWith(q impl.V4, change func(q *impl.V4)) impl.V4 {
	change(&q)
	return q
}

// flagged are data of TCP with those flags; their check is not turned.
func flagged(data string, flags int64) string {
	return data[:13] + string([]byte{byte(flags)}) + data[14:]
}

// sent is a packet of a flow, of TCP with those flags, its check right.
func sent(f impl.Flow, flags int64) impl.V4 {
	data := layCarried(f, false, "what is said")
	if f.Proto == 6 {
		data = flagged(data, flags)
	}
	return carrying(f, checked(f, data))
}

// answerTo is what the other end of a packet says to it, its check right.
func answerTo(q impl.V4, flags int64) impl.V4 {
	f := flowTold(q.Src, q.Dst, q.Proto, q.Data).Flow
	back := impl.Flow{Proto: f.Proto, Src: f.Dst, Dst: f.Src, SrcPort: f.DstPort, DstPort: f.SrcPort}
	data := layCarried(back, true, "the answer.")
	if f.Proto == 6 {
		data = flagged(data, flags)
	}
	return impl.V4{Tos: 3, Id: 7, Ttl: 200, Proto: f.Proto, Src: back.Src, Dst: back.Dst, Data: checked(back, data)}
}

// withCheckOff is the packet with a check that is one more than it was, and never 0.
func withCheckOff(q impl.V4) impl.V4 {
	at := checkPlaceOf(q.Proto)
	q.Data = withWord(q.Data, at, (int64(q.Data[at])*256+int64(q.Data[at+1]))%65535+1)
	return q
}

// withoutCheck is a packet of UDP whose check is 0.
func withoutCheck(q impl.V4) impl.V4 {
	q.Data = withWord(q.Data, 6, 0)
	return q
}

// wantCarried asks for the flow of a packet, and whether its check is right.
func wantCarried(t *testing.T, what string, q impl.V4, f impl.Flow, right bool) {
	t.Helper()
	wantFlow(t, what, impl.FlowOf(q.Src, q.Dst, q.Proto, q.Data), impl.FlowOut{Flow: f})
	wantAnswer(t, what+": check", impl.CarryRight(q.Src, q.Dst, q.Proto, q.Data), right)
}

// wantElseSame asks that a packet is another one, but for its addresses, its ports and its check.
func wantElseSame(t *testing.T, what string, got impl.V4, was impl.V4) {
	t.Helper()
	f, ends := flowTold(got.Src, got.Dst, got.Proto, got.Data).Flow, was
	ends.Src, ends.Dst, ends.Data = got.Src, got.Dst, withWord(was.Data, 0, f.SrcPort)
	if was.Proto == 1 {
		ends.Data = withWord(was.Data, 4, f.SrcPort)
	} else {
		ends.Data = withWord(ends.Data, 2, f.DstPort)
	}
	at := checkPlaceOf(was.Proto)
	ends.Data = ends.Data[:at] + got.Data[at:at+2] + ends.Data[at+2:]
	wantFour(t, what+": all else", impl.V4Out{Packet: got}, impl.V4Out{Packet: ends})
}

// Packets out and answers back by hand, their bytes reckoned elsewhere.
func TestOutAndBackByHand(t *testing.T) {
	for _, c := range []struct {
		what              string
		proto             int64
		port, lent, peer  int64
		data, out         string
		answer, in        string
		begun, life       int64
		goesOn, laterLife int64
	}{
		{"UDP", impl.Udp, 1004, 1000, 53, "\x03\xec\x00\x35\x00\x0a\xc7\x45hi", "\x03\xe8\x00\x35\x00\x0a\x95\x48hi",
			"\x00\x35\x03\xe8\x00\x0b\x60\x44ok.", "\x00\x35\x03\xec\x00\x0b\x92\x41ok.", 3, 11, 3, 11},
		{"UDP, the port kept", impl.Udp, 1005, 1005, 53, "\x03\xed\x00\x35\x00\x0a\xc7\x44hi", "\x03\xed\x00\x35\x00\x0a\x95\x43hi",
			"\x00\x35\x03\xed\x00\x0b\x60\x3fok.", "\x00\x35\x03\xed\x00\x0b\x92\x40ok.", 3, 11, 3, 11},
		{"TCP", impl.Tcp, 7001, 1001, 80,
			"\x1b\x59\x00\x50\x00\x00\x00\x01\x00\x00\x00\x02\x50\x02\x03\xe8\xc4\x44\x00\x00",
			"\x03\xe9\x00\x50\x00\x00\x00\x01\x00\x00\x00\x02\x50\x02\x03\xe8\xa9\xb3\x00\x00",
			"\x00\x50\x03\xe9\x00\x00\x00\x01\x00\x00\x00\x02\x50\x12\x03\xe8\xa9\xa3\x00\x00",
			"\x00\x50\x1b\x59\x00\x00\x00\x01\x00\x00\x00\x02\x50\x12\x03\xe8\xc4\x34\x00\x00", 1, 33, 3, 44},
		{"ICMP", impl.Icmp, 7, 1001, 0, "\x08\x00\x19\x1f\x00\x07\x00\x09ping", "\x08\x00\x15\x3d\x03\xe9\x00\x09ping",
			"\x00\x00\x1d\x3d\x03\xe9\x00\x09ping", "\x00\x00\x21\x1f\x00\x07\x00\x09ping", 3, 22, 3, 22},
	} {
		p, b := homePool(), homeBib()
		q := carrying(impl.Flow{Proto: c.proto, Src: hostA, Dst: peerA}, c.data)
		bind := impl.Bind{Proto: c.proto, In: hostA, InPort: c.port, Out: lentOne, OutPort: c.lent}
		session := impl.Session{Proto: c.proto, In: hostA, InPort: c.port, Peer: peerA, PeerPort: c.peer, State: c.begun, Until: 100 + c.life}
		went := impl.NatOut{Bib: impl.Bib{Binds: append(b.Binds, bind), Sessions: append(b.Sessions, session)},
			Four: packetWith(q, func(q *impl.V4) { q.Src, q.Data = lentOne, c.out })}
		goes.tells(t, c.what, p, homeBib(), q, 100, went)

		back := impl.V4{Id: 7, Ttl: 50, Proto: c.proto, Src: peerA, Dst: lentOne, Data: c.answer}
		came := impl.NatOut{Bib: bibClone(went.Bib), Four: packetWith(back, func(q *impl.V4) { q.Dst, q.Data = hostA, c.in })}
		last := &came.Bib.Sessions[len(came.Bib.Sessions)-1]
		last.State, last.Until = c.goesOn, 120+c.laterLife
		comes.tells(t, c.what, p, went.Bib, back, 120, came)
		comes.refuses(t, c.what+", ahead of it", p, homeBib(), back, 120, impl.ErrNone)
	}
}

// Promise 14, of each proto, with each Filter, from ends that are bound and from new ones; checks that are right
// and wrong ones on both ways.
func TestOutAndBack(t *testing.T) {
	for filter := range int64(3) {
		p := filtered(filter)
		for _, proto := range bibProtos {
			for _, host := range []string{hostA, hostB, hostC} {
				for _, port := range []int64{0, 7, 1002, 1004, 1009, 65535} {
					f := flowFrom(proto, host, port, peerC, 443)
					for marks := range 4 {
						wantOutAndBack(t, p, homeBib(), f, marks&1 == 0, marks&2 == 0)
						wantOutAndBack(t, p, impl.Bib{}, f, marks&1 == 0, marks&2 == 0)
					}
				}
			}
		}
	}
}

func wantOutAndBack(t *testing.T, p impl.Pool, b impl.Bib, f impl.Flow, outRight bool, backRight bool) {
	t.Helper()
	what := fmt.Sprintf("%s, checks %v and %v", flowText(f), outRight, backRight)
	q := sent(f, syn)
	if !outRight {
		q = withCheckOff(q)
	}
	wantCarried(t, what+", ahead", q, f, outRight)
	went := goes.passes(t, what, p, b, q, 100)
	bind := impl.BindOf(went.Bib, f.Proto, f.Src, f.SrcPort)
	wantAnswer(t, what+": the end is of the pool", slices.Contains(p.Addrs, bind.Out) && among(bind.OutPort, p.Low, p.High), true)
	wantCarried(t, what+", out", went.Four, flowFrom(f.Proto, bind.Out, bind.OutPort, f.Dst, f.DstPort), outRight)
	wantElseSame(t, what+", out", went.Four, q)

	answer := answerTo(went.Four, syn|ack)
	if !backRight {
		answer = withCheckOff(answer)
	}
	came := comes.passes(t, what, p, went.Bib, answer, 101)
	back := impl.Flow{Proto: f.Proto, Src: f.Dst, Dst: f.Src, SrcPort: f.DstPort, DstPort: f.SrcPort}
	wantCarried(t, what+", back", came.Four, back, backRight)
	wantElseSame(t, what+", back", came.Four, answer)
	wantAnswer(t, what+": binds", slices.Equal(came.Bib.Binds, went.Bib.Binds), true)
	wantNumber(t, what+": sessions", int64(len(came.Bib.Sessions)), int64(len(went.Bib.Sessions)))
}

// What is asked and what answers goes out, and comes in, of ICMP.
func TestEchoesOfBothKinds(t *testing.T) {
	p, b := filtered(0), homeBib()
	for _, answers := range []bool{false, true} {
		f := flowFrom(impl.Icmp, hostA, 7, peerA, 0)
		went := goes.passes(t, "an echo", p, b, carrying(f, carriedAs(f, answers, "ping")), 100)
		wantText(t, "its first byte", went.Four.Data[:1], layCarried(f, answers, "")[:1])
		g := flowFrom(impl.Icmp, peerB, 1001, lentOne, 0)
		came := comes.passes(t, "an echo", p, went.Bib, carrying(g, carriedAs(g, answers, "pong")), 100)
		wantText(t, "its first byte, in", came.Four.Data[:1], layCarried(f, answers, "")[:1])
	}
}

// A check of 0 of UDP stays so on both ways, and is told as right; that of another proto is turned.
func TestNatWithoutCheck(t *testing.T) {
	p, b := homePool(), homeBib()
	f := flowFrom(impl.Udp, hostA, 1004, peerA, 53)
	went := goes.passes(t, "no check", p, b, withoutCheck(sent(f, 0)), 100)
	wantCarried(t, "no check, out", went.Four, flowFrom(impl.Udp, lentOne, 1000, peerA, 53), true)
	wantText(t, "no check, out", went.Four.Data[6:8], "\x00\x00")
	came := comes.passes(t, "no check", p, went.Bib, withoutCheck(answerTo(went.Four, 0)), 100)
	wantCarried(t, "no check, in", came.Four, flowFrom(impl.Udp, peerA, 53, hostA, 1004), true)
	wantText(t, "no check, in", came.Four.Data[6:8], "\x00\x00")
	for _, proto := range []int64{impl.Tcp, impl.Icmp} {
		at := checkPlaceOf(proto)
		q := sent(flowFrom(proto, hostA, 1004, peerA, 53), syn)
		went := goes.passes(t, "a check of 0", p, b, packetWith(q, func(q *impl.V4) { q.Data = withWord(q.Data, at, 0) }), 100)
		wantAnswer(t, "a check of 0 is wrong", impl.CarryRight(went.Four.Src, went.Four.Dst, proto, went.Four.Data), false)
	}
}

// Data whose check comes to 0 behind the way have 65535 there.
func TestNatChecksThatComeToZero(t *testing.T) {
	p, b := homePool(), homeBib()
	for _, proto := range bibProtos {
		at := checkPlaceOf(proto)
		f, g := flowFrom(proto, hostA, 65535, peerA, 53), flowFrom(proto, lentOne, 1001, peerA, 53)
		lay := func(f impl.Flow, rest string) string {
			if data := layCarried(f, false, rest); proto != 6 {
				return data
			} else {
				return flagged(data, syn)
			}
		}
		sum := expected(pseudoOf(g.Src, g.Dst, proto, len(lay(g, "ab"))) + lay(g, "\x00\x00"))
		rest := impl.WordBytes(65535 - sum)
		went := goes.passes(t, "to 0", p, b, carrying(f, checked(f, lay(f, rest))), 100)
		wantCarried(t, fmt.Sprintf("proto %d, to 0", proto), went.Four, g, true)
		wantText(t, fmt.Sprintf("proto %d, to 0", proto), went.Four.Data[at:at+2], "\xff\xff")
	}
}

// All fields of a header go on as they are, and so do the longest data.
func TestNatKeepsHeaders(t *testing.T) {
	p, b := homePool(), homeBib()
	f, g := flowFrom(impl.Udp, hostA, 1002, peerA, 53), flowFrom(impl.Udp, peerA, 53, lentOne, 1002)
	for _, n := range []int64{0, 1, 255} {
		for _, whole := range []bool{false, true} {
			for _, options := range []int{0, 4, 40} {
				for _, rest := range []int{0, 1, impl.MaxData - 8} {
					change := func(q *impl.V4) {
						q.Tos, q.Ttl, q.Id, q.Whole, q.Options = n, n, 257*n, whole, filler(options)
					}
					out := packetWith(carrying(f, carriedAs(f, false, filler(rest))), change)
					wantElseSame(t, "out", goes.passes(t, "a header", p, b, out, 100).Four, out)
					in := packetWith(carrying(g, carriedAs(g, false, filler(rest))), change)
					wantElseSame(t, "in", comes.passes(t, "a header", p, b, in, 100).Four, in)
				}
			}
		}
	}
}

// Promise 15: what comes in has a bind, and a session as the Filter says.
func TestWhatComesIn(t *testing.T) {
	b := homeBib()
	for _, c := range []struct {
		what    string
		f       impl.Flow
		bind    int
		session int
		met     bool
	}{
		{"a session of UDP", flowFrom(impl.Udp, peerA, 53, lentOne, 1002), 0, 0, true},
		{"the second of that end", flowFrom(impl.Udp, peerB, 53, lentOne, 1002), 0, 5, true},
		{"the last of that end", flowFrom(impl.Udp, peerA, 54, lentOne, 1002), 0, 6, true},
		{"a session of TCP", flowFrom(impl.Tcp, peerA, 80, lentOne, 1002), 1, 1, true},
		{"a session of another host", flowFrom(impl.Udp, peerA, 53, lentOne, 1004), 2, 2, true},
		{"a peer's other port", flowFrom(impl.Udp, peerA, 55, lentOne, 1002), 0, 7, true},
		{"a peer's port 0", flowFrom(impl.Udp, peerB, 0, lentOne, 1002), 0, 7, true},
		{"a peer's other port of TCP", flowFrom(impl.Tcp, peerA, 81, lentOne, 1002), 1, 7, true},
		{"nobody's peer", flowFrom(impl.Udp, peerC, 53, lentOne, 1002), 0, 7, false},
		{"another host's peer", flowFrom(impl.Udp, peerB, 53, lentOne, 1004), 2, 7, false},
		{"a peer of UDP alone", flowFrom(impl.Tcp, peerB, 53, lentOne, 1002), 1, 7, false},
		{"a host inside as the peer", flowFrom(impl.Udp, hostB, 1002, lentOne, 1002), 0, 7, false},
	} {
		for filter := range int64(3) {
			p, q, what := filtered(filter), sent(c.f, syn), fmt.Sprintf("%s, Filter %d", c.what, filter)
			if c.session == 7 && (filter == 2 || filter == 1 && !c.met) {
				comes.refuses(t, what, p, b, q, 100, impl.ErrNone)
				continue
			}
			came := comes.passes(t, what, p, b, q, 100)
			bind, s := b.Binds[c.bind], came.Bib.Sessions[c.session]
			wantCarried(t, what, came.Four, flowFrom(c.f.Proto, c.f.Src, c.f.SrcPort, bind.In, bind.InPort), true)
			wantAnswer(t, what+": binds", slices.Equal(came.Bib.Binds, b.Binds), true)
			wantAnswer(t, what+": session", hostEndOf(s) == endInside(bind) && s.Peer == c.f.Src && s.PeerPort == c.f.SrcPort, true)
			wantAnswer(t, what+": until", s.Until == 111 || s.Until == 133 || s.Until == 144, true)
		}
	}
}

// A packet of ICMP comes by the address of its peer alone.
func TestWhatComesInOfIcmp(t *testing.T) {
	bind := impl.Bind{Proto: impl.Icmp, In: hostB, InPort: 7, Out: lentOne, OutPort: 1001}
	b := bibWith(bibOf(bind), func(b *impl.Bib) { b.Sessions[0].PeerPort = 0 })
	for filter := range int64(3) {
		p := filtered(filter)
		known := comes.passes(t, "a known peer", p, b, sent(flowFrom(impl.Icmp, peerA, 1001, lentOne, 0), 0), 100)
		wantCarried(t, "a known peer", known.Four, flowFrom(impl.Icmp, peerA, 7, hostB, 0), true)
		wantNumber(t, "its sessions", int64(len(known.Bib.Sessions)), 1)
		wantNumber(t, "its time", known.Bib.Sessions[0].Until, 122)
		other := sent(flowFrom(impl.Icmp, peerB, 1001, lentOne, 0), 0)
		if filter > 0 {
			comes.refuses(t, "another peer", p, b, other, 100, impl.ErrNone)
			continue
		}
		wantBib(t, "another peer", comes.passes(t, "another peer", p, b, other, 100).Bib,
			impl.Bib{Binds: b.Binds, Sessions: append(slices.Clone(b.Sessions), openSession(bind, peerB, 0, 122))})
	}
	for _, number := range []int64{0, 7, 1000, 1002, 65535} {
		comes.refuses(t, fmt.Sprintf("the number %d", number), filtered(0), b, sent(flowFrom(impl.Icmp, peerA, number, lentOne, 0), 0), 100, impl.ErrNone)
	}
}

// A connection of TCP from its beginning to its end, seen in its session.
func TestNatOfConnection(t *testing.T) {
	p, b := homePool(), impl.Bib{}
	out, in := flowFrom(impl.Tcp, hostA, 1007, peerA, 80), flowFrom(impl.Tcp, peerA, 80, lentLast, 1007)
	for i, c := range []struct {
		inside       bool
		flags, state int64
		until        int64
	}{{true, syn, 1, 33}, {false, syn | ack, 3, 45}, {true, ack, 3, 46}, {true, fin | ack, 4, 47}, {false, ack, 4, 48},
		{false, fin | ack, 6, 60}, {true, ack, 6, 61}, {false, rst, 7, 62}, {true, ack, 3, 52}} {
		what, way, q := fmt.Sprintf("step %d", i), comes, sent(in, c.flags)
		if c.inside {
			way, q = goes, sent(out, c.flags)
		}
		got := way.passes(t, what, p, b, q, int64(i))
		wantNumber(t, what+": state", got.Bib.Sessions[0].State, c.state)
		wantNumber(t, what+": until", got.Bib.Sessions[0].Until, c.until)
		wantNumber(t, what+": sessions", int64(len(got.Bib.Sessions)), 1)
		b = got.Bib
	}
}
