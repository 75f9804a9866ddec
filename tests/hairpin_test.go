package tests

import (
	"fmt"
	"slices"
	"strings"
	"testing"

	"loop.example/g00314/impl"
)

// Packets from inside to an end of the pool by hand, their bytes reckoned elsewhere.
func TestHairpinsByHand(t *testing.T) {
	p, b := filtered(0), homeBib()
	udp := carrying(impl.Flow{Proto: impl.Udp, Src: hostB, Dst: lentOne}, "\x03\xea\x03\xea\x00\x0a\x49\x99hi")
	backs.tells(t, "UDP", p, b, udp, 100, impl.NatOut{
		Bib: impl.Bib{Binds: b.Binds, Sessions: append(homeBib().Sessions,
			impl.Session{Proto: impl.Udp, In: hostB, InPort: 1002, Peer: lentOne, PeerPort: 1002, State: impl.Open, Until: 111},
			impl.Session{Proto: impl.Udp, In: hostA, InPort: 1002, Peer: lentOne, PeerPort: 1004, State: impl.Open, Until: 111})},
		Four: packetWith(udp, func(q *impl.V4) { q.Src, q.Dst, q.Data = lentOne, hostA, "\x03\xec\x03\xea\x00\x0a\x49\x98hi" }),
	})
	tcp := carrying(impl.Flow{Proto: impl.Tcp, Src: hostB, Dst: lentOne},
		"\x00\x05\x03\xea\x00\x00\x00\x01\x00\x00\x00\x02\x50\x02\x03\xe8\x62\x05\x00\x00")
	backs.tells(t, "TCP", p, b, tcp, 100, impl.NatOut{
		Bib: impl.Bib{Binds: append(homeBib().Binds, impl.Bind{Proto: impl.Tcp, In: hostB, InPort: 5, Out: lentOne, OutPort: 1001}),
			Sessions: append(homeBib().Sessions,
				impl.Session{Proto: impl.Tcp, In: hostB, InPort: 5, Peer: lentOne, PeerPort: 1002, State: impl.Opening, Until: 133},
				impl.Session{Proto: impl.Tcp, In: hostA, InPort: 1002, Peer: lentOne, PeerPort: 1001, State: impl.Answered, Until: 133})},
		Four: packetWith(tcp, func(q *impl.V4) {
			q.Src, q.Dst, q.Data = lentOne, hostA, "\x03\xe9\x03\xea\x00\x00\x00\x01\x00\x00\x00\x02\x50\x02\x03\xe8\x5e\x22\x00\x00"
		}),
	})
}

// Promise 16, from each host to each end that one has: it comes to that host, from an end of the sender's, its check
// right just if it was, and the answer comes back, from the end that was written to.
func TestHairpins(t *testing.T) {
	p, b := filtered(0), homeBib()
	for _, at := range []int{0, 1, 2} {
		has := b.Binds[at]
		for _, host := range []string{hostA, hostB, hostC} {
			for _, port := range []int64{0, 5, 1002, 1004, 65535} {
				for _, right := range []bool{true, false} {
					f := flowFrom(has.Proto, host, port, has.Out, has.OutPort)
					q, what := sent(f, syn), flowText(f)
					if !right {
						q = withCheckOff(q)
					}
					went := backs.passes(t, what, p, b, q, 100)
					from := impl.BindOf(went.Bib, has.Proto, host, port)
					wantAnswer(t, what+": from an end of the pool", slices.Contains(p.Addrs, from.Out) && among(from.OutPort, p.Low, p.High), true)
					wantCarried(t, what, went.Four, flowFrom(has.Proto, from.Out, from.OutPort, has.In, has.InPort), right)
					wantElseSame(t, what, went.Four, q)
					answer := answerTo(went.Four, syn|ack)
					came := backs.passes(t, what+", the answer", p, went.Bib, answer, 101)
					wantCarried(t, what+", the answer", came.Four, flowFrom(has.Proto, has.Out, has.OutPort, host, port), true)
					wantElseSame(t, what+", the answer", came.Four, answer)
					wantNumber(t, what+": sessions of both", int64(len(came.Bib.Sessions)), int64(len(went.Bib.Sessions)))
				}
			}
		}
	}
}

// A host that writes to its own end hears itself, with each Filter: its session is with that end.
func TestHairpinToItself(t *testing.T) {
	for filter := range int64(3) {
		p, b := filtered(filter), homeBib()
		q := sent(flowFrom(impl.Udp, hostA, 1002, lentOne, 1002), 0)
		got := backs.passes(t, "of UDP", p, b, q, 100)
		wantCarried(t, "of UDP", got.Four, flowFrom(impl.Udp, lentOne, 1002, hostA, 1002), true)
		want := bibWith(b, func(b *impl.Bib) {
			b.Sessions = append(b.Sessions, openSession(b.Binds[0], lentOne, 1002, 111))
		})
		wantBib(t, "one session", got.Bib, want)
		// From inside it opens, and from outside, with SYN, it is open.
		tcp := backs.passes(t, "of TCP", p, b, sent(flowFrom(impl.Tcp, hostA, 1002, lentOne, 1002), syn), 100)
		wantNumber(t, "of TCP: sessions", int64(len(tcp.Bib.Sessions)), 8)
		wantNumber(t, "of TCP: state", tcp.Bib.Sessions[7].State, impl.Open)
		wantNumber(t, "of TCP: until", tcp.Bib.Sessions[7].Until, 144)
		// The end is the one that the sender is lent for this very packet.
		fresh := sent(flowFrom(impl.Udp, hostC, 1005, lentTwo, 1005), 0)
		own := backs.passes(t, "an end lent just now", p, impl.Bib{}, fresh, 100)
		wantCarried(t, "an end lent just now", own.Four, flowFrom(impl.Udp, lentTwo, 1005, hostC, 1005), true)
	}
}

// Another end of the pool is met as a peer outside is: by the Filter.
func TestHairpinsAndFilters(t *testing.T) {
	b := homeBib()
	for _, proto := range []int64{impl.Udp, impl.Tcp} {
		q := sent(flowFrom(proto, hostB, 1002, lentOne, 1002), syn)
		backs.passes(t, "Filter 0", filtered(0), b, q, 100)
		backs.refuses(t, "Filter 1", filtered(1), b, q, 100, impl.ErrNone)
		backs.refuses(t, "Filter 2", filtered(2), b, q, 100, impl.ErrNone)
		met := bibWith(b, func(b *impl.Bib) {
			b.Sessions = append(b.Sessions, openSession(impl.Bind{Proto: proto, In: hostA, InPort: 1002}, lentOne, 77, 500))
		})
		got := backs.passes(t, "Filter 1, the address is met", filtered(1), met, q, 100)
		wantText(t, "Filter 1, the address is met", got.Four.Dst, hostA)
		backs.refuses(t, "Filter 2, the address is met", filtered(2), met, q, 100, impl.ErrNone)
	}
	both := bibWith(b, func(b *impl.Bib) {
		b.Sessions = append(b.Sessions, openSession(b.Binds[0], lentOne, 1004, 500), openSession(b.Binds[2], lentOne, 1002, 500))
	})
	for filter := range int64(3) {
		q := sent(flowFrom(impl.Udp, hostB, 1002, lentOne, 1002), 0)
		got := backs.passes(t, "both have their sessions", filtered(filter), both, q, 100)
		wantNumber(t, "both have their sessions", int64(len(got.Bib.Sessions)), 9)
		wantNumber(t, "the one's time", got.Bib.Sessions[7].Until, 111)
		wantNumber(t, "the other's time", got.Bib.Sessions[8].Until, 111)
	}
}

// To an end that nobody has, and to addresses that are none of the pool's, nothing is made; ICMP does not come back.
func TestHairpinsToNobody(t *testing.T) {
	p, b := filtered(0), homeBib()
	for _, proto := range []int64{impl.Udp, impl.Tcp} {
		for _, end := range []struct {
			dst  string
			port int64
		}{{lentOne, 1008}, {lentOne, 999}, {lentOne, 0}, {lentLast, 1002}, {lentOne, 65535}, {hostB, 1002}, {peerA, 53}, {addressOf("203.0.113.4"), 1002}} {
			for _, host := range []string{hostA, hostC} {
				q := sent(flowFrom(proto, host, 1006, end.dst, end.port), syn)
				backs.refuses(t, flowText(flowFrom(proto, host, 1006, end.dst, end.port)), p, b, q, 100, impl.ErrNone)
				backs.refuses(t, "an empty bib", p, impl.Bib{}, q, 100, impl.ErrNone)
				goes.passes(t, "the way out is open to it", p, b, q, 100)
			}
		}
	}
	echoes := bibOf(impl.Bind{Proto: impl.Icmp, In: hostA, InPort: 9, Out: lentOne, OutPort: 1002})
	for _, dst := range []string{lentOne, lentTwo, peerA, hostB} {
		for _, number := range []int64{9, 1002, 1003} {
			q := sent(flowFrom(impl.Icmp, hostA, number, dst, 0), 0)
			backs.refuses(t, "ICMP", p, echoes, q, 100, impl.ErrKind)
			backs.refuses(t, "ICMP, no Data", p, echoes, packetWith(q, func(q *impl.V4) { q.Data = "" }), 100, impl.ErrKind)
			backs.refuses(t, "ICMP of another kind", p, echoes, packetWith(q, func(q *impl.V4) { q.Data = "\x03\x03" + q.Data[2:] }), 100, impl.ErrKind)
		}
	}
}

// A check of 0 of UDP stays so there and back.
func TestHairpinWithoutCheck(t *testing.T) {
	q := withoutCheck(sent(flowFrom(impl.Udp, hostB, 1002, lentOne, 1002), 0))
	got := backs.passes(t, "no check", filtered(0), homeBib(), q, 100)
	wantText(t, "no check", got.Four.Data[6:8], "\x00\x00")
	wantCarried(t, "no check", got.Four, flowFrom(impl.Udp, lentOne, 1004, hostA, 1002), true)
}

// A connection of TCP between two hosts inside, by both their ends.
func TestHairpinConnection(t *testing.T) {
	p, b := filtered(0), bibWith(homeBib(), func(b *impl.Bib) {
		b.Binds, b.Sessions = b.Binds[1:2], b.Sessions[1:2]
	})
	there, back := flowFrom(impl.Tcp, hostB, 5, lentOne, 1002), impl.Flow{}
	for i, c := range []struct {
		there        bool
		flags        int64
		asks, serves int64
	}{{true, syn, 1, 2}, {false, syn | ack, 3, 3}, {true, ack, 3, 3}, {true, fin | ack, 4, 5}, {false, ack, 4, 5}, {false, fin | ack, 6, 6}, {false, rst, 7, 7}} {
		what, f, to := fmt.Sprintf("step %d", i), back, hostB
		if c.there {
			f, to = there, hostA
		}
		got := backs.passes(t, what, p, b, sent(f, c.flags), int64(i))
		wantText(t, what+": to the host", got.Four.Dst, to)
		wantNumber(t, what+": who asks", got.Bib.Sessions[1].State, c.asks)
		wantNumber(t, what+": who serves", got.Bib.Sessions[2].State, c.serves)
		bind := impl.BindOf(got.Bib, impl.Tcp, hostB, 5)
		b, back = got.Bib, flowFrom(impl.Tcp, hostA, 1002, bind.Out, bind.OutPort)
	}
	backs.refuses(t, "one side knows it alone", p, bibWith(b, func(b *impl.Bib) { b.Sessions = b.Sessions[:2] }), sent(there, ack), 9, impl.ErrNone)
}

// textsOfFour are all texts of a packet.
func textsOfFour(q impl.V4) []string {
	return []string{q.Src, q.Dst, q.Options, q.Data}
}

// ownTexts is a packet whose texts lie apart from all others.
func ownTexts(q impl.V4) impl.V4 {
	q.Src, q.Dst = strings.Clone(q.Src), strings.Clone(q.Dst)
	q.Options, q.Data = strings.Clone(q.Options), strings.Clone(q.Data)
	return q
}

func ownBib(b impl.Bib) impl.Bib {
	b = roomyBib(b)
	for i := range b.Binds {
		b.Binds[i].In, b.Binds[i].Out = strings.Clone(b.Binds[i].In), strings.Clone(b.Binds[i].Out)
	}
	for i := range b.Sessions {
		b.Sessions[i].In, b.Sessions[i].Peer = strings.Clone(b.Sessions[i].In), strings.Clone(b.Sessions[i].Peer)
	}
	return b
}

func TestNatIsNewMemory(t *testing.T) {
	for _, c := range append(takenPackets(), untaken()...) {
		p, b, q := filtered(0), ownBib(homeBib()), ownTexts(c.q)
		before, addrs := bibClone(wholeBib(b)), slices.Clone(p.Addrs)
		what := fmt.Sprintf("%s, %q to %q", c.way.what, q.Src, q.Dst)
		got := c.way.call(p, b, q, 100)
		want := c.way.reckoned(p, homeBib(), q, 100)
		wantBib(t, what+": what was handed in", wholeBib(b), before)
		wantAnswer(t, what+": the pool", slices.Equal(p.Addrs, addrs), true)

		given := append(append(textsOfBib(b), p.Addrs...), textsOfFour(q)...)
		wantNewTexts(t, what, append(textsOfBib(got.Bib), textsOfFour(got.Four)...), given)
		wantNewTexts(t, what+", two lists", textsOfBinds(got.Bib.Binds...), textsOfSessions(got.Bib.Sessions))
		wantNewTexts(t, what+", the packet beside", textsOfFour(got.Four), textsOfBib(got.Bib))

		again := c.way.call(p, b, q, 100)
		spoil(got.Bib.Binds)
		spoil(got.Bib.Sessions)
		wantBib(t, what+": what was handed in, the answer spoilt", wholeBib(b), before)
		wantNat(t, what+": the other answer", again, want)
		spoil(b.Binds)
		spoil(b.Sessions)
		spoil(p.Addrs)
		wantNat(t, what+": what was handed in spoilt", again, want)
	}
}

// natPacket is a packet by chance for one of the ways: mostly between ends that there are, and now and then wrong.
func (d *dice) natPacket(p impl.Pool, b impl.Bib, way natWay) impl.V4 {
	t := d.touch(p, b)
	t.Proto, t.Port, t.PeerPort = bibProtos[d.upTo(2)], t.Port&65535, t.PeerPort&65535
	hosts, peers := []string{hostA, hostB, hostC}, []string{peerA, peerB, peerC}
	f := flowFrom(t.Proto, hosts[d.upTo(2)], 998+d.upTo(6), peers[d.upTo(2)], d.upTo(2))
	if count := int64(len(b.Binds)); way.what != goes.what {
		f.Dst, f.DstPort = p.Addrs[d.upTo(int64(len(p.Addrs)-1))], p.Low+d.upTo(p.High-p.Low)
		if count > 0 && d.upTo(4) > 0 {
			bind := b.Binds[d.upTo(count-1)]
			f.Proto, f.Dst, f.DstPort = bind.Proto, bind.Out, bind.OutPort
		}
		if way.what == comes.what {
			f.Src, f.SrcPort = peers[d.upTo(2)], d.upTo(2)
		}
		if f.Proto == impl.Icmp {
			f.SrcPort = f.DstPort
		}
	}
	q := sent(f, t.Flags&255)
	if d.upTo(3) == 0 {
		q = withCheckOff(q)
	}
	switch d.upTo(40) {
	case 0:
		q.Whole, q.Off = false, 1+d.upTo(500)
	case 1:
		q.Data = q.Data[:d.upTo(int64(len(q.Data)))]
	case 2:
		q.Proto = d.upTo(255)
	case 3:
		q.Dst = peers[d.upTo(2)]
	case 4:
		q.Ttl = 250 + d.upTo(10)
	case 5:
		q.Data = d.text(d.upTo(40))
	}
	return q
}

// wantPromises asks for what holds of each packet that is taken.
func wantPromises(t *testing.T, what string, p impl.Pool, b impl.Bib, way natWay, q impl.V4, got impl.NatOut, now int64) {
	t.Helper()
	was, is := flowTold(q.Src, q.Dst, q.Proto, q.Data).Flow, flowTold(got.Four.Src, got.Four.Dst, q.Proto, got.Four.Data).Flow
	wantAnswer(t, what+": a right packet", impl.V4Right(got.Four), true)
	wantAnswer(t, what+": a right bib", impl.BibRight(p, got.Bib), true)
	wantAnswer(t, what+": the check", impl.CarryRight(is.Src, is.Dst, is.Proto, got.Four.Data), carryIsRight(q.Src, q.Dst, q.Proto, q.Data))
	wantElseSame(t, what, got.Four, q)
	if way.what != comes.what {
		bind := impl.BindOf(got.Bib, q.Proto, q.Src, was.SrcPort)
		wantAnswer(t, what+": from its bind's end", is.Src == bind.Out && is.SrcPort == bind.OutPort, true)
	}
	if way.what != goes.what {
		bind, there := bindOutside(got.Bib, theEnd{q.Proto, q.Dst, was.DstPort})
		wantAnswer(t, what+": to the host of a bind", there && is.Dst == bind.In && is.DstPort == bind.InPort, true)
	}
	if way.what == comes.what {
		wantAnswer(t, what+": makes no bind", slices.Equal(got.Bib.Binds, b.Binds), true)
		return
	}
	other := map[string]natWay{goes.what: comes, backs.what: backs}[way.what]
	back := other.passes(t, what+", the answer", p, got.Bib, answerTo(got.Four, ack), now)
	wantText(t, what+": the answer comes to where it came from", back.Four.Dst, q.Src)
	wantNumber(t, what+": and to its port", flowTold(back.Four.Src, back.Four.Dst, q.Proto, back.Four.Data).Flow.DstPort, was.SrcPort)
	if way.what == backs.what {
		wantText(t, what+": the answer comes from the end that was written to", back.Four.Src, q.Dst)
	}
}

// Packets by chance, one behind the other, in times that go on: what is told is as the document's words reckon it.
func TestMadeNats(t *testing.T) {
	d := dice(12)
	met := map[string]int{}
	for range 60 {
		p, b, now := d.pool(), impl.Bib{}, int64(0)
		for step := range 250 {
			way := natWays[d.upTo(2)]
			q := d.natPacket(p, b, way)
			what := fmt.Sprintf("%s, step %d, %q to %q, proto %d at %d, pool %+v", way.what, step, q.Src, q.Dst, q.Proto, now, p)
			got := way.call(p, b, q, now)
			wantNat(t, what, got, way.reckoned(p, b, q, now))
			met[fmt.Sprintf("%s: %d", way.what, got.Code)]++
			if got.Code == impl.OK {
				wantPromises(t, what, p, b, way, q, got, now)
				b = got.Bib
			}
			if d.upTo(5) == 0 {
				now += d.upTo(8)
				b = impl.BibTick(p, b, now)
			}
		}
	}
	for _, way := range natWays {
		for _, code := range []int64{impl.OK, impl.ErrForm, impl.ErrShort, impl.ErrNone, impl.ErrFull, impl.ErrFrag, impl.ErrKind} {
			if what := fmt.Sprintf("%s: %d", way.what, code); met[what] < 15 {
				t.Errorf("%s was met %d times: %v", what, met[what], met)
			}
		}
	}
}
