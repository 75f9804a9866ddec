package tests

import (
	"fmt"
	"slices"
	"strings"
	"testing"

	"loop.example/g00314/impl"
)

// crossWay is a call that takes packets of one kind to the other, beside one that goes by the document's words.
type crossWay[Packet any] struct {
	what     string
	call     func(p impl.Pool, b impl.Bib, x impl.Prefix, q Packet, now int64) impl.NatOut
	reckoned func(p impl.Pool, b impl.Bib, x impl.Prefix, q Packet, now int64) impl.NatOut
}

var (
	sixGoes  = crossWay[impl.V6]{"SixGo", impl.SixGo, wentAsFour}
	sixComes = crossWay[impl.V4]{"SixCome", impl.SixCome, cameAsSix}
)

// Hosts of IPv6 that home's bib knows nothing of.
var (
	newSix   = addressOf("2001:db8::6")
	otherSix = addressOf("fd00:1:2:3:ffee:4:5:6")
)

// homeSix is the prefix that most of these packets go by.
var homeSix = prefixOf("64:ff9b::/96")

// sixPrefixes are some of every length that four bytes are put into.
var sixPrefixes = []impl.Prefix{
	prefixOf("2001:db8::/32"), prefixOf("2001:db8:100::/40"), prefixOf("2001:db8:122::/48"), prefixOf("2001:db8:122:300::/56"),
	prefixOf("2001:db8:122:344::/64"), prefixOf("2001:db8:122:344::/96"), prefixOf("2001:db8:122:344:5600::/96"), homeSix,
	prefixOf("::/32"), prefixOf("ffff:ffff:ffff:ffff::/64"), prefixOf("ffff:ffff:ffff:ffff:ffff:ffff::/96"),
}

// placesIn are the places of the four bytes in a prefix, if it takes them.
func placesIn(x impl.Prefix) ([4]int, bool) {
	for _, c := range fourLengths {
		if x.Bits == c.bits && len(x.Addr) == 16 && strings.Trim(x.Addr[c.bits/8:], "\x00") == "" {
			return c.places, true
		}
	}
	return [4]int{}, false
}

// putInto is the address of four bytes in a prefix that takes them.
func putInto(x impl.Prefix, four string) string {
	places, _ := placesIn(x)
	six := []byte(x.Addr)
	for i, at := range places {
		six[at] = four[i]
	}
	return string(six)
}

func takenOutOf(x impl.Prefix, six string) impl.AddrOut {
	if length := x.Bits / 8; six[:length] != x.Addr[:length] {
		return impl.AddrOut{Code: impl.ErrNone}
	}
	places, _ := placesIn(x)
	var four []byte
	for _, at := range places {
		four = append(four, six[at])
	}
	if putInto(x, string(four)) != six {
		return impl.AddrOut{Code: impl.ErrSyntax}
	}
	return impl.AddrOut{Addr: string(four)}
}

// wentAsFour goes by the document's words, fault by fault in their order.
func wentAsFour(p impl.Pool, b impl.Bib, x impl.Prefix, q impl.V6, now int64) impl.NatOut {
	_, takes := placesIn(x)
	switch {
	case !poolIsRight(p), !bibIsRight(p, b), !sixIsRight(q), !takes, !among(now, 0, 1000000000):
		return impl.NatOut{Code: impl.ErrForm}
	case q.Piece:
		return impl.NatOut{Code: impl.ErrFrag}
	}
	peer := takenOutOf(x, q.Dst)
	if peer.Code != impl.OK {
		return impl.NatOut{Code: peer.Code}
	}
	told := flowTold(q.Src, q.Dst, q.Next, q.Data)
	if told.Code != impl.OK {
		return impl.NatOut{Code: told.Code}
	}
	proto := map[int64]int64{6: 6, 17: 17, 58: 1}[q.Next]
	touch := natTouch(touchIn(q.Src, told.Flow.SrcPort, peer.Addr, told.Flow.DstPort), impl.V4{Proto: proto, Data: q.Data})
	touched := touchedBib(p, b, touch, now)
	if touched.Code != impl.OK {
		return impl.NatOut{Code: touched.Code}
	}
	next := flowFrom(proto, touched.Bind.Out, touched.Bind.OutPort, peer.Addr, told.Flow.DstPort)
	header, data := turnedToFour(q, next.Src, next.Dst), dataFor(told.Flow, next, q.Data)
	switch {
	case header.Code != impl.OK:
		return impl.NatOut{Code: header.Code}
	case data.Code != impl.OK:
		return impl.NatOut{Code: data.Code}
	}
	header.Packet.Data = data.Data
	return impl.NatOut{Bib: touched.Bib, Four: header.Packet}
}

// cameAsSix goes by the document's words, as wentAsFour does.
func cameAsSix(p impl.Pool, b impl.Bib, x impl.Prefix, q impl.V4, now int64) impl.NatOut {
	if _, takes := placesIn(x); !takes {
		return impl.NatOut{Code: impl.ErrForm}
	}
	if code := natRefused(p, b, q, now); code != impl.OK {
		return impl.NatOut{Code: code}
	}
	if !slices.Contains(p.Addrs, q.Dst) {
		return impl.NatOut{Code: impl.ErrNone}
	}
	told := flowTold(q.Src, q.Dst, q.Proto, q.Data)
	if told.Code != impl.OK {
		return impl.NatOut{Code: told.Code}
	}
	touched := touchedBib(p, b, natTouch(touchOut(q.Dst, told.Flow.DstPort, q.Src, told.Flow.SrcPort), q), now)
	switch {
	case touched.Code != impl.OK:
		return impl.NatOut{Code: touched.Code}
	case len(touched.Bind.In) == 4:
		return impl.NatOut{Code: impl.ErrKind}
	}
	next := flowOfSix(q.Proto, putInto(x, q.Src), told.Flow.SrcPort, touched.Bind.In, touched.Bind.InPort)
	header, data := turnedToSix(q, next.Src, next.Dst), dataFor(told.Flow, next, q.Data)
	switch {
	case header.Code != impl.OK:
		return impl.NatOut{Code: header.Code}
	case data.Code != impl.OK:
		return impl.NatOut{Code: data.Code}
	}
	header.Packet.Data = data.Data
	return impl.NatOut{Bib: touched.Bib, Six: header.Packet}
}

// tells holds an answer against the one that was written by hand, and against the reckoned one.
func (w crossWay[Packet]) tells(t *testing.T, what string, p impl.Pool, b impl.Bib, x impl.Prefix, q Packet, now int64, want impl.NatOut) {
	t.Helper()
	wantNat(t, w.what+": "+what, w.call(p, b, x, q, now), want)
	wantNat(t, w.what+": "+what+" (as reckoned)", w.reckoned(p, b, x, q, now), want)
}

// refuses asks for a code alone: nothing is told beside it.
func (w crossWay[Packet]) refuses(t *testing.T, what string, p impl.Pool, b impl.Bib, x impl.Prefix, q Packet, now int64, code int64) {
	t.Helper()
	w.tells(t, what, p, b, x, q, now, impl.NatOut{Code: code})
}

// passes asks that a packet is taken, and as it is reckoned; what is told is handed back.
func (w crossWay[Packet]) passes(t *testing.T, what string, p impl.Pool, b impl.Bib, x impl.Prefix, q Packet, now int64) impl.NatOut {
	t.Helper()
	got := w.call(p, b, x, q, now)
	wantNumber(t, w.what+": "+what+": code", got.Code, impl.OK)
	wantNat(t, w.what+": "+what, got, w.reckoned(p, b, x, q, now))
	return got
}

// flowOfSix is a flow between sixes, of a bib's proto; of ICMP the last port is both.
func flowOfSix(proto int64, src string, srcPort int64, dst string, dstPort int64) impl.Flow {
	if proto == 1 {
		proto, srcPort = 58, dstPort
	}
	return impl.Flow{Proto: proto, Src: src, Dst: dst, SrcPort: srcPort, DstPort: dstPort}
}

// outBySix is the flow of a host inside to a peer whose address is in the prefix.
func outBySix(proto int64, host string, port int64, x impl.Prefix, peer string, peerPort int64) impl.Flow {
	if proto == 1 {
		peerPort = port
	}
	return flowOfSix(proto, host, port, putInto(x, peer), peerPort)
}

// carryingSix is a packet with those data, and with something in each field of its header.
func carryingSix(f impl.Flow, data string) impl.V6 {
	return impl.V6{Class: 184, Flow: 703710, Next: f.Proto, Hops: 9, Src: f.Src, Dst: f.Dst, Data: data}
}

func sixPacketWith(q impl.V6, changes ...func(q *impl.V6)) impl.V6 {
	for _, change := range changes {
		change(&q)
	}
	return q
}

// sentSix is a packet of a flow between sixes, of TCP with those flags, its check right.
func sentSix(f impl.Flow, flags int64) impl.V6 {
	data := layCarried(f, false, "what is said")
	if f.Proto == 6 {
		data = flagged(data, flags)
	}
	return carryingSix(f, checked(f, data))
}

// goesBySix is such a packet of a host inside to a peer by home's prefix.
func goesBySix(proto int64, host string, port int64, peer string, peerPort int64, flags int64) impl.V6 {
	return sentSix(outBySix(proto, host, port, homeSix, peer, peerPort), flags)
}

// sixCheckOff is the packet with a check that is one more than it was, and never 0.
func sixCheckOff(q impl.V6) impl.V6 {
	at := checkPlaceOf(q.Next)
	q.Data = withWord(q.Data, at, (int64(q.Data[at])*256+int64(q.Data[at+1]))%65535+1)
	return q
}

func wantSixCarried(t *testing.T, what string, q impl.V6, f impl.Flow, right bool) {
	t.Helper()
	wantFlow(t, what, impl.FlowOf(q.Src, q.Dst, q.Next, q.Data), impl.FlowOut{Flow: f})
	wantAnswer(t, what+": check", impl.CarryRight(q.Src, q.Dst, q.Next, q.Data), right)
}

// elseOf are data without what is set for another flow: ports and check, and of ICMP the first byte.
func elseOf(proto int64, data string) string {
	switch proto {
	case 6:
		return data[4:16] + data[18:]
	case 17:
		return data[4:6] + data[8:]
	}
	return data[1:2] + data[6:]
}

// Packets out and answers back by hand, their bytes reckoned elsewhere.
func TestSixOutAndBackByHand(t *testing.T) {
	for _, c := range []struct {
		what              string
		prefix, six       string
		four              string
		proto             int64
		port, lent, peer  int64
		data, out         string
		answer, in        string
		begun, life       int64
		goesOn, laterLife int64
	}{
		{"UDP by 96 bits", "64:ff9b::/96", "64:ff9b::c000:209", "192.0.2.9", impl.Udp, 5353, 1001, 53,
			"\x14\xe9\x00\x35\x00\x0a\x92\x8ahi", "\x03\xe9\x00\x35\x00\x0a\x95\x45hi",
			"\x00\x35\x03\xe9\x00\x0b\x60\x41ok.", "\x00\x35\x14\xe9\x00\x0b\x5d\x86ok.", 3, 11, 3, 11},
		{"TCP by 96 bits", "64:ff9b::/96", "64:ff9b::c000:209", "192.0.2.9", impl.Tcp, 7000, 1000, 80,
			"\x1b\x58\x00\x50\x00\x00\x00\x01\x00\x00\x00\x02\x50\x02\x03\xe8\xa0\x87\x00\x00",
			"\x03\xe8\x00\x50\x00\x00\x00\x01\x00\x00\x00\x02\x50\x02\x03\xe8\xa9\xb2\x00\x00",
			"\x00\x50\x03\xe8\x00\x00\x00\x01\x00\x00\x00\x02\x50\x12\x03\xe8\xa9\xa2\x00\x00",
			"\x00\x50\x1b\x58\x00\x00\x00\x01\x00\x00\x00\x02\x50\x12\x03\xe8\xa0\x77\x00\x00", 1, 33, 3, 44},
		{"ICMP by 96 bits", "64:ff9b::/96", "64:ff9b::c000:209", "192.0.2.9", impl.Icmp, 7, 1001, 0,
			"\x80\x00\xb1\x0f\x00\x07\x00\x09ping", "\x08\x00\x15\x3d\x03\xe9\x00\x09ping",
			"\x00\x00\x1d\x3d\x03\xe9\x00\x09ping", "\x81\x00\xb0\x0f\x00\x07\x00\x09ping", 3, 22, 3, 22},
		{"UDP by 48 bits", "2001:db8:122::/48", "2001:db8:122:c000:2:2100::", "192.0.2.33", impl.Udp, 5353, 1001, 53,
			"\x14\xe9\x00\x35\x00\x0a\x44\xb6hi", "\x03\xe9\x00\x35\x00\x0a\x95\x2dhi",
			"\x00\x35\x03\xe9\x00\x0b\x60\x29ok.", "\x00\x35\x14\xe9\x00\x0b\x0f\xb2ok.", 3, 11, 3, 11},
		{"TCP by 48 bits", "2001:db8:122::/48", "2001:db8:122:c000:2:2100::", "192.0.2.33", impl.Tcp, 7000, 1000, 80,
			"\x1b\x58\x00\x50\x00\x00\x00\x01\x00\x00\x00\x02\x50\x02\x03\xe8\x52\xb3\x00\x00",
			"\x03\xe8\x00\x50\x00\x00\x00\x01\x00\x00\x00\x02\x50\x02\x03\xe8\xa9\x9a\x00\x00",
			"\x00\x50\x03\xe8\x00\x00\x00\x01\x00\x00\x00\x02\x50\x12\x03\xe8\xa9\x8a\x00\x00",
			"\x00\x50\x1b\x58\x00\x00\x00\x01\x00\x00\x00\x02\x50\x12\x03\xe8\x52\xa3\x00\x00", 1, 33, 3, 44},
		{"ICMP by 48 bits", "2001:db8:122::/48", "2001:db8:122:c000:2:2100::", "192.0.2.33", impl.Icmp, 7, 1001, 0,
			"\x80\x00\x63\x3b\x00\x07\x00\x09ping", "\x08\x00\x15\x3d\x03\xe9\x00\x09ping",
			"\x00\x00\x1d\x3d\x03\xe9\x00\x09ping", "\x81\x00\x62\x3b\x00\x07\x00\x09ping", 3, 22, 3, 22},
	} {
		// The sum of that host's address is 11711, which leaves 2 of 3 addresses.
		p, b, x, six, peer := homePool(), homeBib(), prefixOf(c.prefix), addressOf(c.six), addressOf(c.four)
		next := map[int64]int64{impl.Tcp: impl.Tcp, impl.Udp: impl.Udp, impl.Icmp: impl.Icmp6}[c.proto]
		q := impl.V6{Class: 5, Flow: 77, Next: next, Hops: 63, Src: newSix, Dst: six, Data: c.data}
		bind := impl.Bind{Proto: c.proto, In: newSix, InPort: c.port, Out: lentLast, OutPort: c.lent}
		session := impl.Session{Proto: c.proto, In: newSix, InPort: c.port, Peer: peer, PeerPort: c.peer, State: c.begun, Until: 100 + c.life}
		went := impl.NatOut{Bib: impl.Bib{Binds: append(b.Binds, bind), Sessions: append(b.Sessions, session)},
			Four: impl.V4{Tos: 5, Whole: true, Ttl: 63, Proto: c.proto, Src: lentLast, Dst: peer, Data: c.out}}
		sixGoes.tells(t, c.what, p, homeBib(), x, q, 100, went)

		back := impl.V4{Tos: 9, Id: 7, Ttl: 50, Proto: c.proto, Src: peer, Dst: lentLast, Options: "\x01\x01\x01\x00", Data: c.answer}
		came := impl.NatOut{Bib: bibClone(went.Bib), Six: impl.V6{Class: 9, Next: next, Hops: 50, Src: six, Dst: newSix, Data: c.in}}
		last := &came.Bib.Sessions[len(came.Bib.Sessions)-1]
		last.State, last.Until = c.goesOn, 120+c.laterLife
		sixComes.tells(t, c.what, p, went.Bib, x, back, 120, came)
		sixComes.refuses(t, c.what+", ahead of it", p, homeBib(), x, back, 120, impl.ErrNone)
	}
}

// A host that has its binds already, by hand: no bind and no session is made, the session's time is a new one.
func TestBoundSixByHand(t *testing.T) {
	p, b, six := homePool(), homeBib(), addressOf("64:ff9b::c000:208")
	for _, c := range []struct {
		what        string
		next, proto int64
		session     int
		until       int64
		data, out   string
		answer, in  string
	}{
		{"UDP", impl.Udp, impl.Udp, 4, 111, "\x9c\x40\x00\x35\x00\x0a\x0b\x35hi", "\x03\xea\x00\x35\x00\x0a\x95\x46hi",
			"\x00\x35\x03\xea\x00\x0b\x60\x42ok.", "\x00\x35\x9c\x40\x00\x0b\xd6\x30ok."},
		{"ICMP", impl.Icmp6, impl.Icmp, 3, 122, "\x80\x00\xb1\x11\x00\x07\x00\x09ping", "\x08\x00\x15\x3d\x03\xe9\x00\x09ping",
			"\x00\x00\x1d\x3d\x03\xe9\x00\x09ping", "\x81\x00\xb0\x11\x00\x07\x00\x09ping"},
	} {
		touched := bibWith(b, func(b *impl.Bib) { b.Sessions[c.session].Until = c.until })
		q := impl.V6{Next: c.next, Hops: 1, Src: hostSix, Dst: six, Data: c.data}
		sixGoes.tells(t, c.what, p, b, homeSix, q, 100, impl.NatOut{Bib: touched,
			Four: impl.V4{Whole: true, Ttl: 1, Proto: c.proto, Src: lentTwo, Dst: peerB, Data: c.out}})
		back := impl.V4{Whole: true, Ttl: 1, Proto: c.proto, Src: peerB, Dst: lentTwo, Data: c.answer}
		sixComes.tells(t, c.what, p, b, homeSix, back, 100, impl.NatOut{Bib: touched,
			Six: impl.V6{Next: c.next, Hops: 1, Src: six, Dst: hostSix, Data: c.in}})
	}
}

// Promise 18, of each proto, by prefixes of each length, with each Filter, from ends that are bound and from new ones;
// checks that are right and wrong ones on both ways.
func TestSixOutAndBack(t *testing.T) {
	for filter := range int64(3) {
		p := filtered(filter)
		for _, x := range sixPrefixes {
			for _, proto := range bibProtos {
				for _, host := range []string{hostSix, newSix, otherSix} {
					for _, port := range []int64{0, 7, 1002, 40000, 65535} {
						for marks := range 4 {
							f := outBySix(proto, host, port, x, peerC, 443)
							wantSixOutAndBack(t, p, homeBib(), x, f, peerC, marks&1 == 0, marks&2 == 0)
							wantSixOutAndBack(t, p, impl.Bib{}, x, f, peerC, marks&1 == 0, marks&2 == 0)
						}
					}
				}
			}
		}
	}
}

func wantSixOutAndBack(t *testing.T, p impl.Pool, b impl.Bib, x impl.Prefix, f impl.Flow, peer string, outRight bool, backRight bool) {
	t.Helper()
	what := fmt.Sprintf("%s by %s, checks %v and %v", flowText(f), told(x), outRight, backRight)
	q := sentSix(f, syn)
	if !outRight {
		q = sixCheckOff(q)
	}
	wantSixCarried(t, what+", ahead", q, f, outRight)
	went := sixGoes.passes(t, what, p, b, x, q, 100)
	proto := went.Four.Proto
	bind := impl.BindOf(went.Bib, proto, f.Src, f.SrcPort)
	wantAnswer(t, what+": the end is of the pool", slices.Contains(p.Addrs, bind.Out) && among(bind.OutPort, p.Low, p.High), true)
	wantCarried(t, what+", out", went.Four, flowFrom(proto, bind.Out, bind.OutPort, peer, f.DstPort), outRight)
	wantText(t, what+", out: all else", elseOf(proto, went.Four.Data), elseOf(proto, q.Data))
	wantAnswer(t, what+": a right packet", impl.V4Right(went.Four), true)
	wantAnswer(t, what+": a right bib", impl.BibRight(p, went.Bib), true)

	answer := answerTo(went.Four, syn|ack)
	if !backRight {
		answer = withCheckOff(answer)
	}
	came := sixComes.passes(t, what, p, went.Bib, x, answer, 101)
	back := impl.Flow{Proto: f.Proto, Src: f.Dst, Dst: f.Src, SrcPort: f.DstPort, DstPort: f.SrcPort}
	wantSixCarried(t, what+", back", came.Six, back, backRight)
	wantText(t, what+", back: all else", elseOf(proto, came.Six.Data), elseOf(proto, answer.Data))
	wantAnswer(t, what+": a right answer", impl.V6Right(came.Six), true)
	wantAnswer(t, what+": binds", slices.Equal(came.Bib.Binds, went.Bib.Binds), true)
	wantNumber(t, what+": sessions", int64(len(came.Bib.Sessions)), int64(len(went.Bib.Sessions)))
}

// Peers of any four bytes are found in prefixes of any bits, and answer from there.
func TestSixToManyPeers(t *testing.T) {
	for _, c := range fourLengths {
		for _, net := range madeAddresses(16, 10) {
			x := impl.Prefix{Addr: net[:c.bits/8] + strings.Repeat("\x00", 16-int(c.bits/8)), Bits: c.bits}
			for _, peer := range madeAddresses(4, 10) {
				f := outBySix(impl.Udp, newSix, 5353, x, peer, 53)
				wantSixOutAndBack(t, homePool(), homeBib(), x, f, peer, true, true)
			}
		}
	}
}

// What asks and what answers goes out, and comes in, of ICMP: the one stays what asks, the other what answers.
func TestSixEchoesOfBothKinds(t *testing.T) {
	p, b := filtered(0), homeBib()
	for _, answers := range []bool{false, true} {
		f := outBySix(impl.Icmp, newSix, 7, homeSix, peerA, 0)
		went := sixGoes.passes(t, "an echo", p, b, homeSix, carryingSix(f, carriedAs(f, answers, "ping")), 100)
		g := flowFrom(impl.Icmp, lentLast, 1001, peerA, 0)
		wantText(t, "out", went.Four.Data, carriedAs(g, answers, "ping"))
		back := flowFrom(impl.Icmp, peerB, 1001, lentLast, 0)
		came := sixComes.passes(t, "an echo", p, went.Bib, homeSix, carrying(back, carriedAs(back, answers, "pong")), 100)
		wantText(t, "in", came.Six.Data, carriedAs(flowOfSix(impl.Icmp, putInto(homeSix, peerB), 7, newSix, 7), answers, "pong"))
	}
}

// Between sixes a check of 0 is a check as any other: out it is turned, and wrong unless it was right; in, where it
// stands for none, UDP is refused.
func TestSixWithoutCheck(t *testing.T) {
	b := homeBib()
	out, in := outBySix(impl.Udp, newSix, 5353, homeSix, peerA, 53), flowFrom(impl.Udp, lentLast, 1001, peerA, 53)
	q := sixPacketWith(sentSix(out, 0), func(q *impl.V6) { q.Data = withWord(q.Data, 6, 0) })
	wantSixCarried(t, "a check of 0", q, out, false)
	went := sixGoes.passes(t, "a check of 0", homePool(), b, homeSix, q, 100)
	wantCarried(t, "a check of 0, out", went.Four, in, false)

	// Data whose sum is right with a check of 0.
	data := layCarried(out, false, "ab")
	rest := impl.WordBytes(65535 - expected(pseudoOf(out.Src, out.Dst, 17, len(data))+layCarried(out, false, "\x00\x00")))
	q = carryingSix(out, layCarried(out, false, rest))
	wantSixCarried(t, "a check of 0 that is right", q, out, true)
	went = sixGoes.passes(t, "a check of 0 that is right", homePool(), b, homeSix, q, 100)
	wantCarried(t, "a check of 0 that is right, out", went.Four, in, true)
	wantText(t, "a check of 0 that is right, out", went.Four.Data, carriedAs(in, false, rest))

	for filter := range int64(3) {
		p := filtered(filter)
		known, unknown := sent(flowFrom(impl.Udp, peerB, 53, lentTwo, 1002), 0), sent(flowFrom(impl.Udp, peerC, 53, lentTwo, 1002), 0)
		sixComes.passes(t, "with a check", p, b, homeSix, known, 100)
		sixComes.refuses(t, "no check", p, b, homeSix, withoutCheck(known), 100, impl.ErrSum)
		sixComes.refuses(t, "no check, of an answer", p, went.Bib, homeSix, withoutCheck(answerTo(went.Four, 0)), 100, impl.ErrSum)
		code := map[int64]int64{0: impl.ErrSum, 1: impl.ErrNone, 2: impl.ErrNone}[filter]
		sixComes.refuses(t, "no check, from elsewhere", p, b, homeSix, withoutCheck(unknown), 100, code)
		four := sent(flowFrom(impl.Udp, peerA, 53, lentOne, 1002), 0)
		sixComes.refuses(t, "no check, to a host of four bytes", p, b, homeSix, withoutCheck(four), 100, impl.ErrKind)
	}
}

// Of TCP and ICMP a check of 0 is one as any other on both ways.
func TestSixOtherChecksOfZero(t *testing.T) {
	p, b := filtered(0), homeBib()
	for _, proto := range []int64{impl.Tcp, impl.Icmp} {
		at := checkPlaceOf(proto)
		q := goesBySix(proto, newSix, 7, peerA, 80, syn)
		q.Data = withWord(q.Data, at, 0)
		went := sixGoes.passes(t, "a check of 0", p, b, homeSix, q, 100)
		wantAnswer(t, "out", impl.CarryRight(went.Four.Src, went.Four.Dst, proto, went.Four.Data), false)
		answer := answerTo(went.Four, syn|ack)
		answer.Data = withWord(answer.Data, at, 0)
		came := sixComes.passes(t, "a check of 0", p, went.Bib, homeSix, answer, 100)
		wantAnswer(t, "in", impl.CarryRight(came.Six.Src, came.Six.Dst, came.Six.Next, came.Six.Data), false)
	}
}

// Data whose check comes to 0 behind the way have 65535 there.
func TestSixChecksThatComeToZero(t *testing.T) {
	p, b := homePool(), homeBib()
	lay := func(f impl.Flow, rest string) string {
		if data := layCarried(f, false, rest); f.Proto != 6 {
			return data
		} else {
			return flagged(data, syn)
		}
	}
	restFor := func(f impl.Flow) string {
		return impl.WordBytes(65535 - expected(pseudoOf(f.Src, f.Dst, f.Proto, len(lay(f, "ab")))+lay(f, "\x00\x00")))
	}
	for _, proto := range bibProtos {
		at := checkPlaceOf(proto)
		f, g := outBySix(proto, newSix, 65535, homeSix, peerA, 53), flowFrom(proto, lentLast, 1001, peerA, 53)
		what := fmt.Sprintf("proto %d, to 0", proto)
		went := sixGoes.passes(t, what, p, b, homeSix, carryingSix(f, checked(f, lay(f, restFor(g)))), 100)
		wantCarried(t, what, went.Four, g, true)
		wantText(t, what, went.Four.Data[at:at+2], "\xff\xff")

		back, in := flowFrom(proto, peerA, 53, lentLast, 1001), flowOfSix(proto, putInto(homeSix, peerA), 53, newSix, 65535)
		if proto == impl.Icmp {
			back.SrcPort, back.DstPort = 1001, 1001
		}
		came := sixComes.passes(t, what+", back", p, went.Bib, homeSix, carrying(back, checked(back, lay(back, restFor(in)))), 100)
		wantSixCarried(t, what+", back", came.Six, in, true)
		wantText(t, what+", back", came.Six.Data[at:at+2], "\xff\xff")
	}
}

// Headers are turned as they are alone, and the longest data go both ways.
func TestSixHeaders(t *testing.T) {
	p, b := homePool(), homeBib()
	f, g := outBySix(impl.Udp, hostSix, 40000, homeSix, peerB, 53), flowFrom(impl.Udp, peerB, 53, lentTwo, 1002)
	for _, n := range []int64{0, 1, 255} {
		for _, rest := range []int{0, 1, impl.MaxData - 8} {
			out := carryingSix(f, carriedAs(f, false, filler(rest)))
			out.Class, out.Hops, out.Flow = n, n, 4112*n
			went := sixGoes.passes(t, "a header", p, b, homeSix, out, 100)
			wantFour(t, "out", impl.V4Out{Packet: went.Four}, impl.V4Out{Packet: impl.V4{Tos: n, Whole: true, Ttl: n, Proto: impl.Udp,
				Src: lentTwo, Dst: peerB, Data: carriedAs(flowFrom(impl.Udp, lentTwo, 1002, peerB, 53), false, filler(rest))}})
			for _, whole := range []bool{false, true} {
				for _, options := range []int{0, 4, 40} {
					in := carrying(g, carriedAs(g, false, filler(rest)))
					in.Tos, in.Ttl, in.Id, in.Whole, in.Options = n, n, 257*n, whole, filler(options)
					came := sixComes.passes(t, "a header", p, b, homeSix, in, 100)
					wantSix(t, "in", impl.V6Out{Packet: came.Six}, impl.V6Out{Packet: impl.V6{Class: n, Next: impl.Udp, Hops: n,
						Src: f.Dst, Dst: hostSix, Data: carriedAs(flowOfSix(impl.Udp, f.Dst, 53, hostSix, 40000), false, filler(rest))}})
				}
			}
		}
	}
}

// sixBib has a bind of a host of 16 bytes of each proto, each with a session, and one of a host of 4.
func sixBib() impl.Bib {
	b := bibOf(impl.Bind{Proto: impl.Udp, In: hostSix, InPort: 5, Out: lentOne, OutPort: 1002},
		impl.Bind{Proto: impl.Tcp, In: hostSix, InPort: 6, Out: lentOne, OutPort: 1002},
		impl.Bind{Proto: impl.Icmp, In: hostSix, InPort: 7, Out: lentOne, OutPort: 1002},
		impl.Bind{Proto: impl.Udp, In: hostA, InPort: 5, Out: lentOne, OutPort: 1005})
	b.Sessions[2].PeerPort = 0
	return b
}

// What comes from elsewhere is let in by the Filter, and makes no bind.
func TestSixFromElsewhere(t *testing.T) {
	b := sixBib()
	for _, c := range []struct {
		what    string
		f       impl.Flow
		bind    int
		session int
		met     bool
	}{
		{"the peer of UDP", flowFrom(impl.Udp, peerA, 53, lentOne, 1002), 0, 0, true},
		{"the peer of TCP", flowFrom(impl.Tcp, peerA, 53, lentOne, 1002), 1, 1, true},
		{"the peer of ICMP", flowFrom(impl.Icmp, peerA, 1002, lentOne, 0), 2, 2, true},
		{"the peer's other port, UDP", flowFrom(impl.Udp, peerA, 54, lentOne, 1002), 0, 4, true},
		{"the peer's other port, TCP", flowFrom(impl.Tcp, peerA, 0, lentOne, 1002), 1, 4, true},
		{"another peer, UDP", flowFrom(impl.Udp, peerB, 53, lentOne, 1002), 0, 4, false},
		{"another peer, TCP", flowFrom(impl.Tcp, peerB, 53, lentOne, 1002), 1, 4, false},
		{"another peer, ICMP", flowFrom(impl.Icmp, peerB, 1002, lentOne, 0), 2, 4, false},
		{"an end of the pool, UDP", flowFrom(impl.Udp, lentOne, 1005, lentOne, 1002), 0, 4, false},
	} {
		for filter := range int64(3) {
			p, q, what := filtered(filter), sent(c.f, syn), fmt.Sprintf("%s, Filter %d", c.what, filter)
			if c.session == 4 && (filter == 2 || filter == 1 && !c.met) {
				sixComes.refuses(t, what, p, b, homeSix, q, 100, impl.ErrNone)
				continue
			}
			came := sixComes.passes(t, what, p, b, homeSix, q, 100)
			bind, s := b.Binds[c.bind], came.Bib.Sessions[c.session]
			wantSixCarried(t, what, came.Six, flowOfSix(c.f.Proto, putInto(homeSix, c.f.Src), c.f.SrcPort, hostSix, bind.InPort), true)
			wantAnswer(t, what+": binds", slices.Equal(came.Bib.Binds, b.Binds), true)
			wantAnswer(t, what+": session", hostEndOf(s) == endInside(bind) && s.Peer == c.f.Src, true)
		}
	}
}

// A connection of TCP from six to four, from its beginning to its end.
func TestSixConnection(t *testing.T) {
	p, b := filtered(2), homeBib()
	for i, c := range []struct {
		out   bool
		flags int64
		state int64
		until int64
	}{{true, syn, 1, 33}, {false, syn | ack, 3, 44}, {true, ack, 3, 44}, {false, fin | ack, 5, 44}, {true, ack, 5, 44}, {true, fin | ack, 6, 55}, {false, rst, 7, 55}} {
		what, now := fmt.Sprintf("step %d", i), int64(10*i)
		var got impl.NatOut
		if c.out {
			got = sixGoes.passes(t, what, p, b, homeSix, goesBySix(impl.Tcp, newSix, 7000, peerC, 80, c.flags), now)
		} else {
			got = sixComes.passes(t, what, p, b, homeSix, sent(flowFrom(impl.Tcp, peerC, 80, lentLast, 1000), c.flags), now)
		}
		b = got.Bib
		wantNumber(t, what+": sessions", int64(len(b.Sessions)), 8)
		wantNumber(t, what+": state", b.Sessions[7].State, c.state)
		wantNumber(t, what+": until", b.Sessions[7].Until, now+c.until)
	}
	wantNumber(t, "ahead of its end", int64(len(impl.BibTick(p, b, 114).Binds)), 6)
	wantNumber(t, "at its end", int64(len(impl.BibTick(p, b, 115).Binds)), 5)
}

// Two hosts of sixes and one of four at one end of the wish: each has a port of its own, and what comes comes to each.
func TestSixBesideFour(t *testing.T) {
	p := impl.Pool{Addrs: []string{lentOne}, Low: 1000, High: 1009, Most: 20, Filter: 1, Lives: someLives()}
	for _, proto := range bibProtos {
		first := sixGoes.passes(t, "the first", p, impl.Bib{}, homeSix, goesBySix(proto, newSix, 1004, peerA, 53, syn), 0)
		second := sixGoes.passes(t, "the second", p, first.Bib, homeSix, goesBySix(proto, otherSix, 1004, peerA, 53, syn), 0)
		third := goes.passes(t, "the third", p, second.Bib, sent(flowFrom(proto, hostA, 1004, peerA, 53), syn), 0)
		for i, c := range []struct {
			went impl.NatOut
			host string
			lent int64
		}{{first, newSix, 1004}, {second, otherSix, 1000}, {third, hostA, 1002}} {
			wantNumber(t, "the port lent", third.Bib.Binds[i].OutPort, c.lent)
			answer := answerTo(c.went.Four, syn|ack)
			if len(c.host) == 4 {
				wantText(t, "to four", comes.passes(t, "to four", p, third.Bib, answer, 1).Four.Dst, c.host)
				sixComes.refuses(t, "to four", p, third.Bib, homeSix, answer, 1, impl.ErrKind)
				continue
			}
			wantText(t, "to six", sixComes.passes(t, "to six", p, third.Bib, homeSix, answer, 1).Six.Dst, c.host)
			comes.refuses(t, "to six", p, third.Bib, answer, 1, impl.ErrKind)
		}
	}
}

// The prefix that an answer comes back by is the one that is told then; none is kept.
func TestSixByAnotherPrefix(t *testing.T) {
	went := sixGoes.passes(t, "by one", homePool(), homeBib(), homeSix, goesBySix(impl.Udp, newSix, 5353, peerA, 53, 0), 100)
	for _, x := range sixPrefixes {
		came := sixComes.passes(t, "by "+told(x), homePool(), went.Bib, x, answerTo(went.Four, 0), 100)
		wantSixCarried(t, "by "+told(x), came.Six, flowOfSix(impl.Udp, putInto(x, peerA), 53, newSix, 5353), true)
		again := sixGoes.passes(t, "by "+told(x), homePool(), went.Bib, x, sentSix(outBySix(impl.Udp, newSix, 5353, x, peerA, 53), 0), 100)
		wantNumber(t, "one session by "+told(x), int64(len(again.Bib.Sessions)), 8)
	}
}
