package tests

import (
	"fmt"
	"slices"
	"strings"
	"testing"

	"loop.example/g00314/impl"
)

// openGate is home's, whose pool lets anyone begin.
func openGate() impl.Gateway {
	return gateWith(homeGate(), func(g *impl.Gateway) { g.Pool.Filter = 0 })
}

// gateCase is a packet, and what becomes of it: the code, the hops that something is sent to, and whether the bib
// stays as it was.
type gateCase struct {
	what string
	text string
	code int64
	hops []int64
	same bool
}

func (c gateCase) passes(t *testing.T, g impl.Gateway, inside bool) impl.GwOut {
	t.Helper()
	got := takes(t, c.what, g, inside, c.text, c.code, c.hops...)
	tells := len(c.hops) > 0 && c.code != impl.OK
	wantKept(t, c.what, g, got, c.same, true, !tells)
	return got
}

// fourText are the bytes of a packet of IPv4 between two ends; of TCP it is one that begins.
func fourText(proto int64, src string, srcPort int64, dst string, dstPort int64) string {
	f := flowFrom(proto, src, srcPort, dst, dstPort)
	if !slices.Contains(bibProtos, proto) {
		return layFour(carrying(f, filler(30)))
	}
	return layFour(sent(f, syn))
}

func sixText(proto int64, src string, srcPort int64, dst string, dstPort int64) string {
	f := flowOfSix(proto, src, srcPort, dst, dstPort)
	if !slices.Contains(bibProtos, proto) {
		return laySix(carryingSix(f, filler(30)))
	}
	return laySix(sentSix(f, syn))
}

// intoText are the bytes of a packet from a host to a peer by home's prefix.
func intoText(proto int64, host string, port int64, peer string, peerPort int64) string {
	if proto == impl.Icmp {
		peerPort = port
	}
	return sixText(proto, host, port, putInto(homeSix, peer), peerPort)
}

var (
	edgeFours = map[string]int64{"172.16.0.1": 500, "172.17.0.1": 501, "172.18.255.255": 1, "172.19.0.0": 1000}
	edgeSixes = map[string]int64{"fd16::1": 500, "fd17::1": 501, "fd18:ffff::": 1, "fd19::": 1000}
	lostFour  = addressOf("9.9.9.9")
	lostSix   = addressOf("3000::9")
)

func TestFoursFromInside(t *testing.T) {
	for _, proto := range bibProtos {
		for _, c := range []gateCase{
			{"out to a hop outside", fourText(proto, hostC, 1005, peerA, 53), impl.OK, []int64{600}, false},
			{"out to the hop of a longer prefix", fourText(proto, hostC, 1005, peerB, 53), impl.OK, []int64{601}, false},
			{"out, from a host that nobody knows a way to", fourText(proto, lostFour, 1005, peerB, 53), impl.OK, []int64{601}, false},
			{"out, from one outside", fourText(proto, peerC, 1005, peerB, 53), impl.OK, []int64{601}, false},
			{"to a hop inside", fourText(proto, hostC, 1005, hostB, 53), impl.OK, []int64{7}, true},
			{"to the hop inside of a longer prefix", fourText(proto, hostA, 1002, hostC, 53), impl.OK, []int64{8}, true},
			{"to itself", fourText(proto, hostA, 1002, hostA, 1002), impl.OK, []int64{7}, true},
			{"to nowhere", fourText(proto, hostC, 1005, lostFour, 53), impl.ErrNone, []int64{8}, true},
			{"to nowhere, from outside", fourText(proto, peerB, 1005, lostFour, 53), impl.ErrNone, []int64{601}, true},
			{"to nowhere, from nowhere", fourText(proto, lostFour, 1005, lostFour, 53), impl.ErrNone, nil, true},
			{"to the gateway", fourText(proto, hostA, 1005, gateFour, 53), impl.ErrKind, nil, true},
			{"to an end that nobody has", fourText(proto, hostC, 1009, lentOne, 1009), map[bool]int64{true: impl.ErrKind, false: impl.ErrNone}[proto == impl.Icmp], nil, true},
			{"to an address of the pool that nobody has", fourText(proto, hostC, 1002, lentLast, 1002), map[bool]int64{true: impl.ErrKind, false: impl.ErrNone}[proto == impl.Icmp], nil, true},
		} {
			c.what = fmt.Sprintf("%s, proto %d", c.what, proto)
			c.passes(t, openGate(), true)
		}
		for dst, hop := range edgeFours {
			c := gateCase{fmt.Sprintf("to %s, proto %d", dst, proto), fourText(proto, hostC, 1005, addressOf(dst), 53), impl.OK, []int64{hop}, hop <= 500}
			c.passes(t, openGate(), true)
		}
	}
	for _, c := range []gateCase{
		{"to a host's end", fourText(impl.Udp, hostB, 1002, lentOne, 1002), impl.OK, []int64{7}, false},
		{"to a host's end of TCP", fourText(impl.Tcp, hostC, 1004, lentOne, 1002), impl.OK, []int64{7}, false},
		{"to its own end", fourText(impl.Udp, hostA, 1002, lentOne, 1002), impl.OK, []int64{7}, false},
		{"from a longer prefix to a host's end", fourText(impl.Udp, hostC, 1002, lentOne, 1004), impl.OK, []int64{7}, false},
		{"to the end of a host of IPv6", fourText(impl.Udp, hostB, 1002, lentTwo, 1002), impl.ErrKind, nil, true},
		{"what asks, to the end of a host of IPv6", fourText(impl.Icmp, hostB, 1001, lentTwo, 1001), impl.ErrKind, nil, true},
		{"a strange proto, out", fourText(47, hostB, 1, peerA, 1), impl.ErrKind, nil, true},
		{"a strange proto, to an end of the pool", fourText(47, hostB, 1, lentOne, 1), impl.ErrKind, nil, true},
		{"a strange proto, to a hop inside", fourText(47, hostB, 1, hostC, 1), impl.OK, []int64{8}, true},
		{"a strange proto, to nowhere", fourText(47, hostB, 1, lostFour, 1), impl.ErrNone, []int64{7}, true},
		{"short data, out", layFour(carrying(flowFrom(impl.Udp, hostB, 0, peerA, 0), "short")), impl.ErrShort, nil, true},
		{"short data, to an end of the pool", layFour(carrying(flowFrom(impl.Udp, hostB, 0, lentOne, 0), "short")), impl.ErrShort, nil, true},
		{"short data, to a hop inside", layFour(carrying(flowFrom(impl.Udp, hostB, 0, hostA, 0), "short")), impl.OK, []int64{7}, true},
		{"TCP that does not begin, out", layFour(sent(flowFrom(impl.Tcp, hostB, 1, peerA, 1), ack)), impl.ErrNone, nil, true},
		{"TCP that goes on, out", layFour(sent(flowFrom(impl.Tcp, hostA, 1002, peerA, 80), ack)), impl.OK, []int64{600}, false},
		{"a message, out", layFour(carrying(flowFrom(impl.Icmp, hostA, 0, peerA, 0), "\x03\x00\x00\x00\x00\x00\x00\x00")), impl.ErrKind, nil, true},
		{"a message, to nowhere", layFour(carrying(flowFrom(impl.Icmp, hostA, 0, lostFour, 0), "\x03\x00\x00\x00\x00\x00\x00\x00")), impl.ErrNone, nil, true},
	} {
		c.passes(t, openGate(), true)
	}
	full := gateWith(openGate(), func(g *impl.Gateway) { g.Pool.Most = 7 })
	gateCase{"no session is left, out", fourText(impl.Udp, hostC, 1005, peerA, 53), impl.ErrFull, nil, true}.passes(t, full, true)
	gateCase{"no session is left, back", fourText(impl.Udp, hostC, 1005, lentOne, 1002), impl.ErrFull, nil, true}.passes(t, full, true)
}

// What goes from host to host goes as it came, but for its Ttl; what goes out has another end.
func TestFoursAreSentAs(t *testing.T) {
	q := sent(flowFrom(impl.Udp, hostC, 1005, hostB, 53), 0)
	got := takes(t, "inside", homeGate(), true, layFour(q), impl.OK, 7)
	q.Ttl--
	wantText(t, "inside", got.Sends[0].Text, layFour(q))
	q = sent(flowFrom(impl.Udp, hostA, 1002, peerA, 53), 0)
	got = takes(t, "out", homeGate(), true, layFour(q), impl.OK, 600)
	f := flowFrom(impl.Udp, lentOne, 1002, peerA, 53)
	wantText(t, "out", got.Sends[0].Text, layFour(packetWith(sent(f, 0), func(q *impl.V4) { q.Ttl = 8 })))
	wantNumber(t, "its session goes on", got.Gateway.Bib.Sessions[0].Until, 111)
	f = flowFrom(impl.Udp, hostB, 1002, lentOne, 1002)
	got = takes(t, "back", openGate(), true, layFour(sent(f, 0)), impl.OK, 7)
	f = flowFrom(impl.Udp, lentOne, 1004, hostA, 1002)
	wantText(t, "back", got.Sends[0].Text, layFour(packetWith(sent(f, 0), func(q *impl.V4) { q.Ttl = 8 })))
	wantNumber(t, "two sessions are new", int64(len(got.Gateway.Bib.Sessions)), 9)
}

func TestFoursFromOutside(t *testing.T) {
	for _, proto := range append(slices.Clone(bibProtos), 47) {
		for _, c := range []gateCase{
			{"to a host", fourText(proto, peerA, 53, hostA, 1002), impl.ErrKind, nil, true},
			{"to a hop outside", fourText(proto, peerA, 53, peerB, 1002), impl.ErrKind, nil, true},
			{"to nowhere", fourText(proto, peerA, 53, lostFour, 1002), impl.ErrKind, nil, true},
			{"to the gateway", fourText(proto, peerA, 53, gateFour, 1002), impl.ErrKind, nil, true},
			{"to an address beside the pool's", fourText(proto, peerA, 53, addressOf("203.0.113.4"), 1002), impl.ErrKind, nil, true},
		} {
			c.what = fmt.Sprintf("%s, proto %d", c.what, proto)
			c.passes(t, openGate(), false)
		}
		for dst := range edgeFours {
			gateCase{"to " + dst, fourText(proto, peerA, 53, addressOf(dst), 1002), impl.ErrKind, nil, true}.passes(t, openGate(), false)
		}
	}
	for _, c := range []gateCase{
		{"to a host's end", fourText(impl.Udp, peerA, 53, lentOne, 1002), impl.OK, []int64{7}, false},
		{"to a host's end, from another peer", fourText(impl.Udp, peerC, 9, lentOne, 1004), impl.OK, []int64{7}, false},
		{"to a host's end, from a host", fourText(impl.Udp, hostC, 9, lentOne, 1004), impl.OK, []int64{7}, false},
		{"to a host's end of TCP", layFour(sent(flowFrom(impl.Tcp, peerA, 80, lentOne, 1002), syn|ack)), impl.OK, []int64{7}, false},
		{"TCP that does not begin", layFour(sent(flowFrom(impl.Tcp, peerB, 80, lentOne, 1002), ack)), impl.ErrNone, nil, true},
		{"to an end that nobody has", fourText(impl.Udp, peerA, 53, lentOne, 1003), impl.ErrNone, nil, true},
		{"to an end of another proto", fourText(impl.Tcp, peerA, 53, lentOne, 1004), impl.ErrNone, nil, true},
		{"to an address that nobody has", fourText(impl.Udp, peerA, 53, lentLast, 1002), impl.ErrNone, nil, true},
		{"to the end of a host of IPv6", fourText(impl.Udp, peerB, 53, lentTwo, 1002), impl.OK, []int64{11}, false},
		{"to the end of a host of IPv6, from another peer", fourText(impl.Udp, peerC, 9, lentTwo, 1002), impl.OK, []int64{11}, false},
		{"what asks, to a host of IPv6", fourText(impl.Icmp, peerB, 1001, lentTwo, 1001), impl.OK, []int64{11}, false},
		{"what asks, to nobody", fourText(impl.Icmp, peerB, 1002, lentTwo, 1002), impl.ErrNone, nil, true},
		{"a message", layFour(carrying(flowFrom(impl.Icmp, peerA, 0, lentOne, 0), "\x03\x00\x00\x00\x00\x00\x00\x00")), impl.ErrKind, nil, true},
		{"a strange proto", fourText(47, peerA, 53, lentOne, 1002), impl.ErrKind, nil, true},
		{"short data", layFour(carrying(flowFrom(impl.Udp, peerA, 0, lentOne, 0), "short")), impl.ErrShort, nil, true},
		{"UDP without a check", layFour(withoutCheck(sent(flowFrom(impl.Udp, peerA, 53, lentOne, 1002), 0))), impl.OK, []int64{7}, false},
		{"UDP without a check, to a host of IPv6", layFour(withoutCheck(sent(flowFrom(impl.Udp, peerB, 53, lentTwo, 1002), 0))), impl.ErrSum, nil, true},
	} {
		c.passes(t, openGate(), false)
	}
	full := gateWith(openGate(), func(g *impl.Gateway) { g.Pool.Most = 7 })
	gateCase{"no session is left", fourText(impl.Udp, peerC, 9, lentOne, 1004), impl.ErrFull, nil, true}.passes(t, full, false)
	gateCase{"no session is left, of six", fourText(impl.Udp, peerC, 9, lentTwo, 1002), impl.ErrFull, nil, true}.passes(t, full, false)
	gateCase{"a session that there is", fourText(impl.Udp, peerA, 53, lentOne, 1002), impl.OK, []int64{7}, false}.passes(t, full, false)
}

// farGate has binds of hosts whose ways lead outside, or nowhere, or just inside.
func farGate() impl.Gateway {
	var binds []impl.Bind
	for i, host := range []string{"172.16.0.1", "172.17.0.1", "9.9.9.9", "fd16::1", "fd17::1", "3000::9"} {
		binds = append(binds, impl.Bind{Proto: impl.Udp, In: addressOf(host), InPort: 5, Out: lentOne, OutPort: 1000 + int64(i)})
	}
	return gateWith(openGate(), func(g *impl.Gateway) { g.Bib = bibOf(binds...) })
}

// The host of a bind may have a hop that is not inside: nothing is sent to it from outside, but from inside it is, if
// there is a hop at all. The bib is kept all the same.
func TestFoursToFarHosts(t *testing.T) {
	for i, want := range []struct {
		out, back       int64
		outHop, backHop []int64
	}{
		{impl.OK, impl.OK, []int64{500}, []int64{500}},
		{impl.ErrNone, impl.OK, nil, []int64{501}},
		{impl.ErrNone, impl.ErrNone, nil, nil},
		{impl.OK, impl.ErrKind, []int64{500}, nil},
		{impl.ErrNone, impl.ErrKind, nil, nil},
		{impl.ErrNone, impl.ErrKind, nil, nil},
	} {
		for _, peerPort := range []int64{53, 54} {
			what, port := fmt.Sprintf("the bind of the number %d", i), 1000+int64(i)
			gateCase{what, fourText(impl.Udp, peerA, peerPort, lentOne, port), want.out, want.outHop, false}.passes(t, farGate(), false)
			gateCase{what, fourText(impl.Udp, hostB, peerPort, lentOne, port), want.back, want.backHop, want.back == impl.ErrKind}.passes(t, farGate(), true)
		}
	}
}

func TestSixesFromInside(t *testing.T) {
	for _, proto := range bibProtos {
		for _, c := range []gateCase{
			{"into the prefix", intoText(proto, hostSix, 40000, peerB, 53), impl.OK, []int64{601}, false},
			{"into the prefix, a new host", intoText(proto, newSix, 1005, peerA, 53), impl.OK, []int64{600}, false},
			{"into the prefix, from nowhere", intoText(proto, lostSix, 1005, peerA, 53), impl.OK, []int64{600}, false},
			{"into the prefix, to an address of the pool", intoText(proto, newSix, 1005, lentOne, 1002), impl.ErrKind, nil, false},
			{"into the prefix, to one that nobody has", intoText(proto, newSix, 1005, lentLast, 1002), impl.ErrKind, nil, false},
			{"into the prefix, to a hop inside", intoText(proto, newSix, 1005, hostA, 53), impl.ErrNone, nil, false},
			{"into the prefix, to nowhere", intoText(proto, newSix, 1005, lostFour, 53), impl.ErrNone, nil, false},
			{"into the prefix, to the gateway", intoText(proto, newSix, 1005, gateFour, 53), impl.OK, []int64{600}, false},
			{"to a hop inside", sixText(proto, newSix, 1005, otherSix, 53), impl.OK, []int64{10}, true},
			{"to the hop of a longer prefix", sixText(proto, newSix, 1005, hostSix, 53), impl.OK, []int64{11}, true},
			{"to a hop outside", sixText(proto, newSix, 1005, addressOf("2400::1"), 53), impl.OK, []int64{800}, true},
			{"to nowhere", sixText(proto, newSix, 1005, lostSix, 53), impl.ErrNone, []int64{9}, true},
			{"to nowhere, from nowhere", sixText(proto, lostSix, 1005, lostSix, 53), impl.ErrNone, nil, true},
			{"to the gateway", sixText(proto, newSix, 1005, gateSix, 53), impl.ErrKind, nil, true},
			{"beside the prefix", sixText(proto, newSix, 1005, withBitFlipped(putInto(homeSix, peerA), 95), 53), impl.ErrNone, []int64{9}, true},
		} {
			c.what = fmt.Sprintf("%s, proto %d", c.what, proto)
			c.passes(t, openGate(), true)
		}
		for dst, hop := range edgeSixes {
			gateCase{"to " + dst, sixText(proto, newSix, 1005, addressOf(dst), 53), impl.OK, []int64{hop}, true}.passes(t, openGate(), true)
		}
		for dst, hop := range edgeFours {
			c := gateCase{"into the prefix, to " + dst, intoText(proto, newSix, 1005, addressOf(dst), 53), impl.OK, []int64{hop}, false}
			if hop <= 500 {
				c.code, c.hops = impl.ErrNone, nil
			}
			c.passes(t, openGate(), true)
		}
	}
	for _, c := range []gateCase{
		{"a strange proto, into the prefix", sixText(47, newSix, 1, putInto(homeSix, peerA), 1), impl.ErrKind, nil, true},
		{"a strange proto, into the prefix and the pool", sixText(47, newSix, 1, putInto(homeSix, lentOne), 1), impl.ErrKind, nil, true},
		{"a strange proto, to a hop inside", sixText(47, newSix, 1, otherSix, 1), impl.OK, []int64{10}, true},
		{"a strange proto, to nowhere", sixText(47, newSix, 1, lostSix, 1), impl.ErrNone, []int64{9}, true},
		{"short data", laySix(carryingSix(flowOfSix(impl.Udp, newSix, 0, putInto(homeSix, peerA), 0), "short")), impl.ErrShort, nil, true},
		{"TCP that does not begin", laySix(goesBySix(impl.Tcp, newSix, 7, peerA, 80, ack)), impl.ErrNone, nil, true},
		{"a message, to nowhere", laySix(carryingSix(flowOfSix(impl.Icmp, newSix, 0, lostSix, 0), "\x01\x00\x00\x00\x00\x00\x00\x00")), impl.ErrNone, nil, true},
		{"a message, into the prefix", laySix(carryingSix(flowOfSix(impl.Icmp, newSix, 0, putInto(homeSix, peerA), 0), "\x01\x00\x00\x00\x00\x00\x00\x00")), impl.ErrKind, nil, true},
		{"a message, to a hop inside", laySix(carryingSix(flowOfSix(impl.Icmp, newSix, 0, otherSix, 0), "\x01\x00\x00\x00\x00\x00\x00\x00")), impl.OK, []int64{10}, true},
	} {
		c.passes(t, openGate(), true)
	}
	full := gateWith(openGate(), func(g *impl.Gateway) { g.Pool.Most = 7 })
	gateCase{"no session is left", intoText(impl.Udp, newSix, 1005, peerA, 53), impl.ErrFull, nil, true}.passes(t, full, true)
	// An address of the prefix that no four bytes are put into so.
	wide := gateWith(openGate(), func(g *impl.Gateway) { g.Six = prefixOf("2001:db8:122::/48") })
	dst := putInto(wide.Six, peerA)
	gateCase{"laid well", sixText(impl.Udp, newSix, 5, dst, 53), impl.OK, []int64{600}, false}.passes(t, wide, true)
	for _, at := range []int64{64, 71, 88, 127} {
		c := gateCase{fmt.Sprintf("the bit of the number %d", at), sixText(impl.Udp, newSix, 5, withBitFlipped(dst, at), 53), impl.ErrSyntax, nil, true}
		c.passes(t, wide, true)
	}
}

func TestSixesFromOutside(t *testing.T) {
	from := addressOf("2400::1")
	for _, proto := range append(slices.Clone(bibProtos), 47) {
		for _, c := range []gateCase{
			{"to a hop inside", sixText(proto, from, 53, otherSix, 7), impl.OK, []int64{10}, true},
			{"to the hop of a longer prefix", sixText(proto, from, 53, hostSix, 7), impl.OK, []int64{11}, true},
			{"to a hop inside, from inside's addresses", sixText(proto, newSix, 53, hostSix, 7), impl.OK, []int64{11}, true},
			{"to a hop outside", sixText(proto, from, 53, addressOf("2400::2"), 7), impl.ErrKind, nil, true},
			{"to nowhere", sixText(proto, from, 53, lostSix, 7), impl.ErrNone, []int64{800}, true},
			{"to nowhere, from inside's addresses", sixText(proto, newSix, 53, lostSix, 7), impl.ErrNone, []int64{9}, true},
			{"to nowhere, from nowhere", sixText(proto, lostSix, 53, lostSix, 7), impl.ErrNone, nil, true},
			{"to the gateway", sixText(proto, from, 53, gateSix, 7), impl.ErrKind, nil, true},
			{"into the prefix, which has no hop", sixText(proto, from, 53, putInto(homeSix, peerA), 7), impl.ErrNone, []int64{800}, true},
		} {
			c.what = fmt.Sprintf("%s, proto %d", c.what, proto)
			c.passes(t, openGate(), false)
		}
		for dst, hop := range edgeSixes {
			c := gateCase{"to " + dst, sixText(proto, from, 53, addressOf(dst), 7), impl.OK, []int64{hop}, true}
			if hop > 500 {
				c.code, c.hops = impl.ErrKind, nil
			}
			c.passes(t, openGate(), false)
		}
	}
	// From outside an address of the prefix is one as others are.
	for hop, code := range map[int64]int64{20: impl.OK, 500: impl.OK, 501: impl.ErrKind} {
		g := gateWith(openGate(), func(g *impl.Gateway) { g.Routes = append(g.Routes, route("64:ff9b::/32", hop)) })
		c := gateCase{"into the prefix", sixText(impl.Udp, from, 53, putInto(homeSix, peerA), 7), code, nil, true}
		if code == impl.OK {
			c.hops = []int64{hop}
		}
		c.passes(t, g, false)
		gateCase{"into the prefix, from inside", intoText(impl.Udp, newSix, 5, peerA, 7), impl.OK, []int64{600}, false}.passes(t, g, true)
	}
}

// What comes of a packet of IPv6 that goes as it is, and of those that are turned.
func TestSixesAreSentAs(t *testing.T) {
	q := goesBySix(impl.Udp, newSix, 1005, peerA, 53, 0)
	q.Dst = otherSix
	got := takes(t, "inside", homeGate(), true, laySix(q), impl.OK, 10)
	q.Hops--
	wantText(t, "inside", got.Sends[0].Text, laySix(q))
	piece := sixPacketWith(q, func(q *impl.V6) { q.Piece, q.Off, q.Id = true, 3, 70000 })
	got = takes(t, "a piece", homeGate(), true, laySix(piece), impl.OK, 10)
	piece.Hops--
	wantText(t, "a piece goes as it is", got.Sends[0].Text, laySix(piece))
	wantKept(t, "a piece goes as it is", homeGate(), got, true, true, true)

	got = takes(t, "into the prefix", homeGate(), true, intoText(impl.Udp, hostSix, 40000, peerB, 53), impl.OK, 601)
	f := flowFrom(impl.Udp, lentTwo, 1002, peerB, 53)
	want := impl.V4{Tos: 184, Whole: true, Ttl: 8, Proto: impl.Udp, Src: lentTwo, Dst: peerB, Data: sent(f, 0).Data}
	wantText(t, "into the prefix", got.Sends[0].Text, layFour(want))
	got = takes(t, "back", homeGate(), false, layFour(sent(flowFrom(impl.Udp, peerB, 53, lentTwo, 1002), 0)), impl.OK, 11)
	g := flowOfSix(impl.Udp, putInto(homeSix, peerB), 53, hostSix, 40000)
	wantText(t, "back", got.Sends[0].Text, laySix(sixPacketWith(sentSix(g, 0), func(q *impl.V6) { q.Hops, q.Flow = 8, 0 })))
}

// Its own addresses are asked for ahead of all else, whatever else they are.
func TestOwnAddresses(t *testing.T) {
	for _, inside := range bothSides {
		for _, own := range []string{gateFour, lentOne, lentLast, hostA, peerA, lostFour} {
			g := gateWith(openGate(), func(g *impl.Gateway) { g.Four1 = own })
			for _, ttl := range []int64{0, 1, 2, 255} {
				q := packetWith(sent(flowFrom(impl.Udp, peerB, 53, own, 1002), 0), func(q *impl.V4) { q.Ttl = ttl })
				gateCase{"to its own", layFour(q), impl.ErrKind, nil, true}.passes(t, g, inside)
				q.Whole, q.Off = false, 9
				gateCase{"a piece to its own", layFour(q), impl.ErrKind, nil, true}.passes(t, g, inside)
			}
		}
		for _, own := range []string{gateSix, hostSix, otherSix, putInto(homeSix, peerA), lostSix} {
			g := gateWith(openGate(), func(g *impl.Gateway) { g.Six1 = own })
			for _, hops := range []int64{0, 1, 2, 255} {
				q := sixPacketWith(sentSix(flowOfSix(impl.Udp, newSix, 53, own, 1002), 0), func(q *impl.V6) { q.Hops = hops })
				gateCase{"to its own", laySix(q), impl.ErrKind, nil, true}.passes(t, g, inside)
				q.Piece, q.More, q.Data = true, true, filler(16)
				gateCase{"a piece to its own", laySix(q), impl.ErrKind, nil, true}.passes(t, g, inside)
			}
		}
	}
	// The address of one kind is none of the other's.
	g := gateWith(openGate(), func(g *impl.Gateway) { g.Four1 = addressOf("192.0.2.77") })
	gateCase{"no more its own", fourText(impl.Udp, hostC, 1005, gateFour, 53), impl.OK, []int64{600}, false}.passes(t, g, true)
	g = gateWith(openGate(), func(g *impl.Gateway) { g.Six1 = addressOf("2001:db8::77") })
	gateCase{"no more its own", sixText(impl.Udp, newSix, 5, gateSix, 53), impl.OK, []int64{9}, true}.passes(t, g, true)
}

// Ttl and Hops at and beside their last one, by each of the ways: none is asked ahead of them but its own address.
func TestLastHops(t *testing.T) {
	fours := map[string]bool{}
	for _, dst := range []string{peerA, peerB, hostA, hostC, lentOne, lentTwo, lentLast, lostFour} {
		fours[dst] = true
	}
	for _, inside := range bothSides {
		for dst := range fours {
			for _, ttl := range []int64{0, 1, 2, 3, 64, 255} {
				q := packetWith(sent(flowFrom(impl.Udp, peerB, 53, dst, 1002), 0), func(q *impl.V4) { q.Ttl = ttl })
				got := impl.GwIn(openGate(), inside, layFour(q))
				wantAnswer(t, "ErrHops", got.Code == impl.ErrHops, ttl < 2)
				wantGwOut(t, "a Ttl", got, gateTold(openGate(), inside, layFour(q)))
				if ttl < 2 {
					takes(t, "too far", openGate(), inside, layFour(q), impl.ErrHops, 601)
					wantText(t, "too far", got.Sends[0].Text, layFour(toldOfFour(gateFour, q, 11, 0, 0).Packet))
					wantNumber(t, "too far: left in the bucket", got.Gateway.Bucket.Left, 2)
				} else if len(got.Sends) == 1 && got.Sends[0].Text[0] == 0x46 {
					wantNumber(t, "one less", impl.V4Read(got.Sends[0].Text).Packet.Ttl, ttl-1)
				}
			}
		}
		for _, dst := range []string{otherSix, hostSix, putInto(homeSix, peerA), addressOf("2400::1"), lostSix} {
			for _, hops := range []int64{0, 1, 2, 3, 64, 255} {
				q := sixPacketWith(sentSix(flowOfSix(impl.Udp, newSix, 53, dst, 1002), 0), func(q *impl.V6) { q.Hops = hops })
				got := impl.GwIn(openGate(), inside, laySix(q))
				wantAnswer(t, "ErrHops", got.Code == impl.ErrHops, hops < 2)
				wantGwOut(t, "Hops", got, gateTold(openGate(), inside, laySix(q)))
				if hops < 2 {
					takes(t, "too far", openGate(), inside, laySix(q), impl.ErrHops, 9)
					wantText(t, "too far", got.Sends[0].Text, laySix(toldOfSix(gateSix, q, 3, 0, 0).Packet))
					wantNumber(t, "too far: left in the bucket", got.Gateway.Bucket.Left, 2)
				} else if len(got.Sends) == 1 && got.Code == impl.OK && got.Sends[0].Text[0] == 0x6b {
					wantNumber(t, "one less", impl.V6Read(got.Sends[0].Text).Packet.Hops, hops-1)
				}
			}
		}
	}
}

// Texts that are no packets: their codes beside the gateway as it is.
func TestTextsThatAreNone(t *testing.T) {
	good, six := fourText(impl.Udp, hostA, 1002, peerA, 53), intoText(impl.Udp, hostSix, 40000, peerB, 53)
	wrong := map[string]int64{
		"": impl.ErrSyntax, "\x45": impl.ErrShort, "\x40": impl.ErrShort, "\x60": impl.ErrShort, "\x6f": impl.ErrShort,
		good[:19]: impl.ErrShort, good[:len(good)-1]: impl.ErrShort, six[:39]: impl.ErrShort, six[:len(six)-1]: impl.ErrShort,
		"\x44" + good[1:]: impl.ErrSyntax, turnedAt(good, 8, 1): impl.ErrSum, turnedAt(good, 1, 1): impl.ErrSum,
		withCheck(good[:6]+"\xc0"+good[7:24], 10) + good[24:]: impl.ErrSyntax,
		layFour(fourPacket())[:20] + filler(23):               impl.ErrShort,
		six[:6] + "\x2c" + six[7:40] + "\x2c" + six[41:]:      impl.ErrForm,
		six[:4] + "\x00\x07\x2c" + six[7:]:                    impl.ErrShort,
		filler(impl.MaxBytes + 1):                             impl.ErrSize, good + filler(impl.MaxBytes+1-len(good)): impl.ErrSize,
		six + filler(impl.MaxBytes+1-len(six)): impl.ErrSize, strings.Repeat("\x45", impl.MaxBytes+1): impl.ErrSize,
	}
	for first := range 256 {
		if kind := first / 16; kind != 4 && kind != 6 {
			for _, rest := range []string{"", good[1:], six[1:], filler(39), filler(impl.MaxBytes - 1)} {
				wrong[string([]byte{byte(first)})+rest] = impl.ErrSyntax
			}
		}
	}
	for text, code := range wrong {
		for _, inside := range bothSides {
			got := takes(t, fmt.Sprintf("%.30q of %d bytes", text, len(text)), homeGate(), inside, text, code)
			wantGate(t, "as it was", got.Gateway, homeGate())
		}
	}
	for _, more := range []int{0, 1, 40, impl.MaxBytes - len(good)} {
		takes(t, fmt.Sprintf("%d bytes behind", more), homeGate(), true, good+filler(more), impl.OK, 600)
	}
	takes(t, "bytes behind", homeGate(), true, six+filler(impl.MaxBytes-len(six)), impl.OK, 601)
	long := carrying(flowFrom(impl.Udp, hostA, 1002, peerA, 53), filler(1401))
	takes(t, "more than MaxData", homeGate(), true, layFour(long), impl.ErrForm)
}

// A gateway that is not right takes nothing in, and nothing of it is told.
func TestWrongGatesTakeNothing(t *testing.T) {
	for what, change := range wrongGates() {
		for _, inside := range bothSides {
			for _, text := range append(someTexts(), fourText(impl.Udp, hostB, 1002, lentOne, 1002), sixText(impl.Udp, newSix, 5, otherSix, 6)) {
				wantGwOut(t, what, impl.GwIn(gateWith(homeGate(), change), inside, text), impl.GwOut{Code: impl.ErrForm})
			}
			wantGwOut(t, what+", a long text", impl.GwIn(gateWith(homeGate(), change), inside, filler(impl.MaxBytes+1)), impl.GwOut{Code: impl.ErrSize})
		}
	}
}
