package tests

import (
	"fmt"
	"math"
	"net/netip"
	"slices"
	"strings"
	"testing"

	"loop.example/g00314/impl"
)

// wrongHops are numbers that no Hop of a route is.
var wrongHops = []int64{0, -1, -1000, 1001, 1 << 16, 1<<32 + 1, math.MinInt64, math.MaxInt64}

func route(prefix string, hop int64) impl.Route {
	return impl.Route{Prefix: prefixOf(prefix), Hop: hop}
}

// numbered are routes of these prefixes, whose Hops are their places from 1 on.
func numbered(prefixes ...string) []impl.Route {
	var l []impl.Route
	for i, prefix := range prefixes {
		l = append(l, route(prefix, int64(i)+1))
	}
	return l
}

// cutTo is the prefix of an address's first bits, as the library cuts it.
func cutTo(a string, bits int) impl.Prefix {
	addr, _ := netip.AddrFromSlice([]byte(a))
	p, _ := addr.Prefix(bits)
	return impl.Prefix{Addr: string(p.Addr().AsSlice()), Bits: int64(bits)}
}

// madeRoutes are right routes, always the same ones: many lie in one another, for
// there are few addresses that they are cut from.
func madeRoutes(seed uint32, count int, spread int) []impl.Route {
	from := append(madeAddresses(4, spread), madeAddresses(16, spread)...)
	var l []impl.Route
	known := map[impl.Prefix]int{}
	for tries := 0; len(l) < count && tries < 50*count; tries++ {
		seed = seed*1664525 + 1013904223
		a := from[int(seed>>8)%len(from)]
		seed = seed*1664525 + 1013904223
		p := cutTo(a, int(seed>>8)%(8*len(a)+1))
		known[p]++
		if known[p] == 1 {
			l = append(l, impl.Route{Prefix: p, Hop: int64(seed>>4)%5 + 1 + 199*int64(seed>>2&3)})
		}
	}
	return l
}

// routeLists are the lists of routes that tables are laid of.
func routeLists() [][]impl.Route {
	lists := [][]impl.Route{
		nil,
		{},
		numbered("0.0.0.0/0"),
		numbered("::/0"),
		numbered("0.0.0.0/0", "::/0"),
		numbered("0.0.0.0/32", "::/128"),
		numbered("255.255.255.255/32", "ffff:ffff:ffff:ffff:ffff:ffff:ffff:ffff/128"),
		numbered("10.0.0.0/8", "10.0.0.0/16", "10.0.0.0/24", "10.0.0.0/32"),
		numbered("10.0.0.0/32", "10.0.0.0/24", "10.0.0.0/16", "10.0.0.0/8", "0.0.0.0/0"),
		numbered("32.1.13.184/32", "2001:db8::/32", "32.1.0.0/16", "2001::/16"),
	}
	var every []string
	for bits := range 33 {
		four, _ := netip.MustParseAddr("172.27.181.91").Prefix(bits)
		six, _ := netip.MustParseAddr("2001:db8:a5:1ff::1").Prefix(4*bits - bits%4)
		every = append(every, four.String(), six.String())
	}
	back := slices.Clone(every)
	slices.Reverse(back)
	lists = append(lists, numbered(every...), numbered(back...))
	for seed := range uint32(24) {
		lists = append(lists, madeRoutes(seed, int(seed), 3), madeRoutes(seed+100, 3*int(seed)+21, 12))
	}
	return append(lists, madeRoutes(7, impl.MaxRoutes, 200))
}

// signRoute is a route of one kind of address, its bits written as signs 0 and 1.
type signRoute struct {
	begin string
	hop   int64
}

func signs(a string) string {
	var text strings.Builder
	for i := range 8 * len(a) {
		text.WriteByte('0' + a[i/8]<<(i%8)>>7)
	}
	return text.String()
}

// signRoutes are the routes of addresses of so many bytes.
func signRoutes(l []impl.Route, size int) []signRoute {
	var found []signRoute
	for _, r := range l {
		if len(r.Prefix.Addr) == size {
			found = append(found, signRoute{signs(r.Prefix.Addr)[:r.Prefix.Bits], r.Hop})
		}
	}
	return found
}

// longest is the hop of the longest route that begins the row of signs.
func longest(l []signRoute, row string) int64 {
	var hop int64
	long := -1
	for _, r := range l {
		if strings.HasPrefix(row, r.begin) && len(r.begin) > long {
			hop, long = r.hop, len(r.begin)
		}
	}
	return hop
}

// edges are the first and the last address of each prefix of a kind, and those beside them.
func edges(l []impl.Route, size int) []string {
	found := madeAddresses(size, 10)
	for _, r := range l {
		if len(r.Prefix.Addr) != size {
			continue
		}
		last := r.Prefix.Addr
		for at := r.Prefix.Bits; at < int64(8*size); at++ {
			last = withBitFlipped(last, at)
		}
		for _, a := range []string{r.Prefix.Addr, last} {
			addr, _ := netip.AddrFromSlice([]byte(a))
			found = append(found, a)
			for _, beside := range []netip.Addr{addr.Prev(), addr.Next()} {
				if beside.IsValid() {
					found = append(found, string(beside.AsSlice()))
				}
			}
		}
	}
	return found
}

// laidOut reckons a table by the document's words alone: rows are signs of bits, each place asks all routes.
func laidOut(l []impl.Route, size int) impl.Pop {
	var p impl.Pop
	routes := signRoutes(l, size)
	rows := []string{""}
	for at := 0; at < len(rows); at++ {
		var n impl.PopNode
		ahead := int64(-1)
		for place := range 16 {
			row := rows[at] + fmt.Sprintf("%04b", place)
			goesOn := func(r signRoute) bool { return len(r.begin) > len(row) && strings.HasPrefix(r.begin, row) }
			if slices.ContainsFunc(routes, goesOn) {
				if n.Kids == 0 {
					n.Base = int64(len(rows))
				}
				n.Kids += 1 << place
				rows = append(rows, row)
			} else if value := longest(routes, row); value != ahead {
				if n.Leaf == 0 {
					n.Leafs = int64(len(p.Leaves))
				}
				n.Leaf += 1 << place
				p.Leaves = append(p.Leaves, value)
				ahead = value
			}
		}
		p.Nodes = append(p.Nodes, n)
	}
	return p
}

func wantTable(t *testing.T, what string, got impl.Pop, want impl.Pop) {
	t.Helper()
	if !slices.Equal(got.Nodes, want.Nodes) || !slices.Equal(got.Leaves, want.Leaves) {
		t.Errorf("%s: got %v, want %v", what, got, want)
	}
}

// chain is a table in which each node has one kid at a place, but for the last one.
func chain(nodes int, place int) impl.Pop {
	var p impl.Pop
	for at := range nodes - 1 {
		leaf := int64(1)
		if place == 0 {
			leaf = 2
		}
		p.Nodes = append(p.Nodes, impl.PopNode{Kids: 1 << place, Leaf: leaf, Base: int64(at) + 1, Leafs: int64(at)})
		p.Leaves = append(p.Leaves, int64(at)%1000+1)
	}
	p.Nodes = append(p.Nodes, impl.PopNode{Leaf: 1, Leafs: int64(nodes) - 1})
	p.Leaves = append(p.Leaves, 999)
	return p
}

func TestMaxRoutes(t *testing.T) {
	wantNumber(t, "MaxRoutes", impl.MaxRoutes, 100)
}

func TestRoutesRight(t *testing.T) {
	for i, l := range routeLists() {
		wantAnswer(t, fmt.Sprintf("the list %d", i), impl.RoutesRight(l), true)
	}
	for _, c := range []struct {
		what string
		l    []impl.Route
		want bool
	}{
		{"one address, other bits", numbered("10.0.0.0/8", "10.0.0.0/9"), true},
		{"other addresses, like bits", numbered("10.0.0.0/8", "11.0.0.0/8"), true},
		{"no bits of both kinds", numbered("::/0", "0.0.0.0/0"), true},
		{"like Hops", []impl.Route{route("10.0.0.0/8", 4), route("11.0.0.0/8", 4)}, true},
		{"a Hop of 1", []impl.Route{route("10.0.0.0/8", 1)}, true},
		{"a Hop of 1000", []impl.Route{route("10.0.0.0/8", 1000)}, true},
		{"one Prefix twice", []impl.Route{route("10.0.0.0/8", 1), route("10.0.0.0/8", 2)}, false},
		{"one Route twice", []impl.Route{route("10.0.0.0/8", 1), route("10.0.0.0/8", 1)}, false},
		{"no bits twice", []impl.Route{route("::/0", 1), route("::/0", 2)}, false},
		{"one Prefix twice, one between", numbered("2001:db8::/32", "10.0.0.0/8", "2001:db8::/32"), false},
		{"the last two of one Prefix", numbered("0.0.0.0/0", "10.0.0.0/8", "10.0.0.0/8"), false},
		{"a route of nothing", []impl.Route{{}}, false},
		{"a bit too much", []impl.Route{{Prefix: impl.Prefix{Addr: "\x0a\x00\x00\x01", Bits: 31}, Hop: 1}}, false},
		{"too many bits", []impl.Route{{Prefix: impl.Prefix{Addr: "\x0a\x00\x00\x01", Bits: 33}, Hop: 1}}, false},
		{"bits below 0", []impl.Route{{Prefix: impl.Prefix{Addr: "\x00\x00\x00\x00", Bits: -1}, Hop: 1}}, false},
		{"five bytes", []impl.Route{{Prefix: impl.Prefix{Addr: "\x00\x00\x00\x00\x00", Bits: 1}, Hop: 1}}, false},
		{"a wrong one at the end", append(numbered("10.0.0.0/8", "::/0"), impl.Route{}), false},
		{"a wrong one in front", append([]impl.Route{{}}, numbered("10.0.0.0/8", "::/0")...), false},
	} {
		wantAnswer(t, c.what, impl.RoutesRight(c.l), c.want)
	}
	for _, hop := range wrongHops {
		l := append(numbered("0.0.0.0/0"), route("10.0.0.0/8", hop))
		wantAnswer(t, fmt.Sprintf("a Hop of %d", hop), impl.RoutesRight(l), false)
	}
}

// manyRoutes are routes of so many prefixes of 24 bits, all of them other ones.
func manyRoutes(count int) []impl.Route {
	var l []impl.Route
	for i := range count {
		p := impl.Prefix{Addr: "\x0a" + impl.WordBytes(int64(i)) + "\x00", Bits: 24}
		l = append(l, impl.Route{Prefix: p, Hop: int64(i)%1000 + 1})
	}
	return l
}

func TestManyRoutes(t *testing.T) {
	for _, count := range []int{impl.MaxRoutes - 1, impl.MaxRoutes} {
		l := manyRoutes(count)
		last := l[count-1]
		wantAnswer(t, fmt.Sprintf("%d routes", count), impl.RoutesRight(l), true)
		wantNumber(t, "the last route", impl.RoutesFind(l, last.Prefix.Addr), last.Hop)
		wantNumber(t, "the last route, by the table", impl.PopFind(impl.PopBuild(l, false), last.Prefix.Addr), last.Hop)
	}
	for _, count := range []int{impl.MaxRoutes + 1, impl.MaxList, impl.MaxList + 1, 1000} {
		l := manyRoutes(count)
		what := fmt.Sprintf("%d routes", count)
		wantAnswer(t, what, impl.RoutesRight(l), false)
		wantNumber(t, what, impl.RoutesFind(l, l[0].Prefix.Addr), 0)
		wantTable(t, what, impl.PopBuild(l, false), impl.Pop{})
		wantTable(t, what, impl.PopBuild(l, true), impl.Pop{})
	}
}

// Promise 5: the hop of an address is that of the longest prefix that has it.
func TestRoutesFind(t *testing.T) {
	nested := []string{"0.0.0.0/0", "10.0.0.0/8", "10.32.0.0/11", "10.32.0.0/13", "10.33.7.0/24", "10.33.7.9/32",
		"::/0", "2001:db8::/32", "2001:db8:8000::/33", "2001:db8:8000::1/128"}
	for _, c := range []struct {
		a    string
		want string
	}{
		{"9.255.255.255", "0.0.0.0/0"},
		{"10.0.0.0", "10.0.0.0/8"},
		{"10.31.255.255", "10.0.0.0/8"},
		{"10.32.0.0", "10.32.0.0/13"},
		{"10.39.255.255", "10.32.0.0/13"},
		{"10.40.0.0", "10.32.0.0/11"},
		{"10.63.255.255", "10.32.0.0/11"},
		{"10.64.0.0", "10.0.0.0/8"},
		{"10.33.7.8", "10.33.7.0/24"},
		{"10.33.7.9", "10.33.7.9/32"},
		{"10.33.7.10", "10.33.7.0/24"},
		{"11.0.0.0", "0.0.0.0/0"},
		{"::", "::/0"},
		{"2001:db7:ffff::", "::/0"},
		{"2001:db8:7fff::1", "2001:db8::/32"},
		{"2001:db8:8000::", "2001:db8:8000::/33"},
		{"2001:db8:8000::1", "2001:db8:8000::1/128"},
		{"2001:db8:8000::2", "2001:db8:8000::/33"},
		{"2001:db9::", "::/0"},
	} {
		l := numbered(nested...)
		back := slices.Clone(l)
		slices.Reverse(back)
		hop := int64(slices.Index(nested, c.want)) + 1
		wantNumber(t, c.a, impl.RoutesFind(l, addressOf(c.a)), hop)
		wantNumber(t, c.a+", of routes back to front", impl.RoutesFind(back, addressOf(c.a)), hop)
		for _, order := range [][]impl.Route{l, back} {
			table := impl.PopBuild(order, len(addressOf(c.a)) == 16)
			wantNumber(t, c.a+", by the table", impl.PopFind(table, addressOf(c.a)), hop)
		}
	}
	for i, l := range routeLists() {
		for _, size := range []int{4, 16} {
			routes := signRoutes(l, size)
			for _, a := range edges(l, size) {
				wantNumber(t, fmt.Sprintf("list %d, address %q", i, a), impl.RoutesFind(l, a), longest(routes, signs(a)))
			}
		}
	}
}

func TestRoutesFindNothing(t *testing.T) {
	l := numbered("10.0.0.0/8", "::1/128")
	for _, a := range []string{"9.255.255.255", "11.0.0.0", "::", "::2", "0.0.0.0", "a00::"} {
		wantNumber(t, a, impl.RoutesFind(l, addressOf(a)), 0)
	}
	wantNumber(t, "a six of fours", impl.RoutesFind(numbered("0.0.0.0/0"), addressOf("::")), 0)
	wantNumber(t, "a four of sixes", impl.RoutesFind(numbered("::/0"), addressOf("0.0.0.0")), 0)
	wantNumber(t, "a four of no routes", impl.RoutesFind(nil, addressOf("10.0.0.0")), 0)
	both := numbered("0.0.0.0/0", "::/0")
	for _, a := range noAddresses() {
		what := fmt.Sprintf("%d bytes", len(a))
		wantNumber(t, what, impl.RoutesFind(both, a), 0)
		wantNumber(t, what+", by the table", impl.PopFind(impl.PopBuild(both, false), a), 0)
		wantNumber(t, what+", by the table of sixes", impl.PopFind(impl.PopBuild(both, true), a), 0)
	}
}

// Of routes that are not right nothing is found, though others of them have the address.
func TestRoutesThatAreNotRight(t *testing.T) {
	wrong := []impl.Route{{}, route("10.0.0.0/8", 3), {Prefix: impl.Prefix{Addr: "\x0b\x00\x00\x01", Bits: 8}, Hop: 1}}
	for _, hop := range wrongHops {
		wrong = append(wrong, route("11.0.0.0/8", hop), route("2001::/16", hop))
	}
	for _, a := range noAddresses() {
		wrong = append(wrong, impl.Route{Prefix: impl.Prefix{Addr: a}, Hop: 1})
	}
	for _, r := range wrong {
		for _, l := range [][]impl.Route{
			append(numbered("10.0.0.0/8", "::/0"), r),
			append([]impl.Route{r}, numbered("10.0.0.0/8", "::/0")...),
		} {
			what := fmt.Sprintf("with a Prefix of %d bytes and a Hop of %d", len(r.Prefix.Addr), r.Hop)
			wantAnswer(t, what, impl.RoutesRight(l), false)
			wantNumber(t, what, impl.RoutesFind(l, addressOf("10.0.0.0")), 0)
			wantNumber(t, what, impl.RoutesFind(l, addressOf("::")), 0)
			wantTable(t, what, impl.PopBuild(l, false), impl.Pop{})
			wantTable(t, what, impl.PopBuild(l, true), impl.Pop{})
		}
	}
}

func TestPopBuildOfFours(t *testing.T) {
	for _, c := range []struct {
		what string
		l    []impl.Route
		want impl.Pop
	}{
		{"no routes", nil, impl.Pop{Nodes: []impl.PopNode{{Leaf: 1}}, Leaves: []int64{0}}},
		{"none of this kind", numbered("::/0", "a00::/8"), impl.Pop{Nodes: []impl.PopNode{{Leaf: 1}}, Leaves: []int64{0}}},
		{"no bits", []impl.Route{route("0.0.0.0/0", 1000)}, impl.Pop{Nodes: []impl.PopNode{{Leaf: 1}}, Leaves: []int64{1000}}},
		{"one bit", numbered("128.0.0.0/1"), impl.Pop{Nodes: []impl.PopNode{{Leaf: 257}}, Leaves: []int64{0, 1}}},
		{"four bits", numbered("80.0.0.0/4"), impl.Pop{Nodes: []impl.PopNode{{Leaf: 1 | 1<<5 | 1<<6}}, Leaves: []int64{0, 1, 0}}},
		{"five bits", numbered("80.0.0.0/5"), impl.Pop{
			Nodes:  []impl.PopNode{{Kids: 1 << 5, Leaf: 1, Base: 1}, {Leaf: 257, Leafs: 1}},
			Leaves: []int64{0, 1, 0}}},
		{"like Hops beside each other", []impl.Route{route("64.0.0.0/4", 5), route("80.0.0.0/4", 5)}, impl.Pop{
			Nodes:  []impl.PopNode{{Leaf: 1 | 1<<4 | 1<<6}},
			Leaves: []int64{0, 5, 0}}},
		{"like Hops on both sides of a kid", []impl.Route{route("64.0.0.0/4", 5), route("88.0.0.0/5", 7), route("96.0.0.0/4", 5)}, impl.Pop{
			Nodes:  []impl.PopNode{{Kids: 1 << 5, Leaf: 1 | 1<<4 | 1<<7, Base: 1}, {Leaf: 257, Leafs: 3}},
			Leaves: []int64{0, 5, 0, 0, 7}}},
		{"a place has a kid and a value", numbered("80.0.0.0/4", "80.0.0.0/6", "0.0.0.0/0"), impl.Pop{
			Nodes:  []impl.PopNode{{Kids: 1 << 5, Leaf: 1, Base: 1}, {Leaf: 1 | 1<<4, Leafs: 1}},
			Leaves: []int64{3, 2, 1}}},
		{"a longer one within a place's bits", numbered("64.0.0.0/2", "64.0.0.0/3", "64.0.0.0/4"), impl.Pop{
			Nodes:  []impl.PopNode{{Leaf: 1 | 1<<4 | 1<<5 | 1<<6 | 1<<8}},
			Leaves: []int64{0, 3, 2, 1, 0}}},
		{"two kids, and kids of theirs", numbered("16.0.0.0/9", "32.16.0.0/12"), impl.Pop{
			Nodes: []impl.PopNode{
				{Kids: 6, Leaf: 1, Base: 1},
				{Kids: 1, Leaf: 2, Base: 3, Leafs: 1},
				{Kids: 1, Leaf: 2, Base: 4, Leafs: 2},
				{Leaf: 257, Leafs: 3},
				{Leaf: 7, Leafs: 5},
			},
			Leaves: []int64{0, 0, 0, 1, 0, 0, 2, 0}}},
	} {
		wantTable(t, c.what, impl.PopBuild(c.l, false), c.want)
		back := slices.Clone(c.l)
		slices.Reverse(back)
		wantTable(t, c.what+", back to front", impl.PopBuild(back, false), c.want)
	}
}

func TestPopBuildOfSixes(t *testing.T) {
	none := impl.Pop{Nodes: []impl.PopNode{{Leaf: 1}}, Leaves: []int64{0}}
	wantTable(t, "no routes", impl.PopBuild(nil, true), none)
	wantTable(t, "none of this kind", impl.PopBuild(numbered("0.0.0.0/0", "32.0.0.0/8"), true), none)
	wantTable(t, "three bits", impl.PopBuild(numbered("2000::/3"), true), impl.Pop{
		Nodes: []impl.PopNode{{Leaf: 21}}, Leaves: []int64{0, 1, 0}})
	wantTable(t, "both kinds", impl.PopBuild(numbered("2000::/5", "32.0.0.0/3", "::/0", "0.0.0.0/0"), true), impl.Pop{
		Nodes: []impl.PopNode{{Kids: 4, Leaf: 1, Base: 1}, {Leaf: 257, Leafs: 1}}, Leaves: []int64{3, 1, 3}})
}

// All bits of an address: a node for each four of them.
func TestPopBuildOfWholeAddresses(t *testing.T) {
	for _, size := range []int{4, 16} {
		six := size == 16
		zeros := []impl.Route{{Prefix: impl.Prefix{Addr: strings.Repeat("\x00", size), Bits: int64(8 * size)}, Hop: 1}}
		ones := []impl.Route{{Prefix: impl.Prefix{Addr: strings.Repeat("\xff", size), Bits: int64(8 * size)}, Hop: 1000}}
		var low, high impl.Pop
		for at := range int64(2*size - 1) {
			low.Nodes = append(low.Nodes, impl.PopNode{Kids: 1, Leaf: 2, Base: at + 1, Leafs: at})
			high.Nodes = append(high.Nodes, impl.PopNode{Kids: 32768, Leaf: 1, Base: at + 1, Leafs: at})
			low.Leaves = append(low.Leaves, 0)
			high.Leaves = append(high.Leaves, 0)
		}
		low.Nodes = append(low.Nodes, impl.PopNode{Leaf: 3, Leafs: int64(2*size - 1)})
		high.Nodes = append(high.Nodes, impl.PopNode{Leaf: 32769, Leafs: int64(2*size - 1)})
		low.Leaves = append(low.Leaves, 1, 0)
		high.Leaves = append(high.Leaves, 0, 1000)
		wantTable(t, "zeros", impl.PopBuild(zeros, six), low)
		wantTable(t, "ones", impl.PopBuild(ones, six), high)
	}
}

// A node whose places all have kids has no leaf of its own.
func TestPopBuildWithoutLeaves(t *testing.T) {
	var l []impl.Route
	want := impl.Pop{Nodes: []impl.PopNode{{Kids: 65535, Base: 1}}}
	for place := range 16 {
		// Laid from the last place on: the kids stand by their places all the same.
		l = append(l, impl.Route{Prefix: impl.Prefix{Addr: string([]byte{byte(16 * (15 - place)), 0, 0, 0}), Bits: 5}, Hop: int64(16 - place)})
		want.Nodes = append(want.Nodes, impl.PopNode{Leaf: 257, Leafs: int64(2 * place)})
		want.Leaves = append(want.Leaves, int64(place+1), 0)
	}
	wantTable(t, "sixteen kids", impl.PopBuild(l, false), want)
	wantAnswer(t, "sixteen kids", impl.PopRight(impl.PopBuild(l, false)), true)
}

func TestPopBuildAsTheDocumentLays(t *testing.T) {
	for i, l := range routeLists() {
		for _, size := range []int{4, 16} {
			what := fmt.Sprintf("list %d, %d bytes", i, size)
			wantTable(t, what, impl.PopBuild(l, size == 16), laidOut(l, size))
		}
	}
}

// Promise 4: the table by sixteens of right routes finds what the routes tell.
func TestTablesFindWhatRoutesTell(t *testing.T) {
	for i, l := range routeLists() {
		for _, size := range []int{4, 16} {
			table := impl.PopBuild(l, size == 16)
			wantAnswer(t, fmt.Sprintf("list %d, %d bytes: right", i, size), impl.PopRight(table), true)
			for _, a := range edges(l, size) {
				wantNumber(t, fmt.Sprintf("list %d, address %q", i, a), impl.PopFind(table, a), impl.RoutesFind(l, a))
			}
		}
	}
}

// The most nodes that routes can make.
func TestLargestTables(t *testing.T) {
	for _, size := range []int{4, 16} {
		var l []impl.Route
		for i := range impl.MaxRoutes {
			a := string([]byte{byte(i * 37)}) + strings.Repeat("\x5a", size-2) + string([]byte{byte(i)})
			l = append(l, impl.Route{Prefix: impl.Prefix{Addr: a, Bits: int64(8 * size)}, Hop: int64(i) + 1})
		}
		table := impl.PopBuild(l, size == 16)
		wantTable(t, fmt.Sprintf("%d bytes", size), table, laidOut(l, size))
		wantAnswer(t, "right", impl.PopRight(table), true)
		// One node first, at most sixteen behind it, and from then on one a route.
		wantNumber(t, "nodes", int64(len(table.Nodes)), int64(1+16+impl.MaxRoutes*(2*size-2)))
		for _, r := range l {
			wantNumber(t, told(r.Prefix), impl.PopFind(table, r.Prefix.Addr), r.Hop)
			wantNumber(t, told(r.Prefix), impl.PopFind(table, withBitFlipped(r.Prefix.Addr, int64(8*size-9))), 0)
		}
	}
}

func TestPopRight(t *testing.T) {
	spare := chain(3, 5)
	spare.Leaves = append(spare.Leaves, 0, 1000)
	single := impl.Pop{Nodes: []impl.PopNode{{Kids: 65535, Base: 1}}}
	for range 16 {
		single.Nodes = append(single.Nodes, impl.PopNode{Leaf: 1})
	}
	single.Leaves = []int64{0}
	for _, c := range []struct {
		what string
		p    impl.Pop
	}{
		{"one node", impl.Pop{Nodes: []impl.PopNode{{Leaf: 1}}, Leaves: []int64{0}}},
		{"a leaf a place", impl.Pop{Nodes: []impl.PopNode{{Leaf: 65535}}, Leaves: make([]int64, 16)}},
		{"Hops of 0 and 1000", impl.Pop{Nodes: []impl.PopNode{{Leaf: 3}}, Leaves: []int64{0, 1000}}},
		{"Leaves that no node has", spare},
		{"nodes that are nobody's kids", impl.Pop{Nodes: []impl.PopNode{{Leaf: 1}, {Leaf: 1}}, Leaves: []int64{4}}},
		{"nodes with the same Leaves", single},
		{"two nodes with the same kid", impl.Pop{Nodes: []impl.PopNode{{Kids: 1, Leaf: 2, Base: 2}, {Kids: 1, Leaf: 2, Base: 2}, {Leaf: 1}}, Leaves: []int64{4}}},
		{"a kid in the first place", chain(2, 0)},
		{"a kid in the last place", chain(2, 15)},
		{"3299 nodes", chain(3299, 1)},
		{"3300 nodes", chain(3300, 1)},
	} {
		wantAnswer(t, c.what, impl.PopRight(c.p), true)
	}
	wantAnswer(t, "the zero table", impl.PopRight(impl.Pop{}), false)
	wantAnswer(t, "Leaves without nodes", impl.PopRight(impl.Pop{Leaves: []int64{1}}), false)
	wantAnswer(t, "3301 nodes", impl.PopRight(chain(3301, 1)), false)
	wantAnswer(t, "many nodes", impl.PopRight(chain(10000, 1)), false)
	wantAnswer(t, "a node of nothing", impl.PopRight(impl.Pop{Nodes: []impl.PopNode{{}}}), false)
	wantAnswer(t, "a node of nothing, and Leaves", impl.PopRight(impl.Pop{Nodes: []impl.PopNode{{}}, Leaves: []int64{1}}), false)
	wantAnswer(t, "no Leaves", impl.PopRight(impl.Pop{Nodes: []impl.PopNode{{Leaf: 1}}}), false)
}

// soundTable is the one that brokenTables breaks: its addresses from 80.0.0.0 on go through its second node.
func soundTable() impl.Pop {
	return impl.Pop{
		Nodes: []impl.PopNode{
			{Kids: 1 << 5, Leaf: 1, Base: 1},
			{Kids: 1<<2 | 1<<3, Leaf: 1 | 1<<9, Base: 2, Leafs: 1},
			{Leaf: 257, Leafs: 3},
			{Leaf: 65535 &^ 2, Leafs: 3},
		},
		Leaves: []int64{9, 8, 7, 6, 5, 4, 3, 2, 1, 10, 11, 12, 13, 14, 15, 16, 17, 18},
	}
}

// brokenTables are tables that are not right, each by one number that is another.
func brokenTables() map[string]impl.Pop {
	broken := map[string]impl.Pop{}
	set := func(what string, at int, number int64, field func(n *impl.PopNode) *int64) {
		p := soundTable()
		*field(&p.Nodes[at]) = number
		broken[fmt.Sprintf("%s of the node %d is %d", what, at, number)] = p
	}
	kids := func(n *impl.PopNode) *int64 { return &n.Kids }
	leaf := func(n *impl.PopNode) *int64 { return &n.Leaf }
	base := func(n *impl.PopNode) *int64 { return &n.Base }
	leafs := func(n *impl.PopNode) *int64 { return &n.Leafs }
	for _, far := range append([]int64{-32, 65536 + 32}, noWords...) {
		for at := range 4 {
			set("Kids", at, far, kids)
			set("Leaf", at, far, leaf)
			set("Base", at, far, base)
			set("Leafs", at, far, leafs)
		}
	}
	set("Kids", 0, 1<<5|1, kids)    // A place in both.
	set("Kids", 1, 1<<2|1<<9, kids) // A place in both, not the first.
	set("Kids", 0, 15<<5, kids)     // More kids than nodes.
	set("Kids", 0, 0, kids)         // A Base without kids.
	set("Kids", 3, 2, kids)         // A kid without a Base.
	set("Base", 0, 0, base)         // Its own kid.
	set("Base", 0, 4, base)         // Behind the nodes.
	set("Base", 1, 1, base)         // Its own kid.
	set("Base", 1, 0, base)         // A kid ahead.
	set("Base", 1, 3, base)         // The last kid behind the nodes.
	set("Base", 2, 3, base)         // A Base without kids.
	set("Base", 3, 4, base)         // A Base without kids.
	set("Leaf", 0, 0, leaf)         // No leaf.
	set("Leaf", 0, 2, leaf)         // A leaf, but not for the first place.
	set("Leaf", 1, 1<<1|1<<9, leaf) // A leaf, but not for the first place.
	set("Leaf", 2, 65534, leaf)     // A leaf, but not for the first place.
	set("Leaf", 3, 65535, leaf)     // One leaf more than there are.
	set("Leafs", 0, 18, leafs)      // Behind the Leaves.
	set("Leafs", 2, 17, leafs)      // The last leaf behind the Leaves.
	set("Leafs", 3, 4, leafs)       // The last leaf behind the Leaves.
	set("Leafs", 3, math.MaxInt64-3, leafs)
	set("Base", 1, math.MaxInt64-1, base)
	return broken
}

func TestPopRightOfBrokenTables(t *testing.T) {
	wantAnswer(t, "the sound table", impl.PopRight(soundTable()), true)
	four := addressOf("0.0.0.0")
	wantNumber(t, "the sound table", impl.PopFind(soundTable(), four), 9)
	for what, p := range brokenTables() {
		wantAnswer(t, what, impl.PopRight(p), false)
		for _, a := range []string{"0.0.0.0", "82.0.0.0", "83.255.0.0", "80.0.0.0", "::", "5200::", "53f0::"} {
			wantNumber(t, what, impl.PopFind(p, addressOf(a)), 0)
		}
	}
	for _, hop := range []int64{-1, -1000, 1001, 1 << 32, math.MinInt64, math.MaxInt64} {
		for at := range soundTable().Leaves {
			p := soundTable()
			p.Leaves[at] = hop
			wantAnswer(t, fmt.Sprintf("a leaf of %d", hop), impl.PopRight(p), false)
			wantNumber(t, fmt.Sprintf("a leaf of %d", hop), impl.PopFind(p, four), 0)
		}
		p := soundTable()
		p.Leaves = append(p.Leaves, hop)
		wantAnswer(t, fmt.Sprintf("a leaf of %d that no node has", hop), impl.PopRight(p), false)
	}
	full := impl.Pop{Nodes: []impl.PopNode{{Kids: 65535, Base: 1, Leafs: 1}}, Leaves: []int64{1, 2}}
	for range 16 {
		full.Nodes = append(full.Nodes, impl.PopNode{Leaf: 1})
	}
	wantAnswer(t, "Leafs without a leaf", impl.PopRight(full), false)
	wantNumber(t, "Leafs without a leaf", impl.PopFind(full, four), 0)
}

func TestPopFindByHand(t *testing.T) {
	for _, c := range []struct {
		a    string
		want int64
	}{
		{"0.0.0.0", 9}, {"79.255.255.255", 9}, {"96.0.0.0", 9}, {"255.0.0.0", 9},
		{"80.0.0.0", 8}, {"81.0.0.0", 8}, {"84.0.0.0", 8}, {"88.0.0.0", 8}, {"89.0.0.0", 7}, {"95.255.255.255", 7},
		{"82.0.0.0", 6}, {"82.127.255.255", 6}, {"82.128.0.0", 5}, {"82.255.255.255", 5},
		{"83.0.0.0", 6}, {"83.16.0.0", 6}, {"83.32.0.0", 5}, {"83.48.0.0", 4}, {"83.224.0.0", 17}, {"83.240.0.0", 18},
		{"::", 9}, {"4fff::", 9}, {"5000::", 8}, {"5900::", 7}, {"527f::", 6}, {"5280::", 5}, {"53e0::", 17}, {"53f0::", 18},
	} {
		wantNumber(t, c.a, impl.PopFind(soundTable(), addressOf(c.a)), c.want)
	}
}

// Bits that come to an end where a kid is asked for are told as 0.
func TestPopFindAtTheEndOfTheBits(t *testing.T) {
	for _, place := range []int{0, 1, 9, 15} {
		four := strings.Repeat(string([]byte{byte(17 * place)}), 4)
		six := strings.Repeat(string([]byte{byte(17 * place)}), 16)
		for _, c := range []struct {
			nodes int
			four  int64
			six   int64
		}{{1, 999, 999}, {2, 999, 999}, {7, 999, 999}, {8, 999, 999}, {9, 0, 999}, {10, 0, 999}, {31, 0, 999}, {32, 0, 999}, {33, 0, 0}, {34, 0, 0}, {3300, 0, 0}} {
			p := chain(c.nodes, place)
			wantAnswer(t, fmt.Sprintf("%d nodes", c.nodes), impl.PopRight(p), true)
			wantNumber(t, fmt.Sprintf("four bytes, %d nodes", c.nodes), impl.PopFind(p, four), c.four)
			wantNumber(t, fmt.Sprintf("sixteen bytes, %d nodes", c.nodes), impl.PopFind(p, six), c.six)
		}
	}
	sixes := impl.PopBuild(numbered("2001:db8::/32", "2001:db8:8000::/33", "::/0"), true)
	wantNumber(t, "a four in a table of sixes, to a leaf", impl.PopFind(sixes, addressOf("32.1.13.185")), 3)
	wantNumber(t, "a four in a table of sixes, to its end", impl.PopFind(sixes, addressOf("32.1.13.184")), 0)
	fours := impl.PopBuild(numbered("32.1.13.184/32", "0.0.0.0/0"), false)
	wantNumber(t, "a six in a table of fours", impl.PopFind(fours, addressOf("2001:db8:ffff::")), 1)
	wantNumber(t, "a six in a table of fours, elsewhere", impl.PopFind(fours, addressOf("2001:db9::")), 2)
}

func TestTablesAreNewMemory(t *testing.T) {
	l := madeRoutes(3, 60, 8)
	kept := slices.Clone(l)
	first := impl.PopBuild(l, true)
	second := impl.PopBuild(l, true)
	if !slices.Equal(l, kept) {
		t.Error("the routes were changed")
	}
	for i := range first.Nodes {
		first.Nodes[i] = impl.PopNode{}
	}
	for i := range first.Leaves {
		first.Leaves[i] = -1
	}
	wantTable(t, "the other table", second, laidOut(l, 16))
	wantTable(t, "a table made later", impl.PopBuild(l, true), second)
	for _, a := range edges(l, 16) {
		impl.PopFind(second, a)
		impl.RoutesFind(l, a)
	}
	wantTable(t, "the table that was asked", second, laidOut(l, 16))
	if !slices.Equal(l, kept) {
		t.Error("the routes were changed")
	}
}
