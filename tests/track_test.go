package tests

import (
	"fmt"
	"math"
	"slices"
	"testing"

	"loop.example/g00314/impl"
)

// The flags of TCP, by the document's numbers.
const (
	fin = 1
	syn = 2
	rst = 4
	ack = 16
)

// farStates are none of the seven, those next to them and ones that a byte or a word would cut to one.
var farStates = append([]int64{0, 8, 9, 255, 256 + 1, 256 + 3, 65536 + 7, -3, -7}, noBytes...)

// nextStates are what the document's words make of each of the seven, from inside and from outside:
// a digit for each choice of FIN, SYN and RST, whose numbers are 1, 2 and 4 (none, FIN, SYN, both,
// and these four beside RST).
var nextStates = [8][2]string{
	1: {"11117777", "11337777"},
	2: {"22337777", "22227777"},
	3: {"34347777", "35357777"},
	4: {"44447777", "46467777"},
	5: {"56567777", "55557777"},
	6: {"66667777", "66667777"},
	7: {"33337777", "33337777"},
}

// bothSides are from inside, and from outside.
var bothSides = []bool{true, false}

func sideText(inside bool) string {
	if inside {
		return "inside"
	}
	return "outside"
}

// newState is the state of a connection of TCP that begins so.
func newState(inside bool, flags int64) int64 {
	has := func(flag int64) bool { return flags/flag%2 == 1 }
	switch {
	case !has(syn), has(rst), has(ack):
		return 0
	case inside:
		return 1
	}
	return 2
}

// nextState is the state that comes of one of the seven.
func nextState(state int64, inside bool, flags int64) int64 {
	row := nextStates[state][0]
	if !inside {
		row = nextStates[state][1]
	}
	return int64(row[flags%8] - '0')
}

func wantNew(t *testing.T, proto int64, inside bool, flags int64, want int64) {
	t.Helper()
	what := fmt.Sprintf("TrackNew of proto %d from %s, flags %d", proto, sideText(inside), flags)
	wantNumber(t, what, impl.TrackNew(proto, inside, flags), want)
}

func wantNext(t *testing.T, proto int64, state int64, inside bool, flags int64, want int64) {
	t.Helper()
	what := fmt.Sprintf("TrackNext of proto %d in state %d from %s, flags %d", proto, state, sideText(inside), flags)
	wantNumber(t, what, impl.TrackNext(proto, state, inside, flags), want)
}

func wantLife(t *testing.T, l impl.Lives, proto int64, state int64, want int64) {
	t.Helper()
	what := fmt.Sprintf("TrackLife of %+v, proto %d, state %d", l, proto, state)
	wantNumber(t, what, impl.TrackLife(l, proto, state), want)
}

func TestStatesAreCounted(t *testing.T) {
	got := []int64{impl.Opening, impl.Answered, impl.Open, impl.InEnded, impl.OutEnded, impl.Closing, impl.Reset}
	for i, state := range got {
		wantNumber(t, "state", state, int64(i)+1)
	}
}

// segment is a packet of TCP, as far as its connection goes by it.
type segment struct {
	inside bool
	flags  int64
}

func in(flags int64) segment  { return segment{true, flags} }
func out(flags int64) segment { return segment{false, flags} }

// goesBy tells the states of a connection, one for each segment.
func goesBy(row []segment) []int64 {
	var states []int64
	for i, s := range row {
		if i == 0 {
			states = append(states, impl.TrackNew(impl.Tcp, s.inside, s.flags))
		} else {
			states = append(states, impl.TrackNext(impl.Tcp, states[i-1], s.inside, s.flags))
		}
	}
	return states
}

func TestConnectionsByHand(t *testing.T) {
	for _, c := range []struct {
		what string
		row  []segment
		want []int64
	}{
		{"begun from inside, ended from inside first",
			[]segment{in(syn), out(syn | ack), in(ack), in(fin | ack), out(ack), out(fin | ack), in(ack)},
			[]int64{1, 3, 3, 4, 4, 6, 6}},
		{"begun from inside, ended from outside first",
			[]segment{in(syn), out(syn | ack), out(fin | ack), in(ack), in(fin | ack), out(ack)},
			[]int64{1, 3, 5, 5, 6, 6}},
		{"begun from outside, ended from outside first",
			[]segment{out(syn), in(syn | ack), out(ack), out(fin), in(fin), out(ack)},
			[]int64{2, 3, 3, 5, 6, 6}},
		{"begun from outside, ended from inside first",
			[]segment{out(syn), in(syn | ack), in(fin), out(fin)},
			[]int64{2, 3, 4, 6}},
		{"begun from both sides at once", []segment{in(syn), out(syn), in(syn | ack), out(syn | ack)}, []int64{1, 3, 3, 3}},
		{"begun again from inside", []segment{in(syn), in(syn), in(syn | ack), in(ack), out(syn | ack)}, []int64{1, 1, 1, 1, 3}},
		{"begun again from outside", []segment{out(syn), out(syn), out(syn | ack), out(ack), in(syn | ack)}, []int64{2, 2, 2, 2, 3}},
		{"answered without SYN", []segment{in(syn), out(ack), out(0), out(fin | ack), out(syn | ack)}, []int64{1, 1, 1, 1, 3}},
		{"answered from inside without SYN", []segment{out(syn), in(ack), in(fin), in(syn)}, []int64{2, 2, 2, 3}},
		{"ended before it is answered", []segment{in(syn), in(fin), out(fin), out(syn)}, []int64{1, 1, 1, 3}},
		{"answered and ended in one", []segment{in(syn), out(syn | fin), out(fin)}, []int64{1, 3, 5}},
		{"ended twice from inside", []segment{in(syn), out(syn), in(fin), in(fin | ack), in(fin | syn), out(fin)}, []int64{1, 3, 4, 4, 4, 6}},
		{"ended twice from outside", []segment{in(syn), out(syn), out(fin), out(fin | ack), out(fin | syn), in(fin)}, []int64{1, 3, 5, 5, 5, 6}},
		{"ended once more when closing", []segment{out(syn), in(syn), in(fin), out(fin), in(fin), out(fin), in(syn), out(syn)}, []int64{2, 3, 4, 6, 6, 6, 6, 6}},
		{"reset while it opens", []segment{in(syn), out(rst | ack), in(syn)}, []int64{1, 7, 3}},
		{"reset again", []segment{in(syn), out(rst), in(rst), out(rst | syn | fin), in(0)}, []int64{1, 7, 7, 7, 3}},
		{"gone on and ended behind a reset", []segment{in(syn), out(syn), in(rst), in(fin), in(fin), out(fin)}, []int64{1, 3, 7, 3, 4, 6}},
		{"ends that a reset takes away", []segment{in(syn), out(syn), in(fin), out(rst), out(ack), out(fin), in(fin)}, []int64{1, 3, 4, 7, 3, 5, 6}},
		{"begun with FIN", []segment{in(syn | fin), out(syn | ack)}, []int64{1, 3}},
		{"not begun", []segment{in(ack), out(syn | ack), out(rst)}, []int64{0, 0, 0}},
		{"begun by an answer", []segment{in(syn | ack), out(syn)}, []int64{0, 0}},
		{"begun by a reset", []segment{out(syn | rst), in(syn)}, []int64{0, 0}},
	} {
		if got := goesBy(c.row); !slices.Equal(got, c.want) {
			t.Errorf("%s: got %v, want %v", c.what, got, c.want)
		}
	}
}

// Promise 10, whatever else the packets tell: begun and answered it is open, ended from both sides closing.
func TestBegunAnsweredAndEnded(t *testing.T) {
	for flags := range int64(256) {
		rest := flags &^ (fin | syn | rst | ack)
		for _, side := range bothSides {
			begun := []segment{{side, syn | rest}, {!side, syn | flags&^rst}}
			for _, first := range bothSides {
				row := append(slices.Clone(begun), segment{first, fin | flags&^rst}, segment{!first, fin | flags&^rst})
				want := []int64{2, 3, 5, 6}
				if side {
					want[0] = 1
				}
				if first {
					want[2] = 4
				}
				if got := goesBy(row); !slices.Equal(got, want) {
					t.Errorf("%v: got %v, want %v", row, got, want)
				}
			}
		}
	}
}

// facts are what has come of a connection that was begun.
type facts struct {
	fromInside bool
	answered   bool
	inEnd      bool
	outEnd     bool
	wasReset   bool
}

// state is told by the facts, and by nothing that was told before.
func (f facts) state() int64 {
	switch {
	case f.wasReset:
		return impl.Reset
	case f.inEnd && f.outEnd:
		return impl.Closing
	case f.inEnd:
		return impl.InEnded
	case f.outEnd:
		return impl.OutEnded
	case f.answered:
		return impl.Open
	case f.fromInside:
		return impl.Opening
	}
	return impl.Answered
}

// with is what the facts are, when one more segment has come.
func (f facts) with(s segment) facts {
	switch {
	case s.flags&rst != 0:
		f.wasReset = true
	case f.wasReset:
		f = facts{fromInside: f.fromInside, answered: true}
	case !f.answered:
		f.answered = s.inside != f.fromInside && s.flags&syn != 0
	case s.flags&fin != 0:
		f.inEnd, f.outEnd = f.inEnd || s.inside, f.outEnd || !s.inside
	}
	return f
}

// All rows of up to five segments behind the first: the state is that which the facts of all of them tell.
func TestRowsOfSegments(t *testing.T) {
	var segments []segment
	for _, flags := range []int64{syn, syn | ack, ack, fin | ack, rst} {
		segments = append(segments, in(flags), out(flags))
	}
	met := map[int64]int{}
	var follow func(f facts, state int64, left int)
	follow = func(f facts, state int64, left int) {
		met[state]++
		if state != f.state() {
			t.Fatalf("%+v: got %d, want %d", f, state, f.state())
		}
		if left == 0 {
			return
		}
		for _, s := range segments {
			follow(f.with(s), impl.TrackNext(impl.Tcp, state, s.inside, s.flags), left-1)
		}
	}
	for _, side := range bothSides {
		follow(facts{fromInside: side}, impl.TrackNew(impl.Tcp, side, syn), 5)
	}
	for state := int64(1); state <= 7; state++ {
		if met[state] == 0 {
			t.Errorf("state %d was never met: %v", state, met)
		}
	}
}

func TestNewOfEachFlags(t *testing.T) {
	for _, side := range bothSides {
		for flags := range int64(256) {
			wantNew(t, impl.Tcp, side, flags, newState(side, flags))
		}
	}
	for _, c := range []struct{ flags, inside, outside int64 }{
		{0, 0, 0}, {fin, 0, 0}, {ack, 0, 0}, {rst, 0, 0}, {syn, 1, 2}, {255, 0, 0},
		{syn | rst, 0, 0}, {syn | ack, 0, 0}, {syn | fin, 1, 2}, {syn | rst | ack, 0, 0}, {fin | rst, 0, 0},
		{syn | 8, 1, 2}, {syn | 32, 1, 2}, {syn | 64, 1, 2}, {syn | 128, 1, 2}, {255 &^ (rst | ack), 1, 2},
	} {
		wantNew(t, impl.Tcp, true, c.flags, c.inside)
		wantNew(t, impl.Tcp, false, c.flags, c.outside)
	}
}

func TestNextOfEachStateAndFlags(t *testing.T) {
	for state := int64(1); state <= 7; state++ {
		for _, side := range bothSides {
			for flags := range int64(256) {
				wantNext(t, impl.Tcp, state, side, flags, nextState(state, side, flags))
			}
		}
	}
}

// Reset in each state, from each side, beside whatever flags; what comes behind it goes on.
func TestResetInEachState(t *testing.T) {
	for state := int64(1); state <= 7; state++ {
		for _, side := range bothSides {
			for flags := range int64(256) {
				wantNext(t, impl.Tcp, state, side, flags|rst, impl.Reset)
				after := impl.TrackNext(impl.Tcp, state, side, flags|rst)
				wantNext(t, impl.Tcp, after, side, flags&^rst, impl.Open)
				wantNext(t, impl.Tcp, after, !side, flags&^rst, impl.Open)
			}
		}
	}
}

func TestStatesThatAreNone(t *testing.T) {
	for _, state := range farStates {
		for _, side := range bothSides {
			for flags := range int64(256) {
				wantNext(t, impl.Tcp, state, side, flags, 0)
			}
			for _, flags := range noBytes {
				wantNext(t, impl.Tcp, state, side, flags, 0)
			}
		}
	}
}

// Flags that are no byte, those among them too whose low bits would tell something.
func TestFlagsThatAreNone(t *testing.T) {
	wrong := append([]int64{256 + syn, 256 + rst, 256 + fin, 1<<32 + syn, -256 + syn, math.MinInt64 + syn, math.MaxInt64 &^ (rst | ack)}, noBytes...)
	for _, flags := range wrong {
		for _, side := range bothSides {
			wantNew(t, impl.Tcp, side, flags, 0)
			for state := int64(1); state <= 7; state++ {
				wantNext(t, impl.Tcp, state, side, flags, 0)
			}
		}
	}
}

// numbersToTry are states and flags of all kinds, right ones and wrong ones.
func numbersToTry() []int64 {
	numbers := slices.Clone(farStates)
	for n := range int64(40) {
		numbers = append(numbers, n)
	}
	return numbers
}

// The state of UDP and ICMP is open always, whatever the state and the flags that stand beside them.
func TestAlwaysOpen(t *testing.T) {
	for _, proto := range []int64{impl.Udp, impl.Icmp} {
		for _, side := range bothSides {
			for _, flags := range numbersToTry() {
				wantNew(t, proto, side, flags, impl.Open)
				for _, state := range numbersToTry() {
					wantNext(t, proto, state, side, flags, impl.Open)
				}
			}
		}
	}
}

// strangeProtos are all bytes but the three, ICMPv6 among them, and numbers that are no bytes.
func strangeProtos() []int64 {
	protos := slices.Clone(otherProtos)
	for proto := range int64(256) {
		if proto != impl.Tcp && proto != impl.Udp && proto != impl.Icmp {
			protos = append(protos, proto)
		}
	}
	return protos
}

func TestProtosThatAreNone(t *testing.T) {
	for _, proto := range strangeProtos() {
		for _, side := range bothSides {
			for _, flags := range []int64{0, fin, syn, rst, ack, syn | ack, 255, 256, -1} {
				wantNew(t, proto, side, flags, 0)
				for state := int64(0); state <= 8; state++ {
					wantNext(t, proto, state, side, flags, 0)
				}
			}
		}
		for state := int64(0); state <= 8; state++ {
			wantLife(t, someLives(), proto, state, 0)
		}
	}
}

func someLives() impl.Lives {
	return impl.Lives{Udp: 11, Echo: 22, Opening: 33, Open: 44, Closing: 55}
}

// livesOf are five lives in the order of the fields.
func livesOf(n [5]int64) impl.Lives {
	return impl.Lives{Udp: n[0], Echo: n[1], Opening: n[2], Open: n[3], Closing: n[4]}
}

// Each of the five at each edge beside the four others at each edge.
func TestLivesAtEdges(t *testing.T) {
	edges := []int64{0, 1, 10000, 10001}
	for row := range 1024 {
		var n [5]int64
		want, rest := true, row
		for i := range n {
			n[i] = edges[rest%4]
			want = want && n[i] != 0 && n[i] != 10001
			rest /= 4
		}
		wantAnswer(t, fmt.Sprintf("LivesRight of %v", n), impl.LivesRight(livesOf(n)), want)
	}
	wantAnswer(t, "LivesRight of none", impl.LivesRight(impl.Lives{}), false)
	wantAnswer(t, "LivesRight of some", impl.LivesRight(someLives()), true)
}

// wrongLives are right ones but for one of the five.
func wrongLives() []impl.Lives {
	var l []impl.Lives
	for i := range 5 {
		for _, wrong := range []int64{0, -1, -10000, 10001, 20000, 65536 + 1, 1<<32 + 1, math.MinInt64, math.MaxInt64} {
			n := [5]int64{11, 22, 33, 44, 55}
			n[i] = wrong
			l = append(l, livesOf(n))
		}
	}
	return l
}

func TestLivesThatAreWrong(t *testing.T) {
	for _, l := range append(wrongLives(), impl.Lives{}) {
		wantAnswer(t, fmt.Sprintf("LivesRight of %+v", l), impl.LivesRight(l), false)
		for _, proto := range []int64{impl.Tcp, impl.Udp, impl.Icmp, impl.Icmp6, 0} {
			for state := int64(-1); state <= 8; state++ {
				wantLife(t, l, proto, state, 0)
			}
		}
	}
}

func TestLifeOfEachState(t *testing.T) {
	for state, want := range []int64{0, 33, 33, 44, 44, 44, 55, 55, 0} {
		wantLife(t, someLives(), impl.Tcp, int64(state), want)
		wantLife(t, someLives(), impl.Udp, int64(state), 11)
		wantLife(t, someLives(), impl.Icmp, int64(state), 22)
	}
	for _, state := range farStates {
		wantLife(t, someLives(), impl.Tcp, state, 0)
		wantLife(t, someLives(), impl.Udp, state, 11)
		wantLife(t, someLives(), impl.Icmp, state, 22)
	}
}

// At their edges lives are told as they are.
func TestLifeAtEdges(t *testing.T) {
	fields := []struct{ proto, state int64 }{{17, 3}, {1, 3}, {6, 1}, {6, 3}, {6, 6}}
	for i, f := range fields {
		low, high := [5]int64{10000, 10000, 10000, 10000, 10000}, [5]int64{1, 1, 1, 1, 1}
		low[i], high[i] = 1, 10000
		wantLife(t, livesOf(low), f.proto, f.state, 1)
		wantLife(t, livesOf(high), f.proto, f.state, 10000)
	}
}
