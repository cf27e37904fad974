package share

import (
	"math"
	"math/big"
	"math/rand"
	"slices"
	"testing"

	"pane/api"
)

const most = 100000

func want(least, most, weight int) api.Want {
	return api.Want{Min: least, Max: most, Weight: weight}
}

func times(n int, w api.Want) []api.Want {
	return slices.Repeat([]api.Want{w}, n)
}

func TestSplit(t *testing.T) {
	for _, c := range []struct {
		name      string
		room, gap int
		wants     []api.Want
		lengths   []int
		offsets   []int
	}{
		{"the document's example", 10, 1, []api.Want{want(0, -1, 1), want(2, 2, 1), want(0, -1, 2)}, []int{2, 2, 4}, []int{0, 3, 6}},
		{"nobody", 7, 1, nil, nil, nil},
		{"one, by its weight", 7, 3, []api.Want{want(0, -1, 1)}, []int{7}, []int{0}},
		{"one, by its min", 7, 3, []api.Want{want(2, -1, 0)}, []int{2}, []int{0}},
		{"no room", 0, 0, []api.Want{want(1, -1, 1), want(0, -1, 1)}, []int{0, 0}, []int{0, 0}},

		{"mins that just fit", 6, 0, []api.Want{want(3, -1, 1), want(3, -1, 5)}, []int{3, 3}, []int{0, 3}},
		{"mins that are too much: the last one gives", 5, 0, []api.Want{want(3, -1, 1), want(3, -1, 5)}, []int{3, 2}, []int{0, 3}},
		{"the last one gives all", 3, 0, []api.Want{want(3, -1, 1), want(3, -1, 5)}, []int{3, 0}, []int{0, 3}},
		{"the one ahead of it gives too", 2, 0, []api.Want{want(3, -1, 1), want(3, -1, 5)}, []int{2, 0}, []int{0, 2}},
		{"who has nothing gives nothing", 2, 0, []api.Want{want(1, -1, 1), want(3, -1, 1), want(0, -1, 9)}, []int{1, 1, 0}, []int{0, 1, 2}},
		{"mins that are too much by the gaps", 7, 1, []api.Want{want(2, 2, 0), want(2, 2, 0), want(2, 2, 0)}, []int{2, 2, 1}, []int{0, 3, 6}},
		{"gaps that take all", 4, 2, []api.Want{want(1, 1, 0), want(1, 1, 0), want(1, 1, 0)}, []int{0, 0, 0}, []int{0, 2, 4}},
		{"gaps beyond the room", 3, 2, []api.Want{want(1, 1, 0), want(1, 1, 0), want(1, 1, 0)}, []int{0, 0, 0}, []int{0, 2, 4}},

		{"equal fractions: the earlier ones", 10, 0, times(3, want(0, -1, 1)), []int{4, 3, 3}, []int{0, 4, 7}},
		{"equal fractions, two missing", 11, 0, times(3, want(0, -1, 1)), []int{4, 4, 3}, []int{0, 4, 8}},
		{"equal fractions among greater weights", 3, 0, []api.Want{want(0, -1, 2), want(0, -1, 2), want(0, -1, 2), want(0, -1, 2)}, []int{1, 1, 1, 0}, []int{0, 1, 2, 3}},
		{"unequal fractions: the greatest", 11, 0, []api.Want{want(0, -1, 2), want(0, -1, 3), want(0, -1, 5)}, []int{2, 3, 6}, []int{0, 2, 5}},
		{"unequal fractions: the last one", 1, 0, []api.Want{want(0, -1, 1), want(0, -1, 2), want(0, -1, 3)}, []int{0, 0, 1}, []int{0, 0, 0}},
		{"unequal fractions: the two greatest", 2, 0, []api.Want{want(0, -1, 3), want(0, -1, 4), want(0, -1, 4)}, []int{0, 1, 1}, []int{0, 0, 1}},
		{"some equal, one greater", 3, 0, []api.Want{want(0, -1, 1), want(0, -1, 1), want(0, -1, 2)}, []int{1, 1, 1}, []int{0, 1, 2}},
		{"a weight can be worth more than a fraction", 5, 0, []api.Want{want(0, -1, 3), want(0, -1, 1)}, []int{4, 1}, []int{0, 4}},
		{"mins are poured upon", 10, 0, []api.Want{want(4, -1, 1), want(0, -1, 1)}, []int{7, 3}, []int{0, 7}},
		{"no weight, no more", 9, 0, []api.Want{want(1, -1, 0), want(1, 5, 1), want(1, -1, 2)}, []int{1, 3, 5}, []int{0, 1, 4}},

		{"one at its max, the others take the rest", 10, 0, []api.Want{want(0, 2, 1), want(0, -1, 1)}, []int{2, 8}, []int{0, 2}},
		{"the one that is full first stands last", 10, 0, []api.Want{want(0, -1, 1), want(0, 2, 1)}, []int{8, 2}, []int{0, 8}},
		{"full one behind the other", 20, 0, []api.Want{want(0, 9, 1), want(0, 3, 1), want(0, 6, 1), want(0, -1, 1)}, []int{6, 3, 6, 5}, []int{0, 6, 9, 15}},
		{"one is just full", 6, 0, []api.Want{want(0, 3, 1), want(0, -1, 1)}, []int{3, 3}, []int{0, 3}},
		{"a level of a fraction below its max", 5, 0, []api.Want{want(0, 3, 1), want(0, 3, 1)}, []int{3, 2}, []int{0, 3}},
		{"all just at their max", 5, 0, []api.Want{want(0, 2, 1), want(0, 3, 5)}, []int{2, 3}, []int{0, 2}},
		{"all at their max, something left over", 10, 0, []api.Want{want(0, 2, 1), want(0, 3, 5)}, []int{2, 3}, []int{0, 2}},
		{"left over, and one without a weight", 10, 1, []api.Want{want(0, 2, 1), want(1, -1, 0), want(0, 3, 5)}, []int{2, 1, 3}, []int{0, 3, 5}},
		{"no weights, all left over", 100, 0, []api.Want{want(0, -1, 0), want(2, -1, 0)}, []int{0, 2}, []int{0, 0}},
		{"max is min", 9, 0, []api.Want{want(4, 4, 7), want(0, -1, 1)}, []int{4, 5}, []int{0, 4}},
		{"a max of 0", 9, 0, []api.Want{want(0, 0, 7), want(0, -1, 1)}, []int{0, 9}, []int{0, 0}},

		{"a room below 0 is 0", -5, 1, []api.Want{want(1, 2, 3)}, []int{0}, []int{0}},
		{"a room above MaxLength is that", most + 7, 0, []api.Want{want(0, -1, 1), want(0, 5, 0)}, []int{most, 0}, []int{0, most}},
		{"a gap below 0 is 0", 6, -5, times(2, want(0, -1, 1)), []int{3, 3}, []int{0, 3}},
		{"a gap above MaxLength is that", most, most + 9, times(3, want(2, -1, 1)), []int{0, 0, 0}, []int{0, most, 2 * most}},
		{"a min below 0 is 0", 6, 0, []api.Want{want(-4, -1, 1), want(0, -1, 1)}, []int{3, 3}, []int{0, 3}},
		{"a min above MaxLength is that", most, 0, []api.Want{want(most+5, -1, 0), want(0, -1, 0)}, []int{most, 0}, []int{0, most}},
		{"a max below its min is its min", 9, 0, []api.Want{want(4, 1, 1), want(0, -1, 0)}, []int{4, 0}, []int{0, 4}},
		{"a max of 0 below its min is its min", 9, 0, []api.Want{want(4, 0, 1), want(0, -1, 0)}, []int{4, 0}, []int{0, 4}},
		{"a max below a min below 0 is none", 9, 0, []api.Want{want(-2, -4, 1)}, []int{9}, []int{0}},
		{"a max of 0 above a min below 0", 9, 0, []api.Want{want(-2, 0, 1)}, []int{0}, []int{0}},
		{"a max above MaxLength is that", most, 0, []api.Want{want(0, most+5, 1)}, []int{most}, []int{0}},
		{"a weight below 0 is 0", 6, 0, []api.Want{want(0, -1, -3), want(0, -1, 1)}, []int{0, 6}, []int{0, 0}},
		{"a weight above MaxLength is that", 6, 0, []api.Want{want(0, -1, most+most), want(0, -1, most)}, []int{3, 3}, []int{0, 3}},

		{"the least numbers", math.MinInt, math.MinInt, times(2, want(math.MinInt, math.MinInt, math.MinInt)), []int{0, 0}, []int{0, 0}},
		{"the greatest numbers", math.MaxInt, math.MaxInt, times(3, want(math.MaxInt, math.MaxInt, math.MaxInt)), []int{0, 0, 0}, []int{0, most, 2 * most}},
		{"the greatest numbers, no gap", math.MaxInt, 0, times(3, want(math.MaxInt, math.MaxInt, math.MaxInt)), []int{most, 0, 0}, []int{0, most, most}},
		{"the greatest weights", math.MaxInt, math.MinInt, times(3, want(math.MinInt, math.MaxInt, math.MaxInt)), []int{33334, 33333, 33333}, []int{0, 33334, 66667}},
		{"numbers that would wrap", 1<<32 + 5, 1 << 32, []api.Want{want(1<<32+1, 1<<32+2, 1<<32)}, []int{most}, []int{0}},
	} {
		if got := Split(c.room, c.gap, c.wants); !slices.Equal(got, c.lengths) {
			t.Errorf("%s: Split(%d, %d, %v) = %v, want %v", c.name, c.room, c.gap, c.wants, got, c.lengths)
		}
		if got := Offsets(c.room, c.gap, c.wants); !slices.Equal(got, c.offsets) {
			t.Errorf("%s: Offsets(%d, %d, %v) = %v, want %v", c.name, c.room, c.gap, c.wants, got, c.offsets)
		}
	}
}

func TestManyWants(t *testing.T) {
	for _, n := range []int{199, 200} {
		wants := times(n, want(1, -1, 1))
		lengths, offsets := Split(3*n+2, 1, wants), Offsets(3*n+2, 1, wants)
		if len(lengths) != n || len(offsets) != n {
			t.Fatalf("%d wants: %d lengths, %d offsets", n, len(lengths), len(offsets))
		}
		// Gaps take n - 1; of 2n + 3 the first three get one more than 2.
		for i := range n {
			length, offset := 2, 3*i+3
			if i < 3 {
				length, offset = 3, 4*i
			}
			if lengths[i] != length || offsets[i] != offset {
				t.Errorf("%d wants: number %d has %d at %d, want %d at %d", n, i, lengths[i], offsets[i], length, offset)
			}
		}
	}
	for _, n := range []int{201, 202, 100000} {
		wants := times(n, want(1, -1, 1))
		if l := Split(5, 0, wants); len(l) != 0 {
			t.Errorf("%d wants: %d lengths, want none", n, len(l))
		}
		if l := Offsets(5, 0, wants); len(l) != 0 {
			t.Errorf("%d wants: %d offsets, want none", n, len(l))
		}
	}
}

// splitByTrying is S1 read a second time, for small numbers: it tries every
// fraction for t until the levels are what is to be shared.
func splitByTrying(shared int, wants []api.Want) []int {
	lengths := make([]int, len(wants))
	mins, weights := 0, 0
	for i, w := range wants {
		lengths[i] = w.Min
		mins += w.Min
		weights += w.Weight
	}
	for ; mins > shared; mins-- {
		last := len(wants) - 1
		for lengths[last] == 0 {
			last--
		}
		lengths[last]--
	}
	for below := 1; below <= weights; below++ {
		for above := 0; above <= shared*below; above++ {
			levels, sum := levelsAt(above, below, wants)
			if sum == shared*below {
				return rounded(levels, below, shared)
			}
			if sum > shared*below {
				break
			}
		}
	}
	for i, w := range wants {
		if w.Weight > 0 && mins < shared {
			lengths[i] = w.Max
		}
	}
	return lengths
}

// levelsAt answers levels in parts of below, and their sum.
func levelsAt(above, below int, wants []api.Want) ([]int, int) {
	levels, sum := make([]int, len(wants)), 0
	for i, w := range wants {
		levels[i] = min(w.Max*below, w.Min*below+above*w.Weight)
		sum += levels[i]
	}
	return levels, sum
}

// rounded leaves the fractions out, and gives what is missing one by one.
func rounded(levels []int, below, shared int) []int {
	lengths, fractions := make([]int, len(levels)), make([]int, len(levels))
	for i, l := range levels {
		lengths[i], fractions[i] = l/below, l%below
		shared -= l / below
	}
	for ; shared > 0; shared-- {
		i := slices.Index(fractions, slices.Max(fractions))
		lengths[i]++
		fractions[i] = 0
	}
	return lengths
}

func TestSplitOfAllSmallWants(t *testing.T) {
	var kinds []api.Want
	for _, least := range []int{0, 1, 3} {
		for _, upTo := range []int{least, least + 2, 20} {
			for weight := range 4 {
				kinds = append(kinds, want(least, upTo, weight))
			}
		}
	}
	check := func(wants []api.Want) {
		for room := range 11 {
			if got, should := Split(room, 0, wants), splitByTrying(room, wants); !slices.Equal(got, should) {
				t.Fatalf("Split(%d, 0, %v) = %v, want %v", room, wants, got, should)
			}
		}
	}
	for _, a := range kinds {
		check([]api.Want{a})
		for _, b := range kinds {
			check([]api.Want{a, b})
			for _, c := range kinds[:24] {
				check([]api.Want{a, c, b})
			}
		}
	}
}

// splitByRatio is S1 read a third time, for great numbers: it looks at the sum
// of the levels wherever one is full, and seeks t between two of these.
func splitByRatio(shared int, wants []api.Want) []int {
	stops := []*big.Rat{new(big.Rat)}
	for _, w := range wants {
		if w.Weight > 0 {
			stops = append(stops, big.NewRat(int64(w.Max-w.Min), int64(w.Weight)))
		}
	}
	slices.SortFunc(stops, (*big.Rat).Cmp)
	goal := big.NewRat(int64(shared), 1)
	t := stops[len(stops)-1]
	for i := 1; i < len(stops); i++ {
		low, high := sumAt(stops[i-1], wants), sumAt(stops[i], wants)
		if low.Cmp(goal) <= 0 && goal.Cmp(high) < 0 {
			part := new(big.Rat).Quo(new(big.Rat).Sub(goal, low), new(big.Rat).Sub(high, low))
			span := new(big.Rat).Sub(stops[i], stops[i-1])
			t = new(big.Rat).Add(stops[i-1], part.Mul(part, span))
			break
		}
	}
	missing := shared
	lengths, fractions := make([]int, len(wants)), make([]*big.Rat, len(wants))
	for i, w := range wants {
		level := levelAt(t, w)
		whole := new(big.Int).Quo(level.Num(), level.Denom())
		lengths[i] = int(whole.Int64())
		fractions[i] = level.Sub(level, new(big.Rat).SetInt(whole))
		missing -= lengths[i]
	}
	for ; missing > 0; missing-- {
		best := 0
		for i := range fractions {
			if fractions[i].Cmp(fractions[best]) > 0 {
				best = i
			}
		}
		if fractions[best].Sign() == 0 {
			break
		}
		lengths[best]++
		fractions[best] = new(big.Rat)
	}
	return lengths
}

func sumAt(t *big.Rat, wants []api.Want) *big.Rat {
	sum := new(big.Rat)
	for _, w := range wants {
		sum.Add(sum, levelAt(t, w))
	}
	return sum
}

func levelAt(t *big.Rat, w api.Want) *big.Rat {
	level := big.NewRat(int64(w.Weight), 1)
	level.Mul(level, t)
	level.Add(level, big.NewRat(int64(w.Min), 1))
	if top := big.NewRat(int64(w.Max), 1); level.Cmp(top) > 0 {
		return top
	}
	return level
}

func TestSplitOfGreatNumbers(t *testing.T) {
	source := rand.New(rand.NewSource(3))
	for round := range 200 {
		n := 1 + source.Intn(20)
		if round == 0 {
			n = 200
		}
		wants, mins, tops := make([]api.Want, n), 0, 0
		for i := range wants {
			least := source.Intn(1 + most/n)
			upTo := least + source.Intn(1+2*most/n)
			if source.Intn(4) == 0 {
				upTo = most
			}
			weight := source.Intn([]int{2, 10, most + 1}[source.Intn(3)])
			wants[i] = want(least, upTo, weight)
			mins += least
			tops += upTo
		}
		gap := source.Intn(1 + most/n/4)
		for _, shared := range []int{mins, mins + 1, (mins + most) / 2, most - gap*(n-1), min(tops, most)} {
			room := shared + gap*(n-1)
			if shared < mins || room > most {
				continue
			}
			lengths, should := Split(room, gap, wants), splitByRatio(shared, wants)
			if !slices.Equal(lengths, should) {
				t.Fatalf("Split(%d, %d, %v) = %v, want %v", room, gap, wants, lengths, should)
			}
			next := 0
			for i, got := range Offsets(room, gap, wants) {
				if got != next {
					t.Fatalf("Offsets(%d, %d, %v): number %d is %d, want %d", room, gap, wants, i, got, next)
				}
				next += lengths[i] + gap
			}
		}
	}
}

// All numbers at the ends of their range, and at the ends of what they are
// clamped to: the same as with numbers that are clamped already.
func TestNumbersAreClamped(t *testing.T) {
	ends := []int{math.MinInt, math.MinInt32, -1, 0, 1, most - 1, most, most + 1, math.MaxInt32, 1 << 32, math.MaxInt}
	inRange := func(n, low int) int {
		if n < low {
			return low
		}
		if n > most {
			return most
		}
		return n
	}
	for _, a := range ends {
		for _, b := range ends {
			for _, c := range ends {
				least, upTo := inRange(a, 0), most
				if b >= 0 {
					upTo = inRange(b, least)
				}
				given := []api.Want{want(a, b, c), want(0, -1, 1)}
				plain := []api.Want{want(least, upTo, inRange(c, 0)), want(0, most, 1)}
				for _, room := range []int{a, b, c} {
					if got, should := Split(room, c, given), Split(inRange(room, 0), inRange(c, 0), plain); !slices.Equal(got, should) {
						t.Errorf("Split(%d, %d, %v) = %v, want %v", room, c, given, got, should)
					}
					if got, should := Offsets(room, c, given), Offsets(inRange(room, 0), inRange(c, 0), plain); !slices.Equal(got, should) {
						t.Errorf("Offsets(%d, %d, %v) = %v, want %v", room, c, given, got, should)
					}
				}
			}
		}
	}
}

func TestWantsStayAsTheyAre(t *testing.T) {
	wants := []api.Want{want(-4, -7, most+1), want(9, 3, -1), want(0, 2, 2)}
	before := slices.Clone(wants)
	first, second := Split(20, 1, wants), Split(20, 1, wants)
	Offsets(20, 1, wants)
	if !slices.Equal(wants, before) {
		t.Errorf("the wants have become %v, were %v", wants, before)
	}
	first[0]++
	if first[0] == second[0] {
		t.Error("a change of one answer is seen in another")
	}
}
