package mix

import (
	"encoding/binary"
	"go/ast"
	"go/parser"
	"go/token"
	"math"
	"math/big"
	"slices"
	"strings"
	"testing"
)

// words are edges, all words of one bit, and a row of others of all sizes; no two are the same.
func words() []uint64 {
	l := []uint64{0, 3, 5, 31, 33, 64, 99, 1<<31 - 1, 1<<32 - 1, 1<<32 + 1, 1<<63 - 1, 1<<63 + 1, math.MaxUint64 - 1, math.MaxUint64, 0x0123456789abcdef, 0xfedcba9876543210, 0x9E3779B97F4A7C15, 0xD6E8FEB86659FD93}
	for i := range 64 {
		l = append(l, 1<<i)
	}
	word := uint64(11)
	for i := range 60 {
		word = word*6364136223846793005 + 1442695040888963407
		l = append(l, word>>i)
	}
	slices.Sort(l)
	return slices.Compact(l)
}

// texts are edges, and a row of others of up to 40 bytes.
func texts() []string {
	l := []string{"", "a", "b", "ab", "ba", "\x00", "\x01", "\x80", "\xff", "abcdefgh", "abcdefghi", "bacdefgh", "ijklmnopabcdefgh", "abcdefghijklmnop", "é", "日本語"}
	for n := range 26 {
		l = append(l, strings.Repeat("\x00", n), strings.Repeat("\xff", n), strings.Repeat("a", n)+"\x00", "\x00"+strings.Repeat("a", n))
	}
	word := uint64(7)
	for n := range 41 {
		b := make([]byte, n)
		for i := range b {
			word = word*6364136223846793005 + 1442695040888963407
			b[i] = byte(word >> 56)
		}
		l = append(l, string(b))
	}
	slices.Sort(l)
	return slices.Compact(l)
}

// hex is the number of these digits to the base 16.
func hex(digits string) *big.Int {
	n, ok := new(big.Int).SetString(digits, 16)
	if !ok {
		panic(digits)
	}
	return n
}

// The numbers of the chapter, and what a word is less than.
var (
	first  = hex("9E3779B97F4A7C15")
	second = hex("D6E8FEB86659FD93")
	over   = new(big.Int).Lsh(big.NewInt(1), 64)
	half   = new(big.Int).Lsh(big.NewInt(1), 32)
)

// wide is a word as a number without a limit.
func wide(h uint64) *big.Int {
	return new(big.Int).SetUint64(h)
}

// stepped is what Step must tell, reckoned without a limit: turned left by 31 bits is that many doublings, of which each brings what is too high back as a 1.
func stepped(h, x uint64) uint64 {
	n := new(big.Int).Xor(wide(h), wide(x))
	n.Mul(n, first).Mod(n, over)
	for range 31 {
		n.Lsh(n, 1)
		if n.Cmp(over) >= 0 {
			n.Sub(n, over).Add(n, big.NewInt(1))
		}
	}
	return n.Add(n, second).Mod(n, over).Uint64()
}

// upper is the upper half of n.
func upper(n *big.Int) *big.Int {
	return new(big.Int).Div(n, half)
}

// ended is what End must tell, reckoned without a limit.
func ended(h uint64) uint64 {
	n := wide(h)
	n.Xor(n, upper(n))
	n.Mul(n, second).Mod(n, over)
	return n.Xor(n, upper(n)).Uint64()
}

// summed is what Words and Text must tell: of a number and of words.
func summed(seed, n uint64, l []uint64) uint64 {
	h := stepped(seed, n)
	for _, x := range l {
		h = stepped(h, x)
	}
	return ended(h)
}

// pieces are the words of s.
func pieces(s string) []uint64 {
	b := []byte(s)
	for len(b)%8 != 0 {
		b = append(b, 0)
	}
	var l []uint64
	for ; len(b) > 0; b = b[8:] {
		l = append(l, binary.BigEndian.Uint64(b))
	}
	return l
}

// P3.1.
func TestStep(t *testing.T) {
	for _, x := range []struct{ h, x, sum uint64 }{
		{0, 0, 0xd6e8feb86659fd93},
		{0, 1, 0x968e3cc33575ba6f},
		{1, 0, 0x968e3cc33575ba6f},
		{1, 1, 0xd6e8feb86659fd93},
		{math.MaxUint64, 0, 0x1743c0ae173e40b6},
		{0, math.MaxUint64, 0x1743c0ae173e40b6},
		{1 << 63, 0, 0xd6e8feb8a659fd93},
		{0x0123456789abcdef, 0xfedcba9876543210, 0x1743c0ae173e40b6},
		{99, 64, 0x0a807a283724cfc1},
	} {
		if sum := Step(x.h, x.x); sum != x.sum {
			t.Errorf("Step(%#x, %#x): %#x; want %#x", x.h, x.x, sum, x.sum)
		}
	}
	for _, h := range words() {
		for _, x := range words() {
			if sum, want := Step(h, x), stepped(h, x); sum != want {
				t.Fatalf("Step(%#x, %#x): %#x; want %#x", h, x, sum, want)
			}
		}
	}
}

// P3.1.
func TestEnd(t *testing.T) {
	for h, sum := range map[uint64]uint64{
		0:                  0,
		1:                  0xd6e8feb8b0b1032b,
		2:                  0xadd1fd7061620656,
		1 << 31:            0x332cfec9b32cfec9,
		1 << 32:            0x3d42fc4b5b1b01d8,
		1 << 63:            0xb32cfec9332cfec9,
		math.MaxUint64:     0x99a6026d99a6026d,
		0x0123456789abcdef: 0xe9161bff158ad5e7,
		0xfedcba9876543210: 0x276ed422dbf21a3a,
	} {
		if s := End(h); s != sum {
			t.Errorf("End(%#x): %#x; want %#x", h, s, sum)
		}
	}
	for _, h := range words() {
		if sum, want := End(h), ended(h); sum != want {
			t.Errorf("End(%#x): %#x; want %#x", h, sum, want)
		}
	}
}

// P3.2.
func TestWords(t *testing.T) {
	for _, x := range []struct {
		seed uint64
		l    []uint64
		sum  uint64
	}{
		{0, nil, 0x4179b061e0c0e0d0},
		{1, nil, 0x595beb214e09bbe5},
		{math.MaxUint64, nil, 0xa70fa851cf0fed99},
		{0, []uint64{0}, 0x634ec62cc5d878b5},
		{0, []uint64{0, 0}, 0x2f88dc4447262dda},
		{7, []uint64{1, 2, 3}, 0xa6cb42f5e4afa7c8},
		{7, []uint64{3, 2, 1}, 0x4001b147ef35a110},
		{0, []uint64{math.MaxUint64, 1 << 63}, 0xb29aaec94729a477},
		{99, []uint64{1, 2, 3, 4, 5}, 0x3c91c8b7eee4a2ac},
	} {
		if sum := Words(x.seed, x.l...); sum != x.sum {
			t.Errorf("Words(%#x, %#x): %#x; want %#x", x.seed, x.l, sum, x.sum)
		}
	}
	l := words()
	for n := range len(l) + 1 {
		for _, seed := range []uint64{0, 1, 99, 1 << 63, math.MaxUint64} {
			if sum, want := Words(seed, l[:n]...), summed(seed, uint64(n), l[:n]); sum != want {
				t.Errorf("Words(%#x, the first %d): %#x; want %#x", seed, n, sum, want)
			}
		}
	}
	for _, seed := range l {
		for _, x := range l {
			if sum, want := Words(seed, x), summed(seed, 1, []uint64{x}); sum != want {
				t.Fatalf("Words(%#x, %#x): %#x; want %#x", seed, x, sum, want)
			}
		}
	}
}

// P3.2: how many words there are counts, and in which order they are.
func TestWordsAreToldApart(t *testing.T) {
	seen := map[uint64][]uint64{}
	for _, l := range [][]uint64{nil, {0}, {0, 0}, {0, 0, 0}, {1}, {2}, {1, 2}, {2, 1}, {1, 2, 0}, {0, 1, 2}, {1, 1}, {math.MaxUint64}, {math.MaxUint64, math.MaxUint64}} {
		sum := Words(5, l...)
		if other, is := seen[sum]; is {
			t.Errorf("Words of %v and of %v are the same", l, other)
		}
		seen[sum] = l
	}
}

// R3, R6: no list and an empty one are the same, and a list that is handed on is as it was.
func TestWordsLeaveTheList(t *testing.T) {
	if Words(3) != Words(3, []uint64{}...) || Words(3) != Words(3, nil...) {
		t.Error("Words of no list and of an empty one")
	}
	l := []uint64{5, 0, math.MaxUint64, 9}
	sum := Words(3, l[:3]...)
	if !slices.Equal(l, []uint64{5, 0, math.MaxUint64, 9}) {
		t.Errorf("Words changed its list: %v", l)
	}
	l[0] = 6
	if Words(3, 5, 0, math.MaxUint64) != sum {
		t.Error("Words kept its list")
	}
}

// P3.2.
func TestText(t *testing.T) {
	for _, x := range []struct {
		s         string
		of0, of64 uint64 // by the seeds 0 and 64
	}{
		{"", 0x4179b061e0c0e0d0, 0x3719578380572eed},
		{"a", 0xb4b57d3cdfa3c3a5, 0x9f6d17fdc5f5c65b},
		{"\x00", 0x634ec62cc5d878b5, 0xa93a290a1b22f8ac},
		{"ab", 0x7a03a2b18a466dca, 0x5502fa6ed59330f1},
		{"abcdefg", 0x3c8e54fc8c5dbac0, 0x6d3fb468545a76e3},
		{"abcdefgh", 0xd156c3c587850215, 0x517b0dd4a38e9e2f},
		{"abcdefghi", 0x54768992a239fb06, 0xa8fa97806a09686e},
		{"\xff\xff\xff\xff\xff\xff\xff\xff", 0x9bcb99036db100d0, 0x2f1699d719cb82c5},
		{"\x00\x00\x00\x00\x00\x00\x00\x00", 0x41970630273c1e03, 0x90a0b6410ca7dac1},
		{"\x00\x00\x00\x00\x00\x00\x00\x00\x00", 0xc27c5b12e0393773, 0x23baf07687f511bb},
		{"placket has sums", 0x03124084a714041d, 0x04539563043c7a2a},
	} {
		if sum := Text(0, x.s); sum != x.of0 {
			t.Errorf("Text(0, %q): %#x; want %#x", x.s, sum, x.of0)
		}
		if sum := Text(64, x.s); sum != x.of64 {
			t.Errorf("Text(64, %q): %#x; want %#x", x.s, sum, x.of64)
		}
	}
	for _, s := range texts() {
		for _, seed := range []uint64{0, 1, 99, 1 << 63, math.MaxUint64} {
			if sum, want := Text(seed, s), summed(seed, uint64(len(s)), pieces(s)); sum != want {
				t.Errorf("Text(%#x, %q): %#x; want %#x", seed, s, sum, want)
			}
		}
	}
}

// P3.2, P3.4: texts of one length that are unlike within one word are told apart, as are noughts by how many they are.
func TestTextsAreToldApart(t *testing.T) {
	const length = 20
	for word := 0; word < length; word += 8 {
		seen := map[uint64]string{Text(5, strings.Repeat("a", length)): "a"}
		for at := word; at < min(word+8, length); at++ {
			for c := range 256 {
				if c == 'a' {
					continue
				}
				s := strings.Repeat("a", at) + string([]byte{byte(c)}) + strings.Repeat("a", length-1-at)
				sum := Text(5, s)
				if other, is := seen[sum]; is {
					t.Errorf("Text of %q and of %q are the same", s, other)
				}
				seen[sum] = s
			}
		}
	}
	noughts := map[uint64]int{}
	for n := range 26 {
		sum := Text(5, strings.Repeat("\x00", n))
		if other, is := noughts[sum]; is {
			t.Errorf("Text of %d and of %d noughts are the same", n, other)
		}
		noughts[sum] = n
	}
}

// P3.2, and Bound: a long text.
func TestTextOfManyBytes(t *testing.T) {
	long := strings.Repeat("0123456789abcde", 1<<16) // of 15 bytes: no two words that follow are the same
	for _, n := range []int{1<<16 - 1, 1 << 16, 1<<16 + 1, 1<<16 + 7} {
		s := long[:n]
		if sum, want := Text(3, s), summed(3, uint64(n), pieces(s)); sum != want {
			t.Errorf("Text of %d bytes: %#x; want %#x", n, sum, want)
		}
	}
	if Text(3, long) == Text(3, long[:len(long)-1]+"f") {
		t.Error("the last byte of a long text does not count")
	}
}

// lowest is what is left of h by the number 2 to the power of bits, or h, or 0.
func lowest(h uint64, bits int) uint64 {
	if bits < 0 {
		return 0
	}
	if bits > 64 {
		return h
	}
	n := new(big.Int).Lsh(big.NewInt(1), uint(bits))
	return n.Mod(wide(h), n).Uint64()
}

// P3.3, R7.
func TestNarrow(t *testing.T) {
	for _, x := range []struct {
		h    uint64
		bits int
		low  uint64
	}{
		{math.MaxUint64, 0, 0},
		{math.MaxUint64, 1, 1},
		{math.MaxUint64, 5, 31},
		{math.MaxUint64, 32, 1<<32 - 1},
		{math.MaxUint64, 63, 1<<63 - 1},
		{math.MaxUint64, 64, math.MaxUint64},
		{math.MaxUint64, 65, math.MaxUint64},
		{math.MaxUint64, 128, math.MaxUint64},
		{math.MaxUint64, math.MaxInt, math.MaxUint64},
		{math.MaxUint64, -1, 0},
		{math.MaxUint64, -64, 0},
		{math.MaxUint64, math.MinInt, 0},
		{99, 5, 3},
		{99, 7, 99},
		{0x0123456789abcdef, 12, 0xdef},
		{1 << 63, 63, 0},
		{1 << 63, 64, 1 << 63},
		{0, 64, 0},
	} {
		if low := Narrow(x.h, x.bits); low != x.low {
			t.Errorf("Narrow(%#x, %d): %#x; want %#x", x.h, x.bits, low, x.low)
		}
	}
	counts := []int{math.MinInt, math.MinInt + 1, -1 << 32, -256, -65, 256, 257, 1 << 32, 1<<32 + 5, math.MaxInt - 1, math.MaxInt}
	for bits := -10; bits <= 140; bits++ {
		counts = append(counts, bits)
	}
	for _, h := range words() {
		for _, bits := range counts {
			if low, want := Narrow(h, bits), lowest(h, bits); low != want {
				t.Errorf("Narrow(%#x, %d): %#x; want %#x", h, bits, low, want)
			}
		}
	}
}

// chunk is what Chunk must tell: h divided by 32 once for each level below, and what is left by 32.
func chunk(h uint64, level int) int {
	if level < 0 || level > 12 {
		return 0
	}
	for range level {
		h /= 32
	}
	return int(h % 32)
}

// P3.3, R7.
func TestChunk(t *testing.T) {
	for _, x := range []struct {
		h            uint64
		level, piece int
	}{
		{99, 0, 3},
		{99, 1, 3},
		{99, 2, 0},
		{math.MaxUint64, 0, 31},
		{math.MaxUint64, 11, 31},
		{math.MaxUint64, 12, 15},
		{math.MaxUint64, 13, 0},
		{math.MaxUint64, -1, 0},
		{math.MaxUint64, math.MaxInt, 0},
		{math.MaxUint64, math.MinInt, 0},
		// Five times these is 0 to 4 modulo 2^64.
		{math.MaxUint64, -0x3333333333333333, 0},
		{math.MaxUint64, -0x6666666666666666, 0},
		{math.MaxUint64, 0x6666666666666667, 0},
		{math.MaxUint64, 0x3333333333333334, 0},
		{1 << 60, 12, 1},
		{1 << 63, 12, 8},
		{1 << 59, 11, 16},
		{1 << 59, 12, 0},
		{1 << 4, 0, 16},
		{1 << 5, 0, 0},
		{1 << 5, 1, 1},
	} {
		if piece := Chunk(x.h, x.level); piece != x.piece {
			t.Errorf("Chunk(%#x, %d): %d; want %d", x.h, x.level, piece, x.piece)
		}
	}
	levels := []int{math.MinInt, math.MinInt + 1, -1 << 32, 64, 65, 256, 1 << 32, math.MaxInt - 1, math.MaxInt}
	for level := -20; level <= 40; level++ {
		levels = append(levels, level)
	}
	for _, h := range words() {
		for _, level := range levels {
			if piece, want := Chunk(h, level), chunk(h, level); piece != want {
				t.Errorf("Chunk(%#x, %d): %d; want %d", h, level, piece, want)
			}
		}
	}
}

// inverse undoes a product with n, modulo 2^64.
func inverse(n *big.Int) uint64 {
	return new(big.Int).ModInverse(n, over).Uint64()
}

// P3.4: a step is undone, to its word and to its sum, and so is an end: none is that of two.
func TestStepsAndEndsAreUndone(t *testing.T) {
	unfirst, unsecond := inverse(first), inverse(second)
	for _, h := range words() {
		for _, x := range words() {
			turned := Step(h, x) - second.Uint64()
			both := (turned>>31 | turned<<33) * unfirst
			if both^h != x || both^x != h {
				t.Fatalf("Step(%#x, %#x) is undone to %#x and %#x", h, x, both^h, both^x)
			}
		}
		sum := End(h)
		sum = (sum ^ sum>>32) * unsecond
		if sum ^= sum >> 32; sum != h {
			t.Errorf("End(%#x) is undone to %#x", h, sum)
		}
	}
}

// P3.4.
func TestUnlikeOnesStayApart(t *testing.T) {
	l := words()
	ends := map[uint64]bool{}
	for _, h := range l {
		byWord, bySum := map[uint64]bool{}, map[uint64]bool{}
		for _, x := range l {
			byWord[Step(h, x)] = true
			bySum[Step(x, h)] = true
		}
		if len(byWord) != len(l) || len(bySum) != len(l) {
			t.Errorf("of %d unlike words from %#x, and unlike sums with it: %d and %d steps", len(l), h, len(byWord), len(bySum))
		}
		ends[End(h)] = true
	}
	if len(ends) != len(l) {
		t.Errorf("of %d unlike sums: %d ends", len(l), len(ends))
	}
	ends = map[uint64]bool{}
	for h := range uint64(1 << 16) {
		ends[End(h<<24)] = true
	}
	if len(ends) != 1<<16 {
		t.Errorf("of %d unlike sums: %d ends", 1<<16, len(ends))
	}
}

// P3.5.
func TestChunksMakeTheWhole(t *testing.T) {
	l := words()
	for _, s := range texts() {
		l = append(l, Text(9, s))
	}
	for _, h := range l {
		whole := new(big.Int)
		for level := 12; level >= 0; level-- {
			piece := Chunk(h, level)
			if piece < 0 || piece > 31 || level == 12 && piece > 15 {
				t.Errorf("Chunk(%#x, %d): %d", h, level, piece)
			}
			whole.Lsh(whole, 5)
			whole.Add(whole, big.NewInt(int64(piece)))
		}
		if whole.Cmp(wide(h)) != 0 {
			t.Errorf("the chunks of %#x make %#x", h, whole)
		}
		for level := range 13 {
			if piece := Chunk(Narrow(h, 5*level), level); piece != 0 {
				t.Errorf("of the lowest %d bits of %#x there is a chunk %d of level %d", 5*level, h, piece, level)
			}
		}
	}
}

// P1, R4: all is answered, and the same once more, whatever was asked between.
func TestTheSameOnceMore(t *testing.T) {
	type answers struct {
		step, end, two, none, text, low uint64
		piece                           int
	}
	ask := func(h, x uint64) answers {
		s := string(binary.BigEndian.AppendUint64(nil, h))
		return answers{Step(h, x), End(h), Words(h, x, h), Words(x), Text(x, s), Narrow(h, int(x)), Chunk(h, int(x))}
	}
	l := words()
	before := map[[2]uint64]answers{}
	for _, h := range l {
		for _, x := range l {
			before[[2]uint64{h, x}] = ask(h, x)
		}
	}
	for _, x := range l {
		for _, h := range l {
			if ask(h, x) != before[[2]uint64{h, x}] {
				t.Errorf("other answers of %#x and %#x", h, x)
			}
		}
	}
}

// Ways: words are handed on as a list of any length, and gone through by a range over a number.
func TestWays(t *testing.T) {
	file, err := parser.ParseFile(token.NewFileSet(), "mix.go", nil, 0)
	if err != nil {
		t.Fatal(err)
	}
	for _, d := range file.Decls {
		f, ok := d.(*ast.FuncDecl)
		if !ok || f.Name.Name != "Words" {
			continue
		}
		params := f.Type.Params.List
		if _, ok := params[len(params)-1].Type.(*ast.Ellipsis); !ok {
			t.Error("Words has no list of any length")
		}
		if !rangesOverLength(f) {
			t.Error("Words has no range over a number")
		}
		return
	}
	t.Error("there is no Words")
}

// rangesOverLength tells whether f has a range over how long something is.
func rangesOverLength(f *ast.FuncDecl) bool {
	found := false
	ast.Inspect(f, func(n ast.Node) bool {
		r, ok := n.(*ast.RangeStmt)
		if !ok {
			return true
		}
		c, ok := r.X.(*ast.CallExpr)
		if !ok {
			return true
		}
		name, ok := c.Fun.(*ast.Ident)
		found = found || ok && name.Name == "len"
		return true
	})
	return found
}
