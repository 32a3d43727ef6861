package tests

import (
	"encoding/binary"
	"math"
	"regexp"
	"slices"
	"strings"
	"testing"

	"loop.example/s01513/impl"
)

var nameForm = regexp.MustCompile(`\A[a-z]{1,12}\z`)
var importForm = regexp.MustCompile(`\A[a-z]{1,12}\.[a-z]{1,12}\z`)

// someModule is valid and has something of every kind.
func someModule() impl.Module {
	return impl.Module{
		Name:    "some",
		Text:    []int{0, 4294967295, 258},
		Banks:   [][]int{{16909060}, {1, 2}},
		Data:    []byte{1, 2, 3, 4, 5, 6, 7, 8, 9},
		Bss:     300,
		Relocs:  []int{0, 4},
		Imports: []string{"some.go", "other.thing"},
		Exports: []impl.Export{{Name: "go", Bank: -1, At: 2}, {Name: "b", Bank: 1, At: 1}, {Name: "a", Bank: 0, At: 0}},
	}
}

// letters gives a name of n letters that ends in a letter of its own.
func letters(n int, i int) string {
	return strings.Repeat("z", n-1) + string(rune('a'+i))
}

// fullModule is valid, and each of its parts is as great as it may be.
func fullModule(name string) impl.Module {
	m := impl.Module{Name: name, Text: make([]int, 200), Data: numbered(512, 11), Bss: 512}
	for i := range m.Text {
		m.Text[i] = 4294967295 - 16777259*i
	}
	for k := range 4 {
		bank := make([]int, 64)
		for i := range bank {
			bank[i] = 1<<24*k + 65793*i
		}
		m.Banks = append(m.Banks, bank)
	}
	for i := range 16 {
		m.Relocs = append(m.Relocs, 508-4*(15-i))
		m.Imports = append(m.Imports, name+"."+letters(12, i))
		m.Exports = append(m.Exports, impl.Export{Name: letters(12, i), Bank: i%5 - 1, At: 63 - i})
	}
	return m
}

func validModules() []impl.Module {
	return []impl.Module{
		{Name: "a"}, {Name: "abcdefghijkl", Bss: 512}, someModule(), fullModule("zzzzzzzzzzzz"),
		{Name: "z", Text: []int{}, Banks: [][]int{}, Data: []byte{}, Relocs: []int{}, Imports: []string{}, Exports: []impl.Export{}},
		{Name: "data", Data: numbered(4, 1), Relocs: []int{0}, Bss: 1},
		{Name: "banks", Banks: [][]int{{0}, make([]int, 64), {7}, {4294967295}}, Exports: []impl.Export{{Name: "x", Bank: 3}, {Name: "y", Bank: 1, At: 63}}},
	}
}

func cloneModule(m impl.Module) impl.Module {
	got := impl.Module{Name: m.Name, Bss: m.Bss}
	got.Text = append(got.Text, m.Text...)
	for _, b := range m.Banks {
		got.Banks = append(got.Banks, append([]int{}, b...))
	}
	got.Data = append(got.Data, m.Data...)
	got.Relocs = append(got.Relocs, m.Relocs...)
	got.Imports = append(got.Imports, m.Imports...)
	got.Exports = append(got.Exports, m.Exports...)
	return got
}

func cloneModules(mods []impl.Module) []impl.Module {
	var got []impl.Module
	for _, m := range mods {
		got = append(got, cloneModule(m))
	}
	return got
}

func sameModule(a impl.Module, b impl.Module) bool {
	return a.Name == b.Name && a.Bss == b.Bss && slices.Equal(a.Text, b.Text) && slices.EqualFunc(a.Banks, b.Banks, slices.Equal[[]int]) &&
		slices.Equal(a.Data, b.Data) && slices.Equal(a.Relocs, b.Relocs) && slices.Equal(a.Imports, b.Imports) && slices.Equal(a.Exports, b.Exports)
}

func sameModules(a []impl.Module, b []impl.Module) bool {
	return slices.EqualFunc(a, b, sameModule)
}

// badModule is a change by which someModule has one code and no other.
type badModule struct {
	what   string
	code   int
	change func(m *impl.Module)
}

// badList grows by changes that have a code.
type badList []badModule

func (b *badList) add(code int, what string, change func(m *impl.Module)) {
	*b = append(*b, badModule{what, code, change})
}

// badModules has a change for each edge of each code.
func badModules() []badModule {
	var all badList
	all.addNames()
	all.addCode()
	all.addData()
	all.addExports()
	return all
}

func (b *badList) addNames() {
	for _, name := range []string{"", "abcdefghijklm", strings.Repeat("a", 255), "Some", "som3", "so me", "some ", "so.me", "so\x00", "`", "{", "é", "a\xff", "_", "ａ"} {
		b.add(1, "name "+name, func(m *impl.Module) { m.Name = name })
		b.add(6, "export "+name, func(m *impl.Module) { m.Exports[1].Name = name })
	}
	b.add(5, "17 imports", func(m *impl.Module) { m.Imports = slices.Repeat([]string{"a.b"}, 17) })
	for _, s := range []string{"", ".", "ab", "a.", ".b", "a.b.c", "a..b", ".a.b", "a.b.", "A.b", "a.B", "a.b1", "a b.c", "a/b", "a.b ", "a,b", "a.\xff", "abcdefghijklm.b", "a.abcdefghijklm", "a.b\n"} {
		b.add(5, "import "+s, func(m *impl.Module) { m.Imports[1] = s })
	}
}

func (b *badList) addCode() {
	b.add(2, "text of 201", func(m *impl.Module) { m.Text = make([]int, 201) })
	b.add(2, "5 banks", func(m *impl.Module) { m.Banks = [][]int{{1}, {1, 1}, {1}, {1}, {1}} })
	b.add(2, "bank of 0", func(m *impl.Module) { m.Banks = append(m.Banks, []int{}) })
	b.add(2, "nil bank", func(m *impl.Module) { m.Banks = append(m.Banks, nil) })
	b.add(2, "bank of 65", func(m *impl.Module) { m.Banks[0] = make([]int, 65) })
	b.add(2, "last bank of 65", func(m *impl.Module) { m.Banks = [][]int{{1}, {1, 2}, {1}, make([]int, 65)} })
	for _, v := range []int{-1, 4294967296, math.MinInt, math.MaxInt} {
		b.add(2, "first word", func(m *impl.Module) { m.Text[0] = v })
		b.add(2, "last word", func(m *impl.Module) { m.Text[2] = v })
		b.add(2, "word of bank", func(m *impl.Module) { m.Banks[0][0] = v })
		b.add(2, "last word of last bank", func(m *impl.Module) { m.Banks[1][1] = v })
	}
}

func (b *badList) addData() {
	b.add(3, "data of 513", func(m *impl.Module) { m.Data = make([]byte, 513) })
	for _, v := range []int{-1, 513, math.MinInt, math.MaxInt, 65536} {
		b.add(3, "bss", func(m *impl.Module) { m.Bss = v })
	}
	b.add(4, "17 relocs", func(m *impl.Module) {
		m.Data = make([]byte, 512)
		m.Relocs = nil
		for i := range 17 {
			m.Relocs = append(m.Relocs, 4*i)
		}
	})
	for _, list := range [][]int{{0, 0}, {4, 4}, {4, 0}, {0, 4, 0}, {1}, {2}, {3}, {6}, {0, 5}, {8}, {0, 4, 8}, {12}, {-4}, {-4, 0}, {-1}, {math.MinInt}, {math.MaxInt}, {math.MaxInt - 3}} {
		b.add(4, "relocs", func(m *impl.Module) { m.Relocs = list })
	}
	for n := range 8 {
		b.add(4, "a reloc that ends behind the data", func(m *impl.Module) { m.Data, m.Relocs = make([]byte, n), []int{n / 4 * 4} })
	}
}

func (b *badList) addExports() {
	b.add(6, "17 exports", func(m *impl.Module) {
		m.Exports = nil
		for i := range 17 {
			m.Exports = append(m.Exports, impl.Export{Name: letters(2, i), Bank: 1, At: 1})
		}
	})
	b.add(6, "name twice", func(m *impl.Module) { m.Exports[2].Name = "go" })
	b.add(6, "name twice, elsewhere", func(m *impl.Module) { m.Exports[1] = impl.Export{Name: "a", Bank: 1, At: 0} })
	for _, e := range []impl.Export{
		{Bank: -1, At: 3}, {Bank: -1, At: -1}, {Bank: -1, At: math.MaxInt}, {Bank: -1, At: math.MinInt}, {Bank: 0, At: 1}, {Bank: 1, At: 2}, {Bank: 1, At: -1},
		{Bank: 2}, {Bank: 4}, {Bank: -2}, {Bank: math.MaxInt}, {Bank: math.MinInt}, {Bank: 254}, {Bank: 255},
	} {
		e.Name = "x"
		b.add(6, "export", func(m *impl.Module) { m.Exports[0] = e })
	}
	b.add(6, "export of an empty text", func(m *impl.Module) {
		m.Text = nil
		m.Exports = []impl.Export{{Name: "x", Bank: -1, At: 0}}
	})
}

func TestModuleOkOfValidModules(t *testing.T) {
	for i, m := range validModules() {
		if code := impl.ModuleOk(m); code != 0 {
			t.Errorf("module %d: %d", i, code)
		}
	}
	for i, change := range []func(m *impl.Module){
		func(m *impl.Module) { m.Text = slices.Repeat([]int{4294967295}, 200) },
		func(m *impl.Module) { m.Text = nil; m.Exports = nil },
		func(m *impl.Module) { m.Banks = [][]int{{1}, {1, 2}, {0}, make([]int, 64)} },
		func(m *impl.Module) { m.Banks = nil; m.Exports = m.Exports[:1] },
		func(m *impl.Module) { m.Data = make([]byte, 512) },
		func(m *impl.Module) { m.Data = nil; m.Relocs = nil },
		func(m *impl.Module) { m.Bss = 0 },
		func(m *impl.Module) { m.Bss = 512 },
		func(m *impl.Module) { m.Data = m.Data[:8] },
		func(m *impl.Module) { m.Relocs = []int{4} },
		func(m *impl.Module) { m.Imports = slices.Repeat([]string{"abcdefghijkl.abcdefghijkl"}, 16) },
		func(m *impl.Module) { m.Imports = []string{"a.b", "z.z"} },
		func(m *impl.Module) { m.Exports[0].At = 0 },
		func(m *impl.Module) { m.Exports[1] = impl.Export{Name: "abcdefghijkl", Bank: 0} },
	} {
		m := someModule()
		change(&m)
		if code := impl.ModuleOk(m); code != 0 {
			t.Errorf("change %d: %d", i, code)
		}
	}
}

// wantNoModule wants a code of a module, and that it has no bytes.
func wantNoModule(t *testing.T, m impl.Module, what string, code int) {
	t.Helper()
	before := cloneModule(m)
	if got := impl.ModuleOk(m); got != code {
		t.Errorf("%s: %d instead of %d", what, got, code)
	}
	if b := impl.EncodeModule(m); len(b) != 0 {
		t.Errorf("%s: it has %d bytes", what, len(b))
	}
	if !sameModule(m, before) {
		t.Errorf("%s: the argument is changed", what)
	}
}

func TestModuleOkOfEveryCode(t *testing.T) {
	for _, bad := range badModules() {
		m := someModule()
		bad.change(&m)
		wantNoModule(t, m, bad.what, bad.code)
	}
}

// TestModuleOkNamesTheFirstCode makes two changes that have different codes.
func TestModuleOkNamesTheFirstCode(t *testing.T) {
	for _, first := range badModules() {
		for _, second := range badModules() {
			if first.code < second.code && !(first.code == 2 && second.code == 6) && !(first.code == 3 && second.code == 4) {
				m := someModule()
				first.change(&m)
				second.change(&m)
				wantNoModule(t, m, first.what+" and "+second.what, first.code)
			}
		}
	}
	text := someModule()
	text.Text[0], text.Exports[0].Name = -1, ""
	wantNoModule(t, text, "word and export", 2)
	data := someModule()
	data.Bss, data.Relocs = 513, []int{1}
	wantNoModule(t, data, "bss and reloc", 3)
	data = someModule()
	data.Data, data.Relocs = make([]byte, 513), []int{2}
	wantNoModule(t, data, "data and reloc", 3)
	all := impl.Module{Text: []int{-1}, Bss: -1, Relocs: []int{1}, Imports: []string{"x"}, Exports: []impl.Export{{}}}
	for code := 1; code <= 6; code++ {
		wantNoModule(t, all, "all that is left", code)
		switch code {
		case 1:
			all.Name = "a"
		case 2:
			all.Text[0] = 1
		case 3:
			all.Bss = 1
		case 4:
			all.Relocs = nil
		case 5:
			all.Imports[0] = "x.x"
		}
	}
}

// bytesAsTold gives the bytes of any module whose numbers fit into them, valid or not.
func bytesAsTold(m impl.Module) []byte {
	count := binary.LittleEndian.AppendUint16
	b := []byte{88, 77, byte(len(m.Name))}
	b = append(b, m.Name...)
	words := func(list []int) {
		b = count(b, uint16(len(list)))
		for _, v := range list {
			b = binary.LittleEndian.AppendUint32(b, uint32(v))
		}
	}
	words(m.Text)
	b = append(b, byte(len(m.Banks)))
	for _, bank := range m.Banks {
		words(bank)
	}
	b = append(count(b, uint16(len(m.Data))), m.Data...)
	b = append(count(b, uint16(m.Bss)), byte(len(m.Relocs)))
	for _, at := range m.Relocs {
		b = count(b, uint16(at))
	}
	b = append(b, byte(len(m.Imports)))
	for _, s := range m.Imports {
		b = append(append(b, byte(len(s))), s...)
	}
	b = append(b, byte(len(m.Exports)))
	for _, e := range m.Exports {
		b = append(append(b, byte(len(e.Name))), e.Name...)
		b = count(append(b, byte(e.Bank+1)), uint16(e.At))
	}
	return b
}

// bytesHold says whether the numbers of a module fit into the bytes that tell them.
func bytesHold(m impl.Module) bool {
	fits := func(v int, end int) bool { return v >= 0 && v < end }
	ok := fits(m.Bss, 65536)
	for _, list := range append([][]int{m.Text}, m.Banks...) {
		for _, v := range list {
			ok = ok && fits(v, 1<<32)
		}
	}
	for _, at := range m.Relocs {
		ok = ok && fits(at, 65536)
	}
	for _, e := range m.Exports {
		ok = ok && fits(e.Bank+1, 256) && fits(e.At, 65536)
	}
	return ok
}

// codeAsTold gives the code of a module, the checks in the document's words.
func codeAsTold(m impl.Module) int {
	positions := map[int]int{-1: len(m.Text)}
	two := len(m.Text) > 200 || len(m.Banks) > 4
	for i, bank := range m.Banks {
		positions[i] = len(bank)
		two = two || len(bank) == 0 || len(bank) > 64
	}
	four := len(m.Relocs) > 16
	for i, at := range m.Relocs {
		four = four || at%4 != 0 || at < 0 || at > len(m.Data)-4 || i > 0 && m.Relocs[i-1] >= at
	}
	five := len(m.Imports) > 16
	for _, s := range m.Imports {
		five = five || !importForm.MatchString(s)
	}
	six := len(m.Exports) > 16
	seen := map[string]bool{}
	for _, e := range m.Exports {
		six = six || !nameForm.MatchString(e.Name) || seen[e.Name] || e.At >= positions[e.Bank] || e.At < 0
		seen[e.Name] = true
	}
	three := len(m.Data) > 512 || m.Bss > 512
	for i, bad := range []bool{!nameForm.MatchString(m.Name), two, three, four, five, six} {
		if bad {
			return i + 1
		}
	}
	return 0
}

// toldBytes is what is left to read, and whether all that was read was there.
type toldBytes struct {
	b    []byte
	ends bool
}

func (s *toldBytes) next(n int) []byte {
	if s.ends || n > len(s.b) {
		s.ends = true
		return make([]byte, n)
	}
	front := s.b[:n]
	s.b = s.b[n:]
	return front
}

func (s *toldBytes) small() int     { return int(s.next(1)[0]) }
func (s *toldBytes) count() int     { return int(binary.LittleEndian.Uint16(s.next(2))) }
func (s *toldBytes) letter() string { return string(s.next(s.small())) }

func (s *toldBytes) words() []int {
	list := make([]int, s.count())
	for i := range list {
		list[i] = int(binary.LittleEndian.Uint32(s.next(4)))
	}
	return list
}

// parseAsTold reads on behind the end, where zeros stand, and looks at the codes when all is read.
func parseAsTold(b []byte) (impl.Module, int) {
	if len(b) > 20000 {
		return impl.Module{}, 3
	}
	if !strings.HasPrefix(string(b), "XM") {
		return impl.Module{}, 1
	}
	s := &toldBytes{b: append([]byte{}, b[2:]...)}
	m := impl.Module{Name: s.letter(), Text: s.words()}
	for range s.small() {
		m.Banks = append(m.Banks, s.words())
	}
	m.Data = append(m.Data, s.next(s.count())...)
	m.Bss = s.count()
	for range s.small() {
		m.Relocs = append(m.Relocs, s.count())
	}
	for range s.small() {
		m.Imports = append(m.Imports, s.letter())
	}
	for range s.small() {
		m.Exports = append(m.Exports, impl.Export{Name: s.letter(), Bank: s.small() - 1, At: s.count()})
	}
	if s.ends {
		return impl.Module{}, 2
	}
	if len(s.b) > 0 {
		return impl.Module{}, 3
	}
	if code := codeAsTold(m); code != 0 {
		return impl.Module{}, 10 + code
	}
	return m, 0
}

// wantParsed holds ParseModule against the document's words, and takes only bytes that EncodeModule gives.
func wantParsed(t *testing.T, b []byte) {
	t.Helper()
	before := string(b)
	want, wantCode := parseAsTold(b)
	m, code := impl.ParseModule(b)
	if code != wantCode || !sameModule(m, want) {
		t.Fatalf("%q: %v, %d instead of %v, %d", b, m, code, want, wantCode)
	}
	if code != 0 && !isNothing(m) {
		t.Fatalf("%q: something beside code %d", b, code)
	}
	if code == 0 && string(impl.EncodeModule(m)) != before {
		t.Fatalf("%q: these are not the bytes of its module", b)
	}
	if string(b) != before {
		t.Fatalf("%q: the argument is changed", before)
	}
}

func wantCode(t *testing.T, b []byte, want int) {
	t.Helper()
	if m, code := impl.ParseModule(b); code != want || code != 0 && !isNothing(m) {
		t.Errorf("%d bytes: code %d instead of %d, module %q", len(b), code, want, m.Name)
	}
}

func TestModuleInPlainBytes(t *testing.T) {
	m := impl.Module{
		Name: "ab", Text: []int{16909060}, Banks: [][]int{{255}, {256, 4294967295}}, Data: []byte{9, 8, 7, 6}, Bss: 258, Relocs: []int{0},
		Imports: []string{"x.yz"}, Exports: []impl.Export{{Name: "t", Bank: -1, At: 0}, {Name: "uv", Bank: 1, At: 1}},
	}
	want := []byte{
		88, 77,
		2, 'a', 'b',
		1, 0, 4, 3, 2, 1,
		2, 1, 0, 255, 0, 0, 0, 2, 0, 0, 1, 0, 0, 255, 255, 255, 255,
		4, 0, 9, 8, 7, 6,
		2, 1,
		1, 0, 0,
		1, 4, 'x', '.', 'y', 'z',
		2, 1, 't', 0, 0, 0, 2, 'u', 'v', 2, 1, 0,
	}
	if got := impl.EncodeModule(m); !slices.Equal(got, want) {
		t.Errorf("%v", got)
	}
	if got, code := impl.ParseModule(want); code != 0 || !sameModule(got, m) {
		t.Errorf("%v %d", got, code)
	}
	least := []byte{88, 77, 1, 'a', 0, 0, 0, 0, 0, 0, 0, 0, 0, 0}
	if got := impl.EncodeModule(impl.Module{Name: "a"}); !slices.Equal(got, least) {
		t.Errorf("%v", got)
	}
	if got, code := impl.ParseModule(least); code != 0 || !sameModule(got, impl.Module{Name: "a"}) {
		t.Errorf("%v %d", got, code)
	}
}

// TestParseOfEncode is promise 6 for valid modules.
func TestParseOfEncode(t *testing.T) {
	for i, m := range validModules() {
		before := cloneModule(m)
		b := impl.EncodeModule(m)
		if !slices.Equal(b, bytesAsTold(m)) {
			t.Errorf("module %d: %v", i, b)
		}
		got, code := impl.ParseModule(b)
		if code != 0 || !sameModule(got, m) {
			t.Errorf("module %d: %v %d", i, got, code)
		}
		if !sameModule(m, before) {
			t.Errorf("module %d is changed", i)
		}
		wantNewMemory(t, b, m)
		wantNewMemory(t, got, b)
		clear(b)
		if !sameModule(got, before) {
			t.Errorf("module %d: its texts lie in the bytes", i)
		}
	}
}

func TestParseOfCutBytes(t *testing.T) {
	for _, m := range validModules() {
		b := impl.EncodeModule(m)
		for i := range b {
			want := 2
			if i < 2 {
				want = 1
			}
			wantCode(t, b[:i:i], want)
			wantCode(t, b[:i], want)
		}
		for _, more := range []int{1, 2, 100, 20000 - len(b)} {
			wantCode(t, append(slices.Clone(b), make([]byte, more)...), 3)
		}
		wantCode(t, append(slices.Clone(b), b...), 3)
	}
	wantCode(t, nil, 1)
	wantCode(t, []byte{}, 1)
}

// TestParseOfOtherMarks has bytes that would have every other code too.
func TestParseOfOtherMarks(t *testing.T) {
	b := impl.EncodeModule(someModule())
	for _, mark := range []string{"XN", "YM", "MX", "xm", "Xm", "\x00\x00", "X\x00"} {
		wantCode(t, append([]byte(mark), b[2:]...), 1)
		wantCode(t, append([]byte(mark), b...), 1)
		wantCode(t, []byte(mark), 1)
	}
	for _, short := range []string{"X", "M", "Y", "\x00"} {
		wantCode(t, []byte(short), 1)
	}
	wantCode(t, []byte("XM"), 2)
}

// longData gives the bytes of a module of n bytes in all whose only fault is its Data.
func longData(n int) []byte {
	m := impl.Module{Name: "a", Data: make([]byte, n-14)}
	return bytesAsTold(m)
}

func TestParseOfManyBytes(t *testing.T) {
	if len(longData(20000)) != 20000 || len(longData(20001)) != 20001 {
		t.Fatal("other lengths")
	}
	wantCode(t, longData(526), 0)
	wantCode(t, longData(527), 13)
	wantCode(t, longData(20000), 13)
	wantCode(t, longData(20001), 3)
	wantCode(t, make([]byte, 20000), 1)
	wantCode(t, make([]byte, 20001), 3)
	ends := append([]byte("XM\x01a\xff\xff"), make([]byte, 20000)...)
	wantCode(t, ends[:20000], 2)
	wantCode(t, ends[:20001], 3)
	whole := append(impl.EncodeModule(someModule()), make([]byte, 20000)...)
	wantCode(t, whole[:20000], 3)
	wantCode(t, whole[:20001], 3)
	wantCode(t, make([]byte, 1000000), 3)
}

// TestParseOfModulesThatAreNotValid has the codes of ModuleOk, behind those of the bytes.
func TestParseOfModulesThatAreNotValid(t *testing.T) {
	codes := map[int]int{}
	for _, bad := range badModules() {
		m := someModule()
		bad.change(&m)
		if !bytesHold(m) {
			continue
		}
		codes[bad.code]++
		b := bytesAsTold(m)
		wantCode(t, b, 10+bad.code)
		wantCode(t, b[:len(b)-1], 2)
		wantCode(t, append(b, 0), 3)
	}
	for code := 1; code <= 6; code++ {
		if codes[code] == 0 {
			t.Errorf("no bytes of a module with code %d", code)
		}
	}
}

// TestParseOfTheMostThatBytesTell has counts that are far above what a module may have.
func TestParseOfTheMostThatBytesTell(t *testing.T) {
	long := strings.Repeat("a", 255)
	m := impl.Module{Name: "a", Banks: make([][]int, 255), Relocs: make([]int, 255), Bss: 65535}
	for range 255 {
		m.Imports = append(m.Imports, "a.b")
		m.Exports = append(m.Exports, impl.Export{Name: "b", Bank: 254, At: 65535})
	}
	wantCode(t, bytesAsTold(m), 12)
	m.Name = long
	wantCode(t, bytesAsTold(m), 11)
	m.Name, m.Banks = "a", nil
	wantCode(t, bytesAsTold(m), 13)
	m.Bss = 0
	wantCode(t, bytesAsTold(m), 14)
	m.Relocs = nil
	wantCode(t, bytesAsTold(m), 15)
	m.Imports = nil
	wantCode(t, bytesAsTold(m), 16)
	m.Exports = m.Exports[:1]
	wantCode(t, bytesAsTold(m), 16)
	m.Exports = nil
	wantCode(t, bytesAsTold(m), 0)
}

// TestParseOfChangedBytes puts every byte in every place of a module, and takes every byte out.
func TestParseOfChangedBytes(t *testing.T) {
	for _, m := range []impl.Module{someModule(), {Name: "a"}, validModules()[5]} {
		b := impl.EncodeModule(m)
		for i := range b {
			old := b[i]
			for v := range 256 {
				b[i] = byte(v)
				wantParsed(t, b)
			}
			b[i] = old
			wantParsed(t, slices.Delete(slices.Clone(b), i, i+1))
			wantParsed(t, slices.Insert(slices.Clone(b), i, 1))
		}
	}
}

// dice gives numbers below n by a rule of its own, the same ones each time.
type dice uint32

func (d *dice) below(n int) int {
	*d = *d*1664525 + 1013904223
	return int(*d>>8) % n
}

// word gives a word, now and then at the ends.
func (d *dice) word() int {
	return []int{0, 1, 4294967295, d.below(1<<16)<<16 + d.below(1<<16)}[d.below(4)]
}

// rolled gives up to n elements.
func rolled[T any](d *dice, n int, one func(i int) T) []T {
	var list []T
	for i := range d.below(n + 1) {
		list = append(list, one(i))
	}
	return list
}

// module gives a module that is valid, of that name, with imports of others of these names.
func (d *dice) module(name string, names ...string) impl.Module {
	word := func(int) int { return d.word() }
	m := impl.Module{Name: name, Text: rolled(d, 20, word), Bss: d.below(80)}
	m.Banks = rolled(d, 4, func(int) []int { return append(rolled(d, 15, word), d.word()) })
	m.Data = rolled(d, 70, func(int) byte { return byte(d.below(256)) })
	m.Relocs = rolled(d, len(m.Data)/4/2, func(i int) int { return 4 * (2*i + d.below(2)) })
	m.Imports = rolled(d, 3, func(int) string { return names[d.below(len(names))] + "." + letters(1, d.below(2)) })
	for i := range 2 {
		bank := d.below(len(m.Banks)+1) - 1
		length := len(m.Text)
		if bank >= 0 {
			length = len(m.Banks[bank])
		}
		if length > 0 {
			m.Exports = append(m.Exports, impl.Export{Name: letters(1, i), Bank: bank, At: d.below(length)})
		}
	}
	return m
}

// TestParseOfAnyBytes makes modules, and bytes of which some are others.
func TestParseOfAnyBytes(t *testing.T) {
	d := new(dice)
	codes := map[int]int{}
	for range 20000 {
		m := d.module("a", "a", "b")
		b := bytesAsTold(m)
		if got := impl.EncodeModule(m); !slices.Equal(got, b) {
			t.Fatalf("%v: %v", m, got)
		}
		wantParsed(t, b)
		for range d.below(3) {
			b[2+d.below(len(b)-2)] = byte(d.below(5))
		}
		b = append(b, make([]byte, d.below(4)*d.below(2))...)
		wantParsed(t, b)
		_, code := impl.ParseModule(b)
		codes[code]++
	}
	for _, code := range []int{0, 2, 3, 11, 12, 14, 15, 16} {
		if codes[code] == 0 {
			t.Errorf("no bytes with code %d: %v", code, codes)
		}
	}
}

// TestParsedListsTakeMore puts elements behind the lists of an answer, which no other list may see.
func TestParsedListsTakeMore(t *testing.T) {
	b := impl.EncodeModule(someModule())
	m, _ := impl.ParseModule(b)
	for i := range m.Banks {
		_ = append(m.Banks[i], 99, 99, 99)
	}
	_ = append(m.Text, 99, 99, 99)
	_ = append(m.Data, 99, 99, 99)
	_ = append(m.Relocs, 99, 99, 99)
	if !sameModule(m, someModule()) || string(b) != string(impl.EncodeModule(someModule())) {
		t.Errorf("%v", m)
	}
}
