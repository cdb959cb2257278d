package disk_test

import (
	"bytes"
	"math"
	"math/rand"
	"slices"
	"strings"
	"testing"

	"purser/api"
	"purser/disk"
)

func newDisk(t *testing.T, room int) *disk.Disk {
	t.Helper()
	d, e := disk.New(room)
	if e != api.OK {
		t.Fatal(e)
	}
	return d
}

// expect fails unless every error is OK.
func expect(t *testing.T, l ...api.Errno) {
	t.Helper()
	for i, e := range l {
		if e != api.OK {
			t.Errorf("call %d: %d", i, e)
		}
	}
}

func content(t *testing.T, d *disk.Disk, name string) string {
	t.Helper()
	n, e := d.Size(name)
	if e != api.OK {
		t.Fatal(name, e)
	}
	b, e := d.Read(name, 0, n)
	if e != api.OK {
		t.Fatal(name, e)
	}
	return string(b)
}

// files returns a disk with files of durable bytes and bytes that are not durable, as in "durable+more".
func files(t *testing.T, all map[string]string) *disk.Disk {
	t.Helper()
	d := newDisk(t, 1000)
	for name, text := range all {
		durable, more, _ := strings.Cut(text, "+")
		expect(t, d.Create(name), d.Append(name, []byte(durable)), d.Sync(name), d.Append(name, []byte(more)))
	}
	return d
}

// P15.1
func TestNew(t *testing.T) {
	for _, room := range []int{0, 1, 1 << 26} {
		d, e := disk.New(room)
		if e != api.OK || d.Left() != room || !d.Up() || len(d.Names()) != 0 || d.Operations() != 0 {
			t.Error(room, e)
		}
	}
	for _, room := range []int{-1, 1<<26 + 1, math.MaxInt, math.MinInt} {
		if d, e := disk.New(room); d != nil || e != api.ErrArg {
			t.Error(room, e)
		}
	}
}

// The chapter's examples.
func TestExamples(t *testing.T) {
	d := newDisk(t, 4)
	expect(t, d.Create("a"), d.Append("a", []byte("abc")))
	if e := d.Append("a", []byte("de")); e != api.ErrFull || d.Left() != 1 {
		t.Error(e, d.Left())
	}
	expect(t, d.Sync("a"), d.Append("a", []byte("d")), d.Fall(api.Fall{}))
	if n, e := d.Size("a"); n != 0 || e != api.ErrDown {
		t.Error(n, e)
	}
	expect(t, d.Boot())
	if content(t, d, "a") != "abc" {
		t.Error(content(t, d, "a"))
	}
	if d.Create("A") != api.ErrDisk || d.Truncate("a", 9) != api.ErrDisk {
		t.Error("a wrong name, or a wrong length")
	}
	if b, e := d.Read("b", 0, 0); b != nil || e != api.ErrNone {
		t.Error(b, e)
	}
}

// P15.2
func TestNamesOfFiles(t *testing.T) {
	good := []string{"a", "z", "0", "9", ".", "-", "..", "seg.1", "manifest.new", strings.Repeat("x", 20)}
	for _, name := range good {
		d := newDisk(t, 100)
		expect(t, d.Create(name))
		if e := d.Create(name); e != api.ErrDisk || d.Operations() != 1 {
			t.Error("twice", name, e)
		}
		expect(t, d.Rename(name, "other"), d.Rename("other", name))
	}
	for _, name := range []string{"", "A", "_", "/", "a b", "a\n", "`", "{", ":", ",", "é", "a\x00", strings.Repeat("x", 21)} {
		d := newDisk(t, 100)
		expect(t, d.Create("other"))
		if e := d.Create(name); e != api.ErrDisk {
			t.Errorf("Create(%q): %d", name, e)
		}
		if e := d.Rename("other", name); e != api.ErrDisk {
			t.Errorf("Rename to %q: %d", name, e)
		}
		if !slices.Equal(d.Names(), []string{"other"}) || d.Operations() != 1 {
			t.Error(d.Names(), d.Operations())
		}
	}
}

// P15.2
func TestMissingFiles(t *testing.T) {
	d := newDisk(t, 0)
	for i, e := range []api.Errno{
		d.Append("a", []byte("too much")), d.Sync("a"), d.Truncate("a", -1), d.Rename("a", "A"), d.Rename("a", "a"), d.Remove("a"),
	} {
		if e != api.ErrNone {
			t.Error(i, e)
		}
	}
	if n, e := d.Size("a"); n != 0 || e != api.ErrNone {
		t.Error(n, e)
	}
	if b, e := d.Read("a", -1, -1); b != nil || e != api.ErrNone {
		t.Error(b, e)
	}
	if d.Operations() != 0 {
		t.Error("what failed is counted")
	}
}

// P15.2, P15.3
func TestAppendAndTruncate(t *testing.T) {
	d := newDisk(t, 10)
	expect(t, d.Create("a"), d.Create("b"), d.Append("a", []byte("abcdef")), d.Append("b", nil), d.Append("b", []byte("xyz")))
	if d.Left() != 1 || d.Operations() != 5 {
		t.Error(d.Left(), d.Operations())
	}
	if e := d.Append("b", []byte("12")); e != api.ErrFull || content(t, d, "b") != "xyz" {
		t.Error(e)
	}
	expect(t, d.Append("b", []byte("1")), d.Append("b", nil))
	if d.Left() != 0 || content(t, d, "b") != "xyz1" {
		t.Error(d.Left(), content(t, d, "b"))
	}
	for _, n := range []int{-1, 7, math.MaxInt, math.MinInt} {
		if e := d.Truncate("a", n); e != api.ErrDisk || content(t, d, "a") != "abcdef" {
			t.Error(n, e)
		}
	}
	expect(t, d.Truncate("a", 6), d.Truncate("a", 2))
	if d.Left() != 4 || content(t, d, "a") != "ab" || d.Operations() != 9 {
		t.Error(d.Left(), content(t, d, "a"), d.Operations())
	}
	expect(t, d.Append("a", []byte("XY")), d.Truncate("b", 0))
	if content(t, d, "a") != "abXY" || content(t, d, "b") != "" || d.Left() != 6 {
		t.Error(content(t, d, "a"), d.Left())
	}
}

// P15.2, P15.3
func TestRenameAndRemove(t *testing.T) {
	d := files(t, map[string]string{"a": "aa", "b": "bbb", "c": "cccc"})
	expect(t, d.Rename("a", "b"))
	if !slices.Equal(d.Names(), []string{"b", "c"}) || content(t, d, "b") != "aa" || d.Left() != 994 {
		t.Error(d.Names(), d.Left())
	}
	before := d.Operations()
	expect(t, d.Rename("b", "b"))
	if !slices.Equal(d.Names(), []string{"b", "c"}) || content(t, d, "b") != "aa" || d.Operations() != before+1 {
		t.Error("one name", d.Names(), d.Operations())
	}
	expect(t, d.Remove("c"))
	if !slices.Equal(d.Names(), []string{"b"}) || d.Left() != 998 {
		t.Error(d.Names(), d.Left())
	}
	expect(t, d.Create("c"))
	if content(t, d, "c") != "" {
		t.Error("a new file is not empty")
	}
}

// P15.3
func TestRead(t *testing.T) {
	d := files(t, map[string]string{"a": "abcdef"})
	for _, c := range []struct {
		at, n int
		want  string
		e     api.Errno
	}{
		{0, 6, "abcdef", api.OK}, {2, 3, "cde", api.OK}, {6, 0, "", api.OK}, {0, 0, "", api.OK},
		{0, 7, "", api.ErrDisk}, {6, 1, "", api.ErrDisk}, {7, 0, "", api.ErrDisk}, {-1, 2, "", api.ErrDisk}, {2, -1, "", api.ErrDisk},
		{1, math.MaxInt, "", api.ErrDisk}, {math.MaxInt, math.MaxInt, "", api.ErrDisk}, {math.MaxInt, 1, "", api.ErrDisk},
	} {
		if b, e := d.Read("a", c.at, c.n); string(b) != c.want || e != c.e {
			t.Errorf("Read %d at %d: %q, %d", c.n, c.at, b, e)
		}
	}
	if n := d.Operations(); n != 4 {
		t.Error("reading is counted", n)
	}
	d = files(t, map[string]string{"b": "", "a-": "", "a": "", "a.": "", "0": "", "z": "", "ab": ""})
	if !slices.Equal(d.Names(), []string{"0", "a", "a-", "a.", "ab", "b", "z"}) {
		t.Error(d.Names())
	}
}

// P15.2: while the disk is down
func TestDown(t *testing.T) {
	d := files(t, map[string]string{"a": "abc"})
	expect(t, d.Fall(api.Fall{}))
	for i, e := range []api.Errno{
		d.Create("A"), d.Create("b"), d.Append("b", make([]byte, 2000)), d.Sync("b"), d.Truncate("a", -1), d.Rename("b", ""), d.Remove("b"),
	} {
		if e != api.ErrDown {
			t.Error(i, e)
		}
	}
	if b, e := d.Read("a", -1, 0); b != nil || e != api.ErrDown {
		t.Error(b, e)
	}
	if n, e := d.Size("b"); n != 0 || e != api.ErrDown {
		t.Error(n, e)
	}
	if d.Names() != nil || d.Left() != 0 || d.Operations() != 0 || d.Up() {
		t.Error("something is told while the disk is down")
	}
	expect(t, d.Arm(api.Fall{At: 1}), d.Fall(api.Fall{}), d.Boot(), d.Boot())
	if !d.Up() || !slices.Equal(d.Names(), []string{"a"}) || d.Left() != 997 || d.Operations() != 4 {
		t.Error(d.Names(), d.Left(), d.Operations())
	}
	expect(t, d.Sync("a"))
}

// P15.4: what survives
func TestFall(t *testing.T) {
	all := map[string]string{"a": "aa+12345678", "b": "+abcdef", "c": "cc", "d": "dd+ABCDEF"}
	for name, c := range map[string]struct {
		f          api.Fall
		a, b, c, d string
	}{
		"nothing":       {api.Fall{}, "aa", "", "cc", "dd"},
		"some":          {api.Fall{Keep: []int{3, 2}}, "aa123", "ab", "cc", "dd"},
		"of the last":   {api.Fall{Keep: []int{0, 0, 0, 1}}, "aa", "", "cc", "ddA"},
		"all":           {api.Fall{Keep: []int{8, 6, 0, 6, 7}}, "aa12345678", "abcdef", "cc", "ddABCDEF"},
		"more than all": {api.Fall{Keep: []int{math.MaxInt, 7, 9, 1 << 40}}, "aa12345678", "abcdef", "cc", "ddABCDEF"},
		"negative":      {api.Fall{Keep: []int{-1, 2, -9, math.MinInt}}, "aa", "ab", "cc", "dd"},
		"damage":        {api.Fall{Keep: []int{8}, Bits: 0x08040201}, "aa\x30\x30\x37\x3c5678", "", "cc", "dd"},
		"further on":    {api.Fall{Keep: []int{8}, Place: 3, Bits: 0x08040201}, "aa123\x35\x37\x32\x3f8", "", "cc", "dd"},
		"at the end":    {api.Fall{Keep: []int{8}, Place: 6, Bits: 0x01010101}, "aa123456\x36\x39", "", "cc", "dd"},
		"what is lost":  {api.Fall{Keep: []int{2}, Place: 1, Bits: 0x01010101}, "aa1\x33", "", "cc", "dd"},
		"beyond it":     {api.Fall{Keep: []int{8}, Place: 8, Bits: 0x01010101}, "aa12345678", "", "cc", "dd"},
		"far beyond":    {api.Fall{Keep: []int{8}, Place: math.MaxInt - 1, Bits: 0x01010101}, "aa12345678", "", "cc", "dd"},
		"ahead":         {api.Fall{Keep: []int{8}, Place: -2, Bits: 0x01020304}, "aa\x33\x33345678", "", "cc", "dd"},
		"far ahead":     {api.Fall{Keep: []int{8}, Place: math.MinInt, Bits: 0x01010101}, "aa12345678", "", "cc", "dd"},
		"another file":  {api.Fall{Keep: []int{1, 2, 0, 3}, File: 3, Place: 1, Bits: 0x2020}, "aa1", "ab", "cc", "ddAbc"},
		"durable bytes": {api.Fall{Keep: []int{1, 2, 0, 3}, File: 2, Bits: 0xFFFFFFFF}, "aa1", "ab", "cc", "ddABC"},
		"no file":       {api.Fall{Keep: []int{1}, File: 4, Bits: 0xFFFFFFFF}, "aa1", "", "cc", "dd"},
		"no file -1":    {api.Fall{Keep: []int{1}, File: -1, Bits: 0xFFFFFFFF}, "aa1", "", "cc", "dd"},
		"At and Done":   {api.Fall{At: 5, Done: true, Keep: []int{1}}, "aa1", "", "cc", "dd"},
	} {
		d := files(t, all)
		expect(t, d.Fall(c.f))
		if d.Up() {
			t.Error(name, "is up")
		}
		expect(t, d.Boot())
		for i, want := range []string{c.a, c.b, c.c, c.d} {
			if got := content(t, d, string(rune('a'+i))); got != want {
				t.Errorf("%s: file %d is %q, not %q", name, i, got, want)
			}
		}
		if d.Left() != 1000-len(c.a+c.b+c.c+c.d) {
			t.Error(name, d.Left())
		}
		expect(t, d.Fall(api.Fall{Bits: 0xFFFFFFFF}), d.Boot())
		if content(t, d, "a") != c.a || content(t, d, "b") != c.b {
			t.Error(name, "was not durable")
		}
	}
}

// P15.6: the floor
func TestFloor(t *testing.T) {
	for name, c := range map[string]struct {
		do   func(d *disk.Disk) api.Errno
		want string
	}{
		"as it was":      {func(d *disk.Disk) api.Errno { return api.OK }, "abc"},
		"appended":       {func(d *disk.Disk) api.Errno { return d.Append("a", []byte("x")) }, "abc"},
		"synced":         {func(d *disk.Disk) api.Errno { return d.Sync("a") }, "abcdef"},
		"cut above it":   {func(d *disk.Disk) api.Errno { return d.Truncate("a", 5) }, "abc"},
		"cut at it":      {func(d *disk.Disk) api.Errno { return d.Truncate("a", 3) }, "abc"},
		"cut below it":   {func(d *disk.Disk) api.Errno { return d.Truncate("a", 2) }, "ab"},
		"cut, then more": {func(d *disk.Disk) api.Errno { d.Truncate("a", 1); return d.Append("a", []byte("xyz")) }, "a"},
		"cut and synced": {func(d *disk.Disk) api.Errno { d.Truncate("a", 1); d.Append("a", []byte("xyz")); return d.Sync("a") }, "axyz"},
	} {
		d := files(t, map[string]string{"a": "abc+def"})
		expect(t, c.do(d), d.Fall(api.Fall{}), d.Boot())
		if got := content(t, d, "a"); got != c.want {
			t.Error(name, got)
		}
	}
	d := files(t, map[string]string{"a": "abc+def", "b": "12345"})
	expect(t, d.Rename("a", "b"), d.Fall(api.Fall{}), d.Boot())
	if got := content(t, d, "b"); got != "abc" {
		t.Error("a renamed file keeps its floor", got)
	}
}

// P15.4: armed crashes
func TestArm(t *testing.T) {
	operations := map[string]struct {
		do           func(d *disk.Disk) api.Errno
		names        []string
		text         string // of a, if the effect shows
		always, lost bool   // the effect shows whatever Done is, or never
	}{
		"create":   {func(d *disk.Disk) api.Errno { return d.Create("b") }, []string{"a", "b"}, "abcde", false, false},
		"append":   {func(d *disk.Disk) api.Errno { return d.Append("a", []byte("xy")) }, []string{"a"}, "abcdexy", true, false},
		"sync":     {func(d *disk.Disk) api.Errno { return d.Sync("a") }, []string{"a"}, "abcde", false, true},
		"truncate": {func(d *disk.Disk) api.Errno { return d.Truncate("a", 1) }, []string{"a"}, "a", false, false},
		"rename":   {func(d *disk.Disk) api.Errno { return d.Rename("a", "c") }, []string{"c"}, "abcde", false, false},
		"remove":   {func(d *disk.Disk) api.Errno { return d.Remove("a") }, nil, "", false, false},
	}
	for name, c := range operations {
		for _, done := range []bool{false, true} {
			for at := 1; at <= 3; at++ {
				d := files(t, map[string]string{"a": "abc+de"})
				expect(t, d.Arm(api.Fall{At: at, Keep: []int{9}, Done: done}))
				for range at - 1 {
					expect(t, d.Append("a", nil))
				}
				before := d.Operations()
				if e := c.do(d); e != api.ErrDown || d.Up() {
					t.Error(name, at, done, e)
				}
				expect(t, d.Boot())
				if d.Operations() != before+1 {
					t.Error(name, "is not counted")
				}
				names, text := []string{"a"}, "abcde"
				if c.always || done && !c.lost {
					names, text = c.names, c.text
				}
				if !slices.Equal(d.Names(), names) {
					t.Error(name, at, done, d.Names())
				} else if len(names) > 0 && names[0] != "b" && content(t, d, names[0]) != text {
					t.Error(name, at, done, content(t, d, names[0]))
				}
				expect(t, d.Create("e"), d.Create("f"), d.Create("g"), d.Create("h"))
			}
		}
	}
}

// P15.4: a crash at Sync loses what would have been synced
func TestCrashAtSync(t *testing.T) {
	d := files(t, map[string]string{"a": "abc+de"})
	expect(t, d.Arm(api.Fall{At: 1, Keep: []int{1}, Done: true}))
	if e := d.Sync("a"); e != api.ErrDown {
		t.Error(e)
	}
	expect(t, d.Boot())
	if got := content(t, d, "a"); got != "abcd" {
		t.Error(got)
	}
}

// P15.4
func TestArmAndFallAgain(t *testing.T) {
	d := files(t, map[string]string{"a": "abc"})
	for _, at := range []int{0, -1, math.MinInt} {
		if e := d.Arm(api.Fall{At: at}); e != api.ErrArg {
			t.Error(at, e)
		}
	}
	expect(t, d.Arm(api.Fall{At: 1}), d.Arm(api.Fall{At: 2}), d.Sync("a"))
	if e := d.Arm(api.Fall{At: 0}); e != api.ErrArg {
		t.Error(e)
	}
	if e := d.Sync("a"); e != api.ErrDown {
		t.Error("a later Arm replaces an earlier one", e)
	}
	expect(t, d.Boot(), d.Arm(api.Fall{At: 1}), d.Fall(api.Fall{}), d.Boot())
	expect(t, d.Sync("a"), d.Sync("a"))
	expect(t, d.Arm(api.Fall{At: 2}))
	d.Append("a", make([]byte, 5000))
	d.Sync("none")
	d.Create("A")
	d.Truncate("a", 99)
	expect(t, d.Sync("a"))
	if e := d.Sync("a"); e != api.ErrDown {
		t.Error("only operations are counted", e)
	}
	expect(t, d.Arm(api.Fall{At: 1}))
	d.Sync("a")
	expect(t, d.Boot())
	if e := d.Sync("a"); e != api.ErrDown {
		t.Error("a crash armed while the disk was down", e)
	}
}

// P15.4
func TestCopy(t *testing.T) {
	d := files(t, map[string]string{"a": "abc+de"})
	expect(t, d.Arm(api.Fall{At: 3, Keep: []int{1}}))
	c := d.Copy()
	if c.Left() != 995 || c.Operations() != 4 || !c.Up() || content(t, c, "a") != "abcde" {
		t.Error("a copy is another one")
	}
	for _, x := range []*disk.Disk{d, c} {
		expect(t, x.Append("a", []byte("f")), x.Create("b"))
		if e := x.Append("a", []byte("g")); e != api.ErrDown {
			t.Error(e)
		}
	}
	if down := d.Copy(); down.Up() {
		t.Error("a copy of one that is down is up")
	}
	expect(t, d.Boot())
	if c.Up() {
		t.Error("a copy is not independent")
	}
	expect(t, c.Boot())
	if content(t, d, "a") != "abcd" || content(t, c, "a") != "abcd" || !slices.Equal(c.Names(), []string{"a", "b"}) {
		t.Error(content(t, d, "a"), content(t, c, "a"), c.Names())
	}
	expect(t, d.Truncate("a", 1), d.Append("a", []byte("xyz")), d.Create("z"))
	if content(t, c, "a") != "abcd" || len(c.Names()) != 2 || c.Operations() != 7 {
		t.Error("a copy shares files", content(t, c, "a"), c.Names())
	}
	expect(t, d.Fall(api.Fall{Keep: []int{3}, Bits: 0xFFFFFF}))
	if content(t, c, "a") != "abcd" {
		t.Error("a copy shares bytes")
	}
}

func TestNoDisk(t *testing.T) {
	for _, d := range []*disk.Disk{nil, {}} {
		for i, e := range []api.Errno{
			d.Create("a"), d.Append("a", nil), d.Sync("a"), d.Truncate("a", 0), d.Rename("a", "b"), d.Remove("a"), d.Arm(api.Fall{}), d.Fall(api.Fall{}), d.Boot(),
		} {
			if e != api.ErrNil {
				t.Error(i, e)
			}
		}
		if b, e := d.Read("a", 0, 0); b != nil || e != api.ErrNil {
			t.Error(b, e)
		}
		if n, e := d.Size("a"); n != 0 || e != api.ErrNil {
			t.Error(n, e)
		}
		if d.Names() != nil || d.Left() != 0 || d.Operations() != 0 || d.Up() || d.Copy() != nil {
			t.Error("no disk tells something")
		}
	}
}

// P15.5
func TestNothingIsShared(t *testing.T) {
	d := newDisk(t, 100)
	b := []byte("abc")
	expect(t, d.Create("a"), d.Append("a", b))
	b[0] = 'x'
	read, _ := d.Read("a", 0, 2)
	read = append(read, "yyyy"...)
	read[0] = 'y'
	keep := []int{2}
	expect(t, d.Arm(api.Fall{At: 1, Keep: keep}))
	keep[0] = 0
	d.Sync("a")
	d.Boot()
	if content(t, d, "a") != "ab" {
		t.Error(content(t, d, "a"))
	}
}

// P15.6: what was synced survives; behind it a prefix survives, but for four bytes
func TestRandomCrashes(t *testing.T) {
	r := rand.New(rand.NewSource(1))
	for range 500 {
		d := newDisk(t, 10000)
		durable, written := map[string][]byte{}, map[string][]byte{}
		for _, name := range []string{"a", "b", "c"} {
			expect(t, d.Create(name))
		}
		for range r.Intn(30) {
			name := string(rune('a' + r.Intn(3)))
			switch r.Intn(4) {
			case 0:
				expect(t, d.Sync(name))
				durable[name] = slices.Clone(written[name])
			case 1:
				n := r.Intn(len(written[name]) + 1)
				expect(t, d.Truncate(name, n))
				written[name] = written[name][:n]
				durable[name] = durable[name][:min(n, len(durable[name]))]
			default:
				b := make([]byte, r.Intn(20))
				r.Read(b)
				expect(t, d.Append(name, b))
				written[name] = append(written[name], b...)
			}
		}
		place := r.Intn(20) - 4
		keep := []int{r.Intn(30), r.Intn(30), r.Intn(30)}
		expect(t, d.Fall(api.Fall{Keep: keep, File: r.Intn(4), Place: place, Bits: r.Uint32()}), d.Boot())
		for i, name := range []string{"a", "b", "c"} {
			got := []byte(content(t, d, name))
			floor := len(durable[name])
			if want := min(len(written[name]), floor+keep[i]); len(got) != want || !bytes.Equal(got[:floor], durable[name]) {
				t.Fatal(name, got, durable[name], written[name])
			}
			for j := floor; j < len(got); j++ {
				if damaged := j-floor >= place && j-floor < place+4; !damaged && got[j] != written[name][j] {
					t.Fatal(name, j, got, written[name])
				}
			}
		}
	}
}
