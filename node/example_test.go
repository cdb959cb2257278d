package node_test

import (
	"fmt"

	"purser/api"
	"purser/disk"
	"purser/explorer"
	"purser/node"
)

// The example of README.md.
func Example() {
	params := api.Params{
		Limit: 0x207FFFFF, Every: 2016, Span: 1209600, Subsidy: 5000000000, Halving: 210000,
		Maturity: 100, Depth: 10, Extra: 20, Time: 1231006505,
	}
	d, _ := disk.New(1 << 20)
	n, e := node.Open(d, params, 4096)
	fmt.Println("open:", e)

	command, _ := explorer.Encode(api.Request{Kind: api.AskInfo, Height: 0})
	e, data, _ := node.Parse(n.Do(command))
	fmt.Println("info:", e, len(data), "bytes")

	d.Fall(api.Fall{})
	e, _, _ = node.Parse(n.Do([]byte{api.AskCheck}))
	fmt.Println("checkpoint on a disk that is down:", e == api.ErrDown, n.Shut())

	d.Boot()
	n, e = node.Open(d, params, 4096)
	fmt.Println("open again:", e, n.Count(), "group")
	// Output:
	// open: 0
	// info: 0 64 bytes
	// checkpoint on a disk that is down: true true
	// open again: 0 1 group
}
