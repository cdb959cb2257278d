import Derived.Test.YtfopajklnakmpaaBfF
namespace Go.Eng
open Go
abbrev k_tx_Id:Nat:=29
abbrev k_tx_Copy:Nat:=33
abbrev k_slices_Clone_api_In_api_In:Nat:=78
abbrev k_slices_Clone_api_Out_api_Out:Nat:=79
abbrev k_bytes_Clone:Nat:=80
def f_tx_Id:Fn:=⟨17,[.cell 2 (some 32),.tmp 3],
 .seq (.ops [⟨(some 1),.box (.t 0),none⟩,
 ⟨(some 2),.alloc [(.int .u8 0),(.int .u8 0),(.int .u8 0),(.int .u8 0),(.int .u8 0),(.int .u8 0),(.int .u8 0),(.int .u8 0),(.int .u8 0),(.int .u8 0),(.int .u8 0),(.int .u8 0),(.int .u8 0),(.int .u8 0),(.int .u8 0),(.int .u8 0),(.int .u8 0),(.int .u8 0),(.int .u8 0),(.int .u8 0),(.int .u8 0),(.int .u8 0),(.int .u8 0),(.int .u8 0),(.int .u8 0),(.int .u8 0),(.int .u8 0),(.int .u8 0),(.int .u8 0),(.int .u8 0),(.int .u8 0),(.int .u8 0)],none⟩,
 ⟨(some 3),.mov (.c (.int .i64 0)),none⟩])
 (.seq (.ops [⟨(some 7),.load (some 4) (.t 1),none⟩,
 ⟨(some 8),.call k_tx_Encode [(.t 7)],none⟩,
 ⟨(some 6),.mov (.t 8),none⟩,
 ⟨(some 9),.ext (.t 6) 0,none⟩,
 ⟨(some 10),.ext (.t 6) 1,none⟩,
 ⟨(some 4),.mov (.t 9),none⟩,
 ⟨(some 5),.mov (.t 10),none⟩])
 (.seq (.seq (.ops [⟨(some 11),.mov (.t 5),none⟩,
 ⟨(some 12),.bin .neq .no (.t 11) (.c (.int .i64 0)),none⟩])
 (.cond (.t 12)
 (.seq (.ops [⟨(some 13),.build [(.int .u8 0),(.int .u8 0),(.int .u8 0),(.int .u8 0),(.int .u8 0),(.int .u8 0),(.int .u8 0),(.int .u8 0),(.int .u8 0),(.int .u8 0),(.int .u8 0),(.int .u8 0),(.int .u8 0),(.int .u8 0),(.int .u8 0),(.int .u8 0),(.int .u8 0),(.int .u8 0),(.int .u8 0),(.int .u8 0),(.int .u8 0),(.int .u8 0),(.int .u8 0),(.int .u8 0),(.int .u8 0),(.int .u8 0),(.int .u8 0),(.int .u8 0),(.int .u8 0),(.int .u8 0),(.int .u8 0),(.int .u8 0)] [],none⟩,
 ⟨(some 14),.mov (.t 5),none⟩,
 ⟨none,.store 32 (.t 2) (.t 13),none⟩,
 ⟨(some 3),.mov (.t 14),none⟩])
 (.ret))
 (.skip)))
 (.seq (.ops [⟨(some 15),.mov (.t 4),none⟩,
 ⟨(some 16),.call k_sha_Twice [(.t 15)],none⟩,
 ⟨none,.store 32 (.t 2) (.t 16),none⟩,
 ⟨(some 3),.mov (.c (.int .i64 0)),none⟩])
 (.ret))))⟩
def L_tx_Copy_0:C:=.seq (.ops [⟨(some 17),.bin .lss .no (.t 16) (.t 15),none⟩])
 (.seq (.cond (.t 17)
 (.skip)
 (.exit 0))
 (.seq (.block 1 (.seq (.ops [⟨(some 18),.mov (.t 16),none⟩,
 ⟨(some 3),.mov (.t 18),none⟩])
 (.dops 0 [] [(⟨(some 19),.fieldAddr 1 (.t 1),none⟩,.L),
 (⟨(some 20),.load none (.t 19),none⟩,.R [] [(1,[])]),
 (⟨(some 21),.mov (.t 3),none⟩,.L),
 (⟨(some 22),.fieldAddr 1 (.t 1),none⟩,.L),
 (⟨(some 23),.load none (.t 22),none⟩,.R [] []),
 (⟨(some 24),.mov (.t 3),none⟩,.L),
 (⟨(some 25),.idxAddrS 35 (.t 23) (.t 24),none⟩,.L),
 (⟨(some 26),.fieldAddr 33 (.t 25),none⟩,.L),
 (⟨(some 27),.load none (.t 26),none⟩,.R [] []),
 (⟨(some 28),.call k_bytes_Clone [(.t 27)],none⟩,.B []),
 (⟨(some 29),.idxAddrS 35 (.t 20) (.t 21),none⟩,.L),
 (⟨(some 30),.fieldAddr 33 (.t 29),none⟩,.L),
 (⟨none,.store 1 (.t 30) (.t 28),none⟩,.B [])])))
 (.ops [⟨(some 31),.bin .add .no (.t 16) (.c (.int .i64 1)),none⟩,
 ⟨(some 16),.mov (.t 31),none⟩])))
def L_tx_Copy_1:C:=.seq (.ops [⟨(some 36),.bin .lss .no (.t 35) (.t 34),none⟩])
 (.seq (.cond (.t 36)
 (.skip)
 (.exit 2))
 (.seq (.block 3 (.seq (.ops [⟨(some 37),.mov (.t 35),none⟩,
 ⟨(some 4),.mov (.t 37),none⟩])
 (.dops 0 [] [(⟨(some 38),.fieldAddr 2 (.t 1),none⟩,.L),
 (⟨(some 39),.load none (.t 38),none⟩,.R [] [(1,[])]),
 (⟨(some 40),.mov (.t 4),none⟩,.L),
 (⟨(some 41),.fieldAddr 2 (.t 1),none⟩,.L),
 (⟨(some 42),.load none (.t 41),none⟩,.R [] []),
 (⟨(some 43),.mov (.t 4),none⟩,.L),
 (⟨(some 44),.idxAddrS 2 (.t 42) (.t 43),none⟩,.L),
 (⟨(some 45),.fieldAddr 1 (.t 44),none⟩,.L),
 (⟨(some 46),.load none (.t 45),none⟩,.R [] []),
 (⟨(some 47),.call k_bytes_Clone [(.t 46)],none⟩,.B []),
 (⟨(some 48),.idxAddrS 2 (.t 39) (.t 40),none⟩,.L),
 (⟨(some 49),.fieldAddr 1 (.t 48),none⟩,.L),
 (⟨none,.store 1 (.t 49) (.t 47),none⟩,.B [])])))
 (.ops [⟨(some 50),.bin .add .no (.t 35) (.c (.int .i64 1)),none⟩,
 ⟨(some 35),.mov (.t 50),none⟩])))
def R_tx_Copy_0:C:=.seq (.ops [⟨(some 51),.load (some 4) (.t 1),none⟩,
 ⟨none,.store 4 (.t 2) (.t 51),none⟩])
 (.ret)
def R_tx_Copy_1:C:=.seq (.seq (.ops [⟨(some 32),.fieldAddr 2 (.t 1),none⟩,
 ⟨(some 33),.load none (.t 32),none⟩,
 ⟨(some 34),.len false (.t 33),none⟩,
 ⟨(some 35),.mov (.c (.int .i64 0)),none⟩])
 (.block 2 (.loop (L_tx_Copy_1))))
 (R_tx_Copy_0)
def f_tx_Copy:Fn:=⟨52,[.cell 2 (some 4)],
 .seq (.ops [⟨(some 1),.box (.t 0),none⟩,
 ⟨(some 2),.alloc [(.int .u32 0),(.slice none 0 (some 0) 0),(.slice none 0 (some 0) 0),(.int .u32 0)],none⟩])
 (.seq (.dops 0 [] [(⟨(some 5),.fieldAddr 1 (.t 1),none⟩,.L),
 (⟨(some 6),.load none (.t 5),none⟩,.R [] []),
 (⟨(some 7),.call k_slices_Clone_api_In_api_In [(.t 6)],none⟩,.B []),
 (⟨(some 8),.fieldAddr 2 (.t 1),none⟩,.L),
 (⟨(some 9),.load none (.t 8),none⟩,.R [] [(4,[])]),
 (⟨(some 10),.call k_slices_Clone_api_Out_api_Out [(.t 9)],none⟩,.B []),
 (⟨(some 11),.fieldAddr 1 (.t 1),none⟩,.L),
 (⟨none,.store 1 (.t 11) (.t 7),none⟩,.B []),
 (⟨(some 12),.fieldAddr 2 (.t 1),none⟩,.L),
 (⟨none,.store 1 (.t 12) (.t 10),none⟩,.B [])])
 (.seq (.seq (.ops [⟨(some 13),.fieldAddr 1 (.t 1),none⟩,
 ⟨(some 14),.load none (.t 13),none⟩,
 ⟨(some 15),.len false (.t 14),none⟩,
 ⟨(some 16),.mov (.c (.int .i64 0)),none⟩])
 (.block 0 (.loop (L_tx_Copy_0))))
 (R_tx_Copy_1)))⟩
def f_slices_Clone_api_In_api_In:Fn:=⟨8,[.tmp 2],
 .seq (.ops [⟨(some 2),.mov (.c (.slice none 0 (some 0) 0)),none⟩])
 (.seq (.seq (.ops [⟨(some 3),.mov (.t 0),none⟩,
 ⟨(some 4),.bin .eql (.ref .s) (.t 3) (.c (.slice none 0 (some 0) 0)),none⟩])
 (.cond (.t 4)
 (.seq (.ops [⟨(some 2),.mov (.c (.slice none 0 (some 0) 0)),none⟩])
 (.ret))
 (.skip)))
 (.seq (.ops [⟨(some 5),.buildS [] 0 35 [],none⟩,
 ⟨(some 6),.mov (.t 0),none⟩,
 ⟨(some 7),.append 35 72 (.t 5) (.t 6),none⟩,
 ⟨(some 2),.mov (.t 7),none⟩])
 (.ret)))⟩
def f_slices_Clone_api_Out_api_Out:Fn:=⟨8,[.tmp 2],
 .seq (.ops [⟨(some 2),.mov (.c (.slice none 0 (some 0) 0)),none⟩])
 (.seq (.seq (.ops [⟨(some 3),.mov (.t 0),none⟩,
 ⟨(some 4),.bin .eql (.ref .s) (.t 3) (.c (.slice none 0 (some 0) 0)),none⟩])
 (.cond (.t 4)
 (.seq (.ops [⟨(some 2),.mov (.c (.slice none 0 (some 0) 0)),none⟩])
 (.ret))
 (.skip)))
 (.seq (.ops [⟨(some 5),.buildS [] 0 2 [],none⟩,
 ⟨(some 6),.mov (.t 0),none⟩,
 ⟨(some 7),.append 2 32 (.t 5) (.t 6),none⟩,
 ⟨(some 2),.mov (.t 7),none⟩])
 (.ret)))⟩
def f_bytes_Clone:Fn:=⟨8,[.tmp 2],
 .seq (.ops [⟨(some 2),.mov (.c (.slice none 0 (some 0) 0)),none⟩])
 (.seq (.seq (.ops [⟨(some 3),.mov (.t 0),none⟩,
 ⟨(some 4),.bin .eql (.ref .s) (.t 3) (.c (.slice none 0 (some 0) 0)),none⟩])
 (.cond (.t 4)
 (.seq (.ops [⟨(some 2),.mov (.c (.slice none 0 (some 0) 0)),none⟩])
 (.ret))
 (.skip)))
 (.seq (.ops [⟨(some 5),.buildS [] 0 1 [],none⟩,
 ⟨(some 6),.mov (.t 0),none⟩,
 ⟨(some 7),.append 1 1 (.t 5) (.t 6),none⟩,
 ⟨(some 2),.mov (.t 7),none⟩])
 (.ret)))⟩
end Go.Eng
