/- What functions of the program come to: own work. -/
import Derived.Test.YtfopajklnakmpaaBtE
namespace Go.Eng
open Go
variable {E : Nat → Option Fn} {X : Orc}
set_option linter.unusedSimpArgs false
set_option linter.unusedVariables false
/-! headers -/
structure HdQ where
  ver : Nat
  prev : List Nat
  root : List Nat
  time : Nat
  bits : Nat
  nonce : Nat
structure HdQ.ok (x : HdQ) : Prop where
  v1 : x.ver < 4294967296
  lp : x.prev.length = 32
  bp : byt x.prev = true
  lr : x.root.length = 32
  br : byt x.root = true
  t1 : x.time < 4294967296
  b1 : x.bits < 4294967296
  n1 : x.nonce < 4294967296
def hdV (x : HdQ) : List V := [.int .u32 (x.ver : Int)] ++ ofI .u8 x.prev ++ ofI .u8 x.root ++ [.int .u32 (x.time : Int), .int .u32 (x.bits : Int), .int .u32 (x.nonce : Int)]
structure NoBh (X : Orc) : Prop where
  te : NoTe X
  eh : ∀ a h, X (.fn k_block_EncodeHeader) a h = none
end Go.Eng
namespace Go.Eng
open Go
variable {E : Nat → Option Fn} {X : Orc}
set_option linter.unusedSimpArgs false
set_option linter.unusedVariables false
structure NoBr (X : Orc) : Prop where
  ey : NoEye X
  lo : ∀ a h, X (.fn k_octet_Look) a h = none
  wo : ∀ a h, X (.fn k_block_word) a h = none
  ha : ∀ a h, X (.fn k_block_hash) a h = none
  dh : ∀ a h, X (.fn k_block_DecodeHeader) a h = none
end Go.Eng
namespace Go.Eng
open Go
variable {E : Nat → Option Fn} {X : Orc}
set_option linter.unusedSimpArgs false
set_option linter.unusedVariables false
/-! blocks -/
structure BkQ where
  hd : HdQ
  txs : List TxQ
structure BkQ.ok (x : BkQ) : Prop where
  h : x.hd.ok
  t : ∀ t ∈ x.txs, t.ok
def bkV (x : BkQ) (a : Option (Nat × Nat)) (c : Option Nat) (e : Nat) : List V := hdV x.hd ++ [.slice a x.txs.length c e]
def BkC (S : Nat → Prop) (h : H) (x : BkQ) (p : List V) : Prop := ∃ a c e, p = bkV x a c e ∧ RowG S 4 TxC h x.txs a e
theorem BkC.mono {S S' : Nat → Prop} {h h' : H} {x : BkQ} {p : List V} (r : BkC S h x p) (hn : h.next ≤ h'.next) (k : ∀ j, S j → j < h.next → h'.get j = h.get j) (w : ∀ j, S j → j < h.next → S' j) : BkC S' h' x p := by
  obtain ⟨a, c, e, rfl, row⟩ := r
  exact ⟨a, c, e, rfl, row.mono2 itTx hn k w⟩
theorem BkC.kp {h h' : H} {x : BkQ} {p : List V} (r : BkC (fun j => j < h.next) h x p) (k : Kp h h') : BkC (fun j => j < h'.next) h' x p :=
  r.mono k.1 (fun j hj _ => k.2 j hj) (fun j hj _ => by have := k.1; have : j < h.next := hj; show j < h'.next; omega)
structure NoBe (X : Orc) : Prop where
  bh : NoBh X
  te : NoTe X
  tc : NoTc X
  be : ∀ a h, X (.fn k_block_Encode) a h = none
theorem Wb.srcQ {h : H} {w : List Nat} {a : Option (Nat × Nat)} {c : Option Nat} {e q : Nat} (s : Wb h w a c e) (S : Nat → Prop) (eq : a = some (q, 0)) : SrcS (fun j => S j ∨ j = q) h a e w := by
  rcases s with ⟨h1, _⟩ | ⟨_, q', md, e1, _, e3, g, hm, hq⟩
  · exact .inl h1
  · rw [eq] at e1; cases e1
    exact .inr ⟨q, 0, _, md, eq, e3, .inr rfl, hq, g, by rw [ofI_len]; omega, by rw [List.drop_zero]; exact List.take_of_length_le (by rw [ofI_len]; exact Nat.le_refl _)⟩
end Go.Eng
namespace Go.Eng
open Go
variable {E : Nat → Option Fn} {X : Orc}
set_option linter.unusedSimpArgs false
set_option linter.unusedVariables false
/-! Decode's walk over its transactions -/
end Go.Eng
namespace Go.Eng
open Go
variable {E : Nat → Option Fn} {X : Orc}
set_option linter.unusedSimpArgs false
set_option linter.unusedVariables false
structure NoBd (X : Orc) : Prop where
  y : ∀ l a h, X (.yld l) a h = none
  rr : NoRr X
  br : NoBr X
  tx : ∀ a h, X (.fn k_block_txs) a h = none
  t1 : ∀ a h, X (.fn k_block_txs_1) a h = none
  sz : ∀ a h, X (.fn k_block_size) a h = none
  cp : ∀ a h, X (.fn k_octet_Compact) a h = none
  bd : ∀ a h, X (.fn k_block_Decode) a h = none
end Go.Eng
