/- What functions of the program come to: own work. -/
import Derived.Test.YtfopajklnakmpaaBtQ
namespace Go.Eng
open Go
variable {E : Nat → Option Fn} {X : Orc}
set_option linter.unusedSimpArgs false
set_option linter.unusedVariables false
structure NoTw (X : Orc) : Prop where
  sh : NoSha X
  o : ∀ a h, X (.fn k_sha_Of) a h = none
  tw : ∀ a h, X (.fn k_sha_Twice) a h = none
end Go.Eng
namespace Go.Eng
open Go
variable {E : Nat → Option Fn} {X : Orc}
set_option linter.unusedSimpArgs false
set_option linter.unusedVariables false
structure NoAp (X : Orc) : Prop where
  tb : NoTb X
  tw : NoTw X
  cp : NoCp X
  id_ : ∀ a h, X (.fn k_tx_Id) a h = none
theorem NoAp.al : NoAp (alT k_purserlaw06_alive) := by repeat' (first | exact fun _ _ => rfl | exact fun _ _ _ => rfl | exact fun _ => rfl | constructor)
theorem inV_s32 (o : InQ) (b : Option (Nat × Nat)) (cb : Option Nat) (eb n : Nat) (l : o.tx.length = 32) : (inV o b cb eb).set 32 (.int .u32 (n : Int)) = inV ⟨o.tx, n, o.l, o.q⟩ b cb eb := by
  unfold inV
  rw [List.set_append_right _ _ (by rw [ofI_len]; omega), ofI_len, l]; rfl
theorem CpH.tx {h h' h2 : H} {t : TxQ} {q r : Nat} {cs ds : List V} (c : CpH h h' t q r cs ds) (k : Kp h' h2) (lk : Nat) : TxC (fun j => j < h2.next) h2 ⟨t.ver, t.ins, t.outs, lk⟩ (txV ⟨t.ver, t.ins, t.outs, lk⟩ (some (q, 0)) (some (r, 0)) none none 35 2) := by
  have kn := k.1
  have q2 := c.q2
  have r2 := c.r2
  refine ⟨_, _, _, _, _, _, rfl, .inr ⟨q, 0, cs, .rw, rfl, rfl, by omega, by omega, by rw [k.2 _ c.q2, c.gq], by rw [c.lc]; show 0 + t.ins.length * 35 ≤ t.ins.length * 35; omega, fun i o ho => ?_⟩, .inr ⟨r, 0, ds, .rw, rfl, rfl, by omega, by omega, by rw [k.2 _ c.r2, c.gr], by rw [c.ld]; show 0 + t.outs.length * 2 ≤ t.outs.length * 2; omega, fun i o ho => ?_⟩⟩
  · rw [Nat.zero_add]
    exact itIn.mono (c.ai i o ho) kn (fun j _ hn => k.2 _ hn) (fun j _ hn => by omega)
  · rw [Nat.zero_add]
    exact itOut.mono (c.ao i o ho) kn (fun j _ hn => k.2 _ hn) (fun j _ hn => by omega)
theorem CpH.tw {h h' h2 h3 : H} {t : TxQ} {q r : Nat} {cs ds : List V} (c : CpH h h' t q r cs ds) (i0 : InQ) (rest : List InQ) (et : t.ins = i0 :: rest) (n : Nat) (k : Kp h' h2) (e3 : h2.put q (.cells (cs.set 32 (.int .u32 (n : Int))) .rw) = h3) : TxC (fun j => j < h3.next) h3 ⟨t.ver, ⟨i0.tx, n, i0.l, i0.q⟩ :: rest, t.outs, t.lock⟩ (txV t (some (q, 0)) (some (r, 0)) none none 35 2) := by
  have kn := k.1
  have q2 := c.q2
  have r2 := c.r2
  have qr := c.qr
  have n3 : h3.next = h2.next := by rw [← e3]; rfl
  have g3 : h3.get q = some (.cells (cs.set 32 (.int .u32 (n : Int))) .rw) := by rw [← e3]; exact h_put_same _ _ _
  have f3 : ∀ j, j ≠ q → h3.get j = h2.get j := fun j hj => by rw [← e3, h_put_ne _ _ (Ne.symm hj)]
  have ll : t.ins.length = rest.length + 1 := by rw [et]; rfl
  have lc := c.lc
  refine ⟨some (q, 0), some (r, 0), none, none, 35, 2, by rw [txV, txV, ll]; rfl, .inr ⟨q, 0, _, .rw, rfl, rfl, by omega, by omega, g3, by rw [List.length_set, lc, ll, List.length_cons]; omega, fun i o ho => ?_⟩, .inr ⟨r, 0, ds, .rw, rfl, rfl, by omega, by omega, by rw [f3 _ (Ne.symm qr), k.2 _ c.r2, c.gr], by rw [c.ld]; show 0 + t.outs.length * 2 ≤ t.outs.length * 2; omega, fun i o ho => ?_⟩⟩
  · rw [Nat.zero_add]
    have pt := part35 cs 0 i (.int .u32 (n : Int)) 32 (by omega)
    rw [Nat.zero_mul, Nat.zero_add] at pt
    rw [pt]
    cases i with
    | zero =>
      rw [if_pos rfl]
      cases ho
      obtain ⟨b, cb, eb, eP, ss, l32⟩ := c.ai 0 i0 (by rw [et]; rfl)
      rw [eP]
      exact ⟨b, cb, eb, inV_s32 i0 b cb eb n l32, ss.mono2 (by omega) (fun j hj hn => by rw [f3 _ hj.2.1, k.2 _ hn]) (fun j _ hn => by omega), l32⟩
    | succ i =>
      rw [if_neg (by omega)]
      exact itIn.mono (c.ai (i + 1) o (by rw [et]; exact ho)) (by omega) (fun j hj hn => by rw [f3 _ hj.2.1, k.2 _ hn]) (fun j _ hn => by omega)
  · rw [Nat.zero_add]
    exact itOut.mono (c.ao i o ho) (by omega) (fun j hj hn => by rw [f3 _ hj.2.1, k.2 _ hn]) (fun j _ hn => by omega)
end Go.Eng
