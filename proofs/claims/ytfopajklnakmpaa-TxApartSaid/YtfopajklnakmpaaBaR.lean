/- What functions of the program come to: own work. -/
import Derived.Test.YtfopajklnakmpaaBaQ
namespace Go.Eng
open Go
variable {E : Nat → Option Fn} {X : Orc}
set_option linter.unusedSimpArgs false
set_option linter.unusedVariables false
structure EnTw (E : Nat → Option Fn) : Prop where
  sh : EnSha E
  o : E k_sha_Of = some f_sha_Of
  tw : E k_sha_Twice = some f_sha_Twice
structure NoTw (X : Orc) : Prop where
  sh : NoSha X
  o : ∀ a h, X (.fn k_sha_Of) a h = none
  tw : ∀ a h, X (.fn k_sha_Twice) a h = none
theorem z32_st (s : List Nat) (hs : s.length = 32) (Z : List V) (eZ : ofI .u8 (List.replicate 32 0) = Z) :
    (∀ h i, storeV h 32 (.ptr (some (i, 0))) (.agg (ofI .u8 s)) = storeE (h.get i) h i 0 (ofI .u8 s)) ∧ (∀ h i, storeE (some (.cells Z .rw)) h i 0 (ofI .u8 s) = some (h.put i (.cells (ofI .u8 s) .rw))) ∧ (∀ m, loadE (some (.cells (ofI .u8 s) m)) (some 32) 0 = some (.agg (ofI .u8 s))) :=
  ⟨fun h i => st32 h i 0 _ hs, fun h i => by
    rw [m_storeE _ _ _ _ _ (by rw [← eZ, ofI_len, ofI_len, hs, List.length_replicate]; omega), ← eZ, wrAll _ _ _ (by rw [List.length_replicate, hs])], fun m => by rw [m_loadN, x_readAll _ 32 (by rw [ofI_len, hs])]⟩
theorem tw2_go (e : EnTw E) (x : NoTw X) (K : Nat) (hK : 100 < K) (l : List Nat) (hl : l.length < K) (hl2 : l.length ≤ 10000000) (a : Option (Nat × Nat)) (c : Option Nat) (ez : Nat) (h : H) (src : SrcH h a ez l) :
    ∃ h', callX E X (K + 83) (.fn k_sha_Twice) [.slice a l.length c ez] h = some (.agg (ofI .u8 (shaV (shaV l))), h') ∧ Kp h h' := by
  rw [x_cfn e.tw _ _ (Nat.le_of_ble_eq_true rfl) (x.tw _ _)]
  rw [← z32e]
  obtain ⟨Z, eZ⟩ : ∃ Z, ofI .u8 (List.replicate 32 0) = Z := ⟨_, rfl⟩
  rw [eZ]
  obtain ⟨hA, eA⟩ : ∃ hA, h.new (.cells Z .rw) = hA := ⟨_, rfl⟩
  have kA : Kp h hA := by rw [← eA]; exact Kp.new _ _
  have nA : hA.next = h.next + 1 := by rw [← eA]; rfl
  have g0 : hA.get h.next = some (.cells Z .rw) := by rw [← eA]; exact h_new_same _ _
  obtain ⟨h1, r1, k1⟩ := of_go e.sh x.sh e.o x.o K l a c ez hA (by omega) (by omega) (by omega) (src.mono kA)
  have kn1 := k1.1
  obtain ⟨s, es⟩ : ∃ s, shaV l = s := ⟨_, rfl⟩
  have hs : s.length = 32 := by rw [← es]; exact shaV_len l
  obtain ⟨st, pu, ld⟩ := z32_st s hs Z eZ
  rw [es] at r1 ⊢
  obtain ⟨h2, eh2⟩ : ∃ h2, (h1.new (.cells Z .rw)).put h1.next (.cells (ofI .u8 s) .rw) = h2 := ⟨_, rfl⟩
  have k2 : Kp h1 h2 := by rw [← eh2]; (repeat (first | exact Kp.refl _ | refine Kp.put ?_ _ (by first | omega | (simp only [h_next_put, h_next_new, h_next_del]; omega)) | refine Kp.del ?_ (by first | omega | (simp only [h_next_put, h_next_new, h_next_del]; omega)) | refine Kp.trans ?_ (Kp.new _ _)))
  have n2 : h2.next = h1.next + 1 := by rw [← eh2]; rfl
  have gz : (h1.new (.cells Z .rw)).get h1.next = some (.cells Z .rw) := h_new_same _ _
  have g2 : h2.get h1.next = some (.cells (ofI .u8 s) .rw) := by rw [← eh2]; exact h_put_same _ _ _
  obtain ⟨h3, r3, k3⟩ := of_go e.sh x.sh e.o x.o K s (some (h1.next, 0)) (some 32) 1 h2 (by omega) (by omega) (by omega) (.inr ⟨h1.next, 0, ofI .u8 s, .rw, rfl, rfl, by omega, g2, by rw [ofI_len]; omega, by rw [List.drop_zero]; exact List.take_of_length_le (by rw [ofI_len]; omega)⟩)
  rw [hs] at r3
  have kn3 := k3.1
  obtain ⟨s2, es2⟩ : ∃ s2, shaV s = s2 := ⟨_, rfl⟩
  have hs2 : s2.length = 32 := by rw [← es2]; exact shaV_len s
  obtain ⟨st2, pu2, ld2⟩ := z32_st s2 hs2 Z eZ
  rw [es2] at r3 ⊢
  have g3 : h3.get h.next = some (.cells Z .rw) := by rw [k3.2 _ (by omega), k2.2 _ (by omega), k1.2 _ (by omega), g0]
  refine ⟨h3.put h.next (.cells (ofI .u8 s2) .rw), ?_, ⟨by show h.next ≤ h3.next; omega, fun j hj => by rw [h_put_ne _ _ (by omega), k3.2 _ (by omega), k2.2 _ (by omega), k1.2 _ (by omega), kA.2 _ hj]⟩⟩
  have sB : ∀ h i, slcB (some (.cells (ofI .u8 s) .rw)) 32 1 i 0 none none h = some (.slice (some (i, 0)) 32 (some 32) 1, h) := fun h i => slcB_nn _ _ _ _ _ _ (by rw [ofI_len]; omega)
  generalize ofI .u8 s2 = S2 at *
  generalize ofI .u8 s = S1 at *
  generalize l.length = n at *
  simp (config := {maxSteps := 2000000}) (disch := first | omega | (simp only [List.length_cons, List.length_nil, List.length_append, List.length_drop]; omega)) only [eA, r1, st, pu, eh2, g2, r3, g3, st2, pu2, ld2, ↓x_slcA, x_slcAE, sB, x_M0, ↓h_put_get, ↓h_new_get, m_load, ↓m_st, m_stE, ↓s_alloc, s_resc, s_consR, s_res0, ↓s_ops, ↓s_seq, ↓s_ret, ↓s_nil, ↓s_op, ↓s_bindS, s_bindS, ↓s_bindE, s_bindE, s_norm, ↓s_getp, ↓s_getp0, ↓s_get, ↓s_os0, ↓s_os1, ↓s_list0, ↓s_list1, ↓s_mov, ↓s_call, s_end, s_res0, s_tup1, ↓iteN_true, ↓iteN_false, iteN_true, iteN_false, Nat.reduceEqDiff, decide_true, decide_false]
  try rfl
theorem txid_go (e : EnTw E) (x : NoTw X) (te : EnTe E) (xt : NoTe X) (tcn : EnTc E) (xtc : NoTc X) (ei : E k_tx_Id = some f_tx_Id) (xi : ∀ a h, X (.fn k_tx_Id) a h = none) (K : Nat) (hK : 400000 < K) (t : TxQ) (ok : t.ok) (g : gtOk t) (P : List V) (h : H) (tc : TxC (fun j => j < h.next) h t P) :
    ∃ (s : List Nat) (z : Int) (h' : H), callX E X (K + 84) (.fn k_tx_Id) [.agg P] h = some (.tup [.agg (ofI .u8 s), .int .i64 z], h') ∧ Kp h h' ∧ s.length = 32 ∧ (ckOk t → s = shaV (shaV (txB t)) ∧ z = 0) := by
  rw [x_cfn ei _ _ (Nat.le_of_ble_eq_true rfl) (xi _ _)]
  rw [← z32e]
  obtain ⟨Z, eZ⟩ : ∃ Z, ofI .u8 (List.replicate 32 0) = Z := ⟨_, rfl⟩
  rw [eZ]
  have ca' : ∀ l : List V, (V.agg l).cells = l := fun _ => rfl
  obtain ⟨hb, ehb⟩ : ∃ hb, (h.new (.cells P .rw)).new (.cells Z .rw) = hb := ⟨_, rfl⟩
  have kb : Kp h hb := by rw [← ehb]; (repeat (first | exact Kp.refl _ | refine Kp.put ?_ _ (by first | omega | (simp only [h_next_put, h_next_new, h_next_del]; omega)) | refine Kp.del ?_ (by first | omega | (simp only [h_next_put, h_next_new, h_next_del]; omega)) | refine Kp.trans ?_ (Kp.new _ _)))
  have nb : hb.next = h.next + 2 := by rw [← ehb]; rfl
  have g0 : hb.get h.next = some (.cells P .rw) := by rw [← ehb]; (simp (disch := omega) only [h_new_get, h_next_new, Nat.add_eq_left, decide_true, decide_false, iteN_true, iteN_false, reduceCtorEq, ]; try rfl)
  have gz : hb.get (h.next + 1) = some (.cells Z .rw) := by rw [← ehb]; (simp (disch := omega) only [h_new_get, h_next_new, decide_true, iteN_true, ]; try rfl)
  have fP := tc.fit
  have lP := fun m => fit_ld fP m
  have z0 : decide ((0 : Int) = 0) = true := rfl
  have z6 : decide ((60 : Int) = 0) = false := rfl
  rcases enc_go te xt tcn xtc (K + 76) (by omega) t ok g P hb (tc.kp kb) with ⟨ck, h1, a1, c1, e1, r1, nw1⟩ | ⟨no, h1, r1, k1⟩
  · replace r1 : callX E X (K + 83) (.fn k_tx_Encode) _ hb = _ := r1
    have k1 := nw1.kp
    have kn1 := k1.1
    have lB := txB_le t ok g
    obtain ⟨h2, r2, k2⟩ := tw2_go e x K (by omega) (txB t) (by omega) (by omega) a1 c1 e1 h1 nw1.wb.src
    have kn2 := k2.1
    obtain ⟨s, es⟩ : ∃ s, shaV (shaV (txB t)) = s := ⟨_, rfl⟩
    have hs : s.length = 32 := by rw [← es]; exact shaV_len _
    obtain ⟨st, pu, ld⟩ := z32_st s hs Z eZ
    rw [es] at r2
    have g2 : h2.get (h.next + 1) = some (.cells Z .rw) := by rw [k2.2 _ (by omega), k1.2 _ (by omega), gz]
    refine ⟨s, 0, h2.put (h.next + 1) (.cells (ofI .u8 s) .rw), ?_, ⟨by show h.next ≤ h2.next; omega, fun j hj => by rw [h_put_ne _ _ (by omega), k2.2 _ (by omega), k1.2 _ (by omega), kb.2 _ hj]⟩, hs, fun _ => ⟨es.symm, rfl⟩⟩
    generalize ofI .u8 s = S1 at *
    generalize (txB t).length = n at *
    simp (config := {maxSteps := 2000000}) (disch := first | omega | (simp only [List.length_cons, List.length_nil, List.length_append, List.length_drop]; omega)) only [ca', ehb, g0, lP, r1, Bool.not_true, r2, g2, st, pu, ld, ↓s_box, ↓h_put_get, h_next_new, ↓s_load, m_load, ↓m_st, m_stE, ↓s_alloc, s_resc, s_consR, s_res0, ↓s_skip, ↓s_ops, ↓s_seq, ↓s_cond, ↓s_ret, ↓s_nil, ↓s_op, ↓s_bindS, s_bindS, ↓s_bindE, s_bindE, s_norm, ↓s_condV, s_condV, ↓s_getp, ↓s_getp0, ↓s_get, ↓s_con, ↓s_os0, ↓s_os1, ↓s_list0, ↓s_list1, ↓s_mov, ↓s_bin, ↓s_call, ↓s_ext, s_same, b_neq, s_end, s_res0, s_res1, s_tup2, ↓iteN_true, ↓iteN_false, iteN_true, iteN_false, Nat.reduceEqDiff, decide_true, decide_false, Bool.not_true, List.getElem?_cons_zero, List.getElem?_cons_succ]
    try rfl
  · replace r1 : callX E X (K + 83) (.fn k_tx_Encode) _ hb = _ := r1
    have kn1 := k1.1
    obtain ⟨st, pu, ld⟩ := z32_st (List.replicate 32 0) (List.length_replicate) Z eZ
    rw [eZ] at st pu ld
    have g2 : h1.get (h.next + 1) = some (.cells Z .rw) := by rw [k1.2 _ (by omega), gz]
    refine ⟨List.replicate 32 0, 60, h1.put (h.next + 1) (.cells Z .rw), ?_, ⟨by show h.next ≤ h1.next; omega, fun j hj => by rw [h_put_ne _ _ (by omega), k1.2 _ (by omega), kb.2 _ hj]⟩, List.length_replicate, fun h => absurd h no⟩
    rw [eZ]
    simp (config := {maxSteps := 2000000}) (disch := first | omega | (simp only [List.length_cons, List.length_nil, List.length_append, List.length_drop]; omega)) only [ca', ehb, g0, lP, r1, Bool.not_false, g2, st, pu, ld, ↓x_build, x_aggO, x_fill0, ↓s_box, ↓h_put_get, h_next_new, ↓s_load, m_load, ↓m_st, m_stE, ↓s_alloc, ↓x_P0, x_fill0, Int.reduceEq, s_resc, s_consR, s_res0, ↓s_ops, ↓s_seq, ↓s_cond, ↓s_ret, ↓s_nil, ↓s_op, ↓s_bindS, s_bindS, ↓s_bindE, s_bindE, s_bindE_ret, s_norm, ↓s_condV, s_condV, ↓s_getp, ↓s_getp0, ↓s_get, ↓s_con, ↓s_os0, ↓s_os1, ↓s_list0, ↓s_list1, ↓s_mov, ↓s_bin, ↓s_call, ↓s_ext, s_same, b_neq, s_end, s_res0, s_res1, s_tup2, ↓iteN_true, ↓iteN_false, iteN_true, iteN_false, Nat.reduceEqDiff, decide_true, decide_false, Bool.not_false, List.getElem?_cons_zero, List.getElem?_cons_succ]
    try rfl
theorem txB_inj (a b : TxQ) (oa : a.ok) (ob : b.ok) (ca : ckOk a) (cb : ckOk b) (h : txB a = txB b) : a = b := by
  have r1 := at_t (txB a) a oa ca ⟨rfl, [], by simp⟩
  have r2 := at_t (txB b) b ob cb ⟨rfl, [], by simp⟩
  rw [h, r2] at r1
  exact (congrArg Prod.fst r1).symm
end Go.Eng
namespace Go.Eng
open Go
variable {E : Nat → Option Fn} {X : Orc}
set_option linter.unusedSimpArgs false
set_option linter.unusedVariables false
structure EnAp (E : Nat → Option Fn) : Prop where
  tb : EnTb E
  tw : EnTw E
  cp : EnCp E
  id_ : E k_tx_Id = some f_tx_Id
structure NoAp (X : Orc) : Prop where
  tb : NoTb X
  tw : NoTw X
  cp : NoCp X
  id_ : ∀ a h, X (.fn k_tx_Id) a h = none
theorem NoAp.al : NoAp (alT k_purserlaw06_alive) := by repeat' (first | exact fun _ _ => rfl | exact fun _ _ _ => rfl | exact fun _ => rfl | constructor)
theorem ad_same (a b : Nat) (ha : a < 4294967296) (hb : b < 4294967296) : ad a b = a ↔ b = 0 := by
  unfold ad
  constructor
  · intro h; omega
  · rintro rfl; rw [Nat.add_zero, Nat.mod_eq_of_lt ha]
theorem inV_s32 (o : InQ) (b : Option (Nat × Nat)) (cb : Option Nat) (eb n : Nat) (l : o.tx.length = 32) : (inV o b cb eb).set 32 (.int .u32 (n : Int)) = inV ⟨o.tx, n, o.l, o.q⟩ b cb eb := by
  unfold inV
  rw [List.set_append_right _ _ (by rw [ofI_len]; omega), ofI_len, l]; rfl
theorem inV_32 (o : InQ) (b : Option (Nat × Nat)) (cb : Option Nat) (eb : Nat) (l : o.tx.length = 32) : (inV o b cb eb)[32]? = some (.int .u32 (o.n : Int)) := by
  unfold inV
  rw [List.getElem?_append_right (by rw [ofI_len]; omega), ofI_len, l]; rfl
theorem CpH.tx {h h' h2 : H} {t : TxQ} {q r : Nat} {cs ds : List V} (c : CpH h h' t q r cs ds) (k : Kp h' h2) (lk : Nat) : TxC (fun j => j < h2.next) h2 ⟨t.ver, t.ins, t.outs, lk⟩ (txV ⟨t.ver, t.ins, t.outs, lk⟩ (some (q, 0)) (some (r, 0)) none none 35 2) := by
  have kn := k.1
  have q2 := c.q2
  have r2 := c.r2
  refine ⟨_, _, _, _, _, _, rfl, .inr ⟨q, 0, cs, .rw, rfl, rfl, by omega, by omega, by rw [k.2 _ c.q2, c.gq], by rw [c.lc]; show 0 + t.ins.length * 35 ≤ t.ins.length * 35; omega, fun i o ho => ?_⟩, .inr ⟨r, 0, ds, .rw, rfl, rfl, by omega, by omega, by rw [k.2 _ c.r2, c.gr], by rw [c.ld]; show 0 + t.outs.length * 2 ≤ t.outs.length * 2; omega, fun i o ho => ?_⟩⟩
  · rw [Nat.zero_add]
    exact itIn.mono (c.ai i o ho) kn (fun j _ hn => k.2 _ hn) (fun j _ hn => by omega)
  · rw [Nat.zero_add]
    exact itOut.mono (c.ao i o ho) kn (fun j _ hn => k.2 _ hn) (fun j _ hn => by omega)
theorem CpH.tw {h h' h2 h3 : H} {t : TxQ} {q r : Nat} {cs ds : List V} (c : CpH h h' t q r cs ds) (i0 : InQ) (rest : List InQ) (et : t.ins = i0 :: rest) (n : Nat) (k : Kp h' h2) (e3 : h2.put q (.cells (cs.set 32 (.int .u32 (n : Int))) .rw) = h3) : TxC (fun j => j < h3.next) h3 ⟨t.ver, ⟨i0.tx, n, i0.l, i0.q⟩ :: rest, t.outs, t.lock⟩ (txV t (some (q, 0)) (some (r, 0)) none none 35 2) := by
  have kn := k.1
  have q2 := c.q2
  have r2 := c.r2
  have qr := c.qr
  have n3 : h3.next = h2.next := by rw [← e3]; rfl
  have g3 : h3.get q = some (.cells (cs.set 32 (.int .u32 (n : Int))) .rw) := by rw [← e3]; exact h_put_same _ _ _
  have f3 : ∀ j, j ≠ q → h3.get j = h2.get j := fun j hj => by rw [← e3, h_put_ne _ _ (Ne.symm hj)]
  have ll : t.ins.length = rest.length + 1 := by rw [et]; rfl
  have lc := c.lc
  refine ⟨some (q, 0), some (r, 0), none, none, 35, 2, by rw [txV, txV, ll]; rfl, .inr ⟨q, 0, _, .rw, rfl, rfl, by omega, by omega, g3, by rw [List.length_set, lc, ll, List.length_cons]; omega, fun i o ho => ?_⟩, .inr ⟨r, 0, ds, .rw, rfl, rfl, by omega, by omega, by rw [f3 _ (Ne.symm qr), k.2 _ c.r2, c.gr], by rw [c.ld]; show 0 + t.outs.length * 2 ≤ t.outs.length * 2; omega, fun i o ho => ?_⟩⟩
  · rw [Nat.zero_add]
    have pt := part35 cs 0 i (.int .u32 (n : Int)) 32 (by omega)
    rw [Nat.zero_mul, Nat.zero_add] at pt
    rw [pt]
    cases i with
    | zero =>
      rw [if_pos rfl]
      cases ho
      obtain ⟨b, cb, eb, eP, ss, l32⟩ := c.ai 0 i0 (by rw [et]; rfl)
      rw [eP]
      exact ⟨b, cb, eb, inV_s32 i0 b cb eb n l32, ss.mono2 (by omega) (fun j hj hn => by rw [f3 _ hj.2.1, k.2 _ hn]) (fun j _ hn => by omega), l32⟩
    | succ i =>
      rw [if_neg (by omega)]
      exact itIn.mono (c.ai (i + 1) o (by rw [et]; exact ho)) (by omega) (fun j hj hn => by rw [f3 _ hj.2.1, k.2 _ hn]) (fun j _ hn => by omega)
  · rw [Nat.zero_add]
    exact itOut.mono (c.ao i o ho) (by omega) (fun j hj hn => by rw [f3 _ hj.2.1, k.2 _ hn]) (fun j _ hn => by omega)
set_option maxRecDepth 100000 in
set_option maxHeartbeats 4000000 in
theorem law_TxApart (e : EnAp E) (el : E k_purserlaw06_TxApart = some f_purserlaw06_TxApart) (M : Nat) (hM : 500000 < M) (t u : TxQ) (ok : t.ok) (uk : u.ok) (li : t.ins.length < 9223372036854775807) (lo : t.outs.length < 9223372036854775807) (ui : u.ins.length < 9223372036854775807) (uo : u.outs.length < 9223372036854775807) (P1 P2 : List V) (by_ : Nat) (hby : by_ < 4294967296) (h : H) (tc : TxC (fun j => j < h.next) h t P1) (uc : TxC (fun j => j < h.next) h u P2) :
    ∃ h2, callX E (alT k_purserlaw06_alive) (M + 200) (.fn k_purserlaw06_TxApart) [.agg P1, .agg P2, .int .u32 (by_ : Int)] h = some (.bool true, h2) := by
  rw [x_cfn el _ _ (Nat.le_of_ble_eq_true rfl) rfl]
  rw [show ([.int .u32 0, .slice none 0 (some 0) 0, .slice none 0 (some 0) 0, .int .u32 0] : List V) = Z4 from rfl, show ([.int .u8 0, .int .u8 0, .int .u8 0, .int .u8 0, .int .u8 0, .int .u8 0, .int .u8 0, .int .u8 0, .int .u8 0, .int .u8 0, .int .u8 0, .int .u8 0, .int .u8 0, .int .u8 0, .int .u8 0, .int .u8 0, .int .u8 0, .int .u8 0, .int .u8 0, .int .u8 0, .int .u8 0, .int .u8 0, .int .u8 0, .int .u8 0, .int .u8 0, .int .u8 0, .int .u8 0, .int .u8 0, .int .u8 0, .int .u8 0, .int .u8 0, .int .u8 0] : List V) = ofI .u8 (List.replicate 32 0) from rfl]
  obtain ⟨Z, eZ⟩ : ∃ Z, ofI .u8 (List.replicate 32 0) = Z := ⟨_, rfl⟩
  obtain ⟨L3, eL32⟩ : ∃ L : List Lf, List.replicate 32 Lf.i = L := ⟨_, rfl⟩
  rw [eZ, show ([.i, .i, .i, .i, .i, .i, .i, .i, .i, .i, .i, .i, .i, .i, .i, .i, .i, .i, .i, .i, .i, .i, .i, .i, .i, .i, .i, .i, .i, .i, .i, .i] : List Lf) = List.replicate 32 Lf.i from rfl, eL32]
  have xs : NoAp (alT k_purserlaw06_alive) := NoAp.al
  have al : ∀ h, callX E (alT k_purserlaw06_alive) (M + 199) (.fn k_purserlaw06_alive) [] h = some (.bool true, h) := fun h => x_known rfl
  have ca' : ∀ l : List V, (V.agg l).cells = l := fun _ => rfl
  obtain ⟨hb, ehb⟩ : ∃ hb, (h.new (.cells P1 .rw)).new (.cells P2 .rw) = hb := ⟨_, rfl⟩
  have kb : Kp h hb := by rw [← ehb]; (repeat (first | exact Kp.refl _ | refine Kp.put ?_ _ (by first | omega | (simp only [h_next_put, h_next_new, h_next_del]; omega)) | refine Kp.del ?_ (by first | omega | (simp only [h_next_put, h_next_new, h_next_del]; omega)) | refine Kp.trans ?_ (Kp.new _ _)))
  have nb : hb.next = h.next + 2 := by rw [← ehb]; rfl
  have g0 : hb.get h.next = some (.cells P1 .rw) := by rw [← ehb]; (simp (disch := omega) only [h_new_get, h_next_new, Nat.add_eq_left, decide_true, decide_false, iteN_true, iteN_false, reduceCtorEq, ]; try rfl)
  have g0u : hb.get (h.next + 1) = some (.cells P2 .rw) := by rw [← ehb]; (simp (disch := omega) only [h_new_get, h_next_new, decide_true, iteN_true, ]; try rfl)
  have lP1 := fun m => fit_ld tc.fit m
  have lP2 := fun m => fit_ld uc.fit m
  have b1 := tx_beq tc
  have b2 := tx_beq uc
  obtain ⟨h1, r, gr, k1, hr⟩ := gr6_go e.tb.gr xs.tb.gr (M + 198) (by omega) t li lo P1 hb (tc.kp kb)
  replace gr : callX E (alT k_purserlaw06_alive) (M + 199) (.fn k_purserref06_Great) _ hb = _ := gr
  have kn1 := k1.1
  have g1 : h1.get h.next = some (.cells P1 .rw) := by rw [k1.2 _ (by omega), g0]
  have g1u : h1.get (h.next + 1) = some (.cells P2 .rw) := by rw [k1.2 _ (by omega), g0u]
  have y1 : decide ((0 : Int) < 1) = true := rfl
  have y0 : decide ((0 : Int) < 0) = false := rfl
  have z0 : decide ((0 : Int) = 0) = true := rfl
  have z6 : decide ((60 : Int) = 0) = false := rfl
  rcases hr with ⟨gok, rfl⟩ | ⟨_, rfl⟩
  rotate_left
  · simp (config := {maxSteps := 2000000}) (disch := first | omega | (simp only [List.length_cons, List.length_nil, List.length_append, List.length_drop]; omega)) only [ca', ehb, g0, lP1, al, gr, Bool.not_true, ↓s_box, Nat.zero_add, h_next_new, ↓s_load, m_load, Int.reduceLT, Nat.reduceAdd, s_res0, ↓s_ops, ↓s_seq, ↓s_cond, ↓s_ret, ↓s_nil, ↓s_op, ↓s_opg, ↓s_wanted', ↓s_wantV, s_wantV, beq_false, ↓s_bindS, s_bindS, ↓s_bindE, s_bindE, s_bindE_ret, s_norm, ↓s_condV, s_condV, ↓s_getp, ↓s_get, ↓s_con, ↓s_os0, ↓s_os1, ↓s_list0, ↓s_list1, ↓s_mov, ↓s_pick, ↓s_pickE, s_pickE, ↓s_bin, ↓s_call, s_same, b_gtr, s_end, s_res0, s_res1, s_tup1, ↓iteN_true, ↓iteN_false, iteN_true, iteN_false, Nat.zero_add, Nat.reduceEqDiff, decide_true, decide_false, Bool.not_true]
    exact ⟨_, rfl⟩
  obtain ⟨h2, r2, gr2, k2, hr2⟩ := gr6_go e.tb.gr xs.tb.gr (M + 198) (by omega) u ui uo P2 h1 (uc.kp (kb.trans k1))
  replace gr2 : callX E (alT k_purserlaw06_alive) (M + 199) (.fn k_purserref06_Great) _ h1 = _ := gr2
  have kn2 := k2.1
  have g2 : h2.get h.next = some (.cells P1 .rw) := by rw [k2.2 _ (by omega), g1]
  have g2u : h2.get (h.next + 1) = some (.cells P2 .rw) := by rw [k2.2 _ (by omega), g1u]
  rcases hr2 with ⟨guk, rfl⟩ | ⟨_, rfl⟩
  rotate_left
  · simp (config := {maxSteps := 2000000}) (disch := first | omega | (simp only [List.length_cons, List.length_nil, List.length_append, List.length_drop]; omega)) only [ca', ehb, g0, g1u, lP1, lP2, al, gr, gr2, Bool.not_true, ↓s_box, Nat.zero_add, h_next_new, ↓s_load, m_load, Int.reduceLT, Nat.reduceAdd, s_res0, ↓s_ops, ↓s_seq, ↓s_cond, ↓s_ret, ↓s_nil, ↓s_op, ↓s_opg, ↓s_wanted', ↓s_wantV, s_wantV, beq_false, ↓s_bindS, s_bindS, ↓s_bindE, s_bindE, s_bindE_ret, s_norm, ↓s_condV, s_condV, ↓s_getp, ↓s_get, ↓s_con, ↓s_os0, ↓s_os1, ↓s_list0, ↓s_list1, ↓s_mov, ↓s_pick, ↓s_pickE, s_pickE, ↓s_bin, ↓s_call, s_same, b_gtr, s_end, s_res0, s_res1, s_tup1, ↓iteN_true, ↓iteN_false, iteN_true, iteN_false, Nat.zero_add, Nat.reduceEqDiff, decide_true, decide_false, Bool.not_true, beq_self_eq_true]
    exact ⟨_, rfl⟩
  have k02 : Kp h h2 := (kb.trans k1).trans k2
  -- encoded, the first
  have enc1 : ∃ v z h3, callX E (alT k_purserlaw06_alive) (M + 199) (.fn k_tx_Encode) [.agg P1] h2 = some (.tup [v, .int .i64 z], h3) ∧ Kp h2 h3 ∧ ((ckOk t ∧ z = 0 ∧ ∃ a c e', v = .slice a (txB t).length c e' ∧ Nw h2 h3 (txB t) a c e') ∨ (¬ ckOk t ∧ z = 60)) := by
    rcases enc_go e.tb.te xs.tb.te e.tb.tc xs.tb.tc (M + 192) (by omega) t ok gok P1 h2 (tc.kp k02) with ⟨ck, h3, a, c, e', r, nw⟩ | ⟨no, h3, r, k⟩
    · exact ⟨_, _, h3, r, nw.kp, .inl ⟨ck, rfl, a, c, e', rfl, nw⟩⟩
    · exact ⟨_, _, h3, r, k, .inr ⟨no, rfl⟩⟩
  obtain ⟨v3, z3, h3, r3, k3, hd3⟩ := enc1
  have kn3 := k3.1
  have enc2 : ∃ v z h4, callX E (alT k_purserlaw06_alive) (M + 199) (.fn k_tx_Encode) [.agg P2] h3 = some (.tup [v, .int .i64 z], h4) ∧ Kp h3 h4 ∧ ((ckOk u ∧ z = 0 ∧ ∃ a c e', v = .slice a (txB u).length c e' ∧ Nw h3 h4 (txB u) a c e') ∨ (¬ ckOk u ∧ z = 60)) := by
    rcases enc_go e.tb.te xs.tb.te e.tb.tc xs.tb.tc (M + 192) (by omega) u uk guk P2 h3 (uc.kp (k02.trans k3)) with ⟨ck, h4, a, c, e', r, nw⟩ | ⟨no, h4, r, k⟩
    · exact ⟨_, _, h4, r, nw.kp, .inl ⟨ck, rfl, a, c, e', rfl, nw⟩⟩
    · exact ⟨_, _, h4, r, k, .inr ⟨no, rfl⟩⟩
  obtain ⟨v4, z4, h4, r4, k4, hd4⟩ := enc2
  have kn4 := k4.1
  have g3u : h3.get (h.next + 1) = some (.cells P2 .rw) := by rw [k3.2 _ (by omega), g2u]
  have g4 : h4.get h.next = some (.cells P1 .rw) := by rw [k4.2 _ (by omega), k3.2 _ (by omega), g2]
  have g4u : h4.get (h.next + 1) = some (.cells P2 .rw) := by rw [k4.2 _ (by omega), g3u]
  have k04 : Kp h h4 := (k02.trans k3).trans k4
  obtain ⟨s5, z5, h5, r5, k5, l5, hd5⟩ := txid_go e.tw xs.tw e.tb.te xs.tb.te e.tb.tc xs.tb.tc e.id_ xs.id_ (M + 115) (by omega) t ok gok P1 h4 (tc.kp k04)
  replace r5 : callX E (alT k_purserlaw06_alive) (M + 199) (.fn k_tx_Id) _ h4 = _ := r5
  have kn5 := k5.1
  obtain ⟨st5, pu5, ld5⟩ := z32_st s5 l5 Z eZ
  have gz5 : (h5.new (.cells Z .rw)).get h5.next = some (.cells Z .rw) := h_new_same _ _
  obtain ⟨h6, eh6⟩ : ∃ h6, (h5.new (.cells Z .rw)).put h5.next (.cells (ofI .u8 s5) .rw) = h6 := ⟨_, rfl⟩
  have k56 : Kp h5 h6 := by rw [← eh6]; (repeat (first | exact Kp.refl _ | refine Kp.put ?_ _ (by first | omega | (simp only [h_next_put, h_next_new, h_next_del]; omega)) | refine Kp.del ?_ (by first | omega | (simp only [h_next_put, h_next_new, h_next_del]; omega)) | refine Kp.trans ?_ (Kp.new _ _)))
  have n6 : h6.next = h5.next + 1 := by rw [← eh6]; rfl
  have g65 : h6.get h5.next = some (.cells (ofI .u8 s5) .rw) := by rw [← eh6]; exact h_put_same _ _ _
  rcases hd3 with ⟨ck, rfl, a3, c3, e3, rfl, nw3⟩ | ⟨_, rfl⟩
  rotate_left
  · clear hd4 hd5
    generalize ofI .u8 s5 = S5 at *
    simp (config := {maxSteps := 2000000}) (disch := first | omega | (simp only [List.length_cons, List.length_nil, List.length_append, List.length_drop]; omega)) only [ca', ehb, g0, g1u, g2, g3u, g4, lP1, lP2, al, gr, gr2, r3, r4, r5, st5, pu5, eh6, Bool.not_true, Bool.not_false, ↓s_box, Nat.zero_add, ↓h_new_get, h_next_new, ↓s_load, m_load, ↓m_st, m_stE, ↓s_alloc, Int.reduceLT, Nat.reduceAdd, Int.reduceEq, s_res0, ↓s_skip, ↓s_ops, ↓s_seq, ↓s_cond, ↓s_ret, ↓s_nil, ↓s_op, ↓s_opg, ↓s_wanted', ↓s_wantV, s_wantV, beq_false, ↓s_bindS, s_bindS, ↓s_bindE, s_bindE, s_bindE_ret, s_norm, ↓s_condV, s_condV, ↓s_getp, ↓s_getp0, ↓s_get, ↓s_con, ↓s_os0, ↓s_os1, ↓s_list0, ↓s_list1, ↓s_mov, ↓s_pick, ↓s_pickE, s_pickE, ↓s_bin, ↓s_un, ↓s_call, ↓s_ext, s_same, b_neq, b_gtr, u_not, s_end, s_res0, s_res1, s_tup1, ↓iteN_true, ↓iteN_false, iteN_true, iteN_false, Nat.zero_add, Nat.reduceEqDiff, decide_true, decide_false, Bool.not_true, Bool.not_false, List.getElem?_cons_zero, List.getElem?_cons_succ, beq_self_eq_true]
    exact ⟨_, rfl⟩
  rcases hd4 with ⟨cku, rfl, a4, c4, e4, rfl, nw4⟩ | ⟨_, rfl⟩
  rotate_left
  · clear hd5 nw3
    generalize (txB t).length = n3 at *
    generalize ofI .u8 s5 = S5 at *
    simp (config := {maxSteps := 2000000}) (disch := first | omega | (simp only [List.length_cons, List.length_nil, List.length_append, List.length_drop]; omega)) only [ca', ehb, g0, g1u, g2, g3u, g4, lP1, lP2, al, gr, gr2, r3, r4, r5, st5, pu5, eh6, Bool.not_true, Bool.not_false, ↓s_box, Nat.zero_add, ↓h_new_get, h_next_new, ↓s_load, m_load, ↓m_st, m_stE, ↓s_alloc, Int.reduceLT, Nat.reduceAdd, Int.reduceEq, s_res0, ↓s_skip, ↓s_ops, ↓s_seq, ↓s_cond, ↓s_ret, ↓s_nil, ↓s_op, ↓s_opg, ↓s_wanted', ↓s_wantV, s_wantV, ↓s_bindS, s_bindS, ↓s_bindE, s_bindE, s_bindE_ret, s_norm, ↓s_condV, s_condV, ↓s_getp, ↓s_getp0, ↓s_get, ↓s_con, ↓s_os0, ↓s_os1, ↓s_list0, ↓s_list1, ↓s_mov, ↓s_pick, ↓s_pickE, s_pickE, ↓s_bin, ↓s_un, ↓s_call, ↓s_ext, s_same, b_neq, b_gtr, u_not, s_end, s_res0, s_res1, s_tup1, ↓iteN_true, ↓iteN_false, iteN_true, iteN_false, Nat.zero_add, Nat.reduceEqDiff, decide_true, decide_false, Bool.not_true, Bool.not_false, List.getElem?_cons_zero, List.getElem?_cons_succ, beq_self_eq_true]
    exact ⟨_, rfl⟩
  obtain ⟨es5, rfl⟩ := hd5 ck
  have lB := txB_le t ok gok
  have k36 : Kp h3 h6 := (k4.trans k5).trans k56
  have k46 : Kp h4 h6 := k5.trans k56
  have k06 : Kp h h6 := k04.trans k46
  obtain ⟨h7, r7, k7⟩ := tw2_go e.tw xs.tw (M + 116) (by omega) (txB t) (by omega) (by omega) a3 c3 e3 h6 (nw3.wb.kp k36).src
  replace r7 : callX E (alT k_purserlaw06_alive) (M + 199) (.fn k_sha_Twice) _ h6 = _ := r7
  rw [← es5] at r7
  have kn7 := k7.1
  have bt := txB_byt t ok
  have bu := txB_byt u uk
  have k07 : Kp h h7 := k06.trans k7
  have g6 : h6.get h.next = some (.cells P1 .rw) := by rw [k46.2 _ (by omega), g4]
  have g6u : h6.get (h.next + 1) = some (.cells P2 .rw) := by rw [k46.2 _ (by omega), g4u]
  have g7 : h7.get h.next = some (.cells P1 .rw) := by rw [k7.2 _ (by omega), g6]
  have g7u : h7.get (h.next + 1) = some (.cells P2 .rw) := by rw [k7.2 _ (by omega), g6u]
  have g75 : h7.get h5.next = some (.cells (ofI .u8 s5) .rw) := by rw [k7.2 _ (by omega), g65]
  have lck := ck
  obtain ⟨⟨i1, i50⟩, ⟨o1, o50⟩, sck⟩ := lck
  obtain ⟨h8, r8, k8⟩ := txsame_go e.tb.ts xs.tb.ts (M + 195) (by omega) t u ok uk ⟨by omega, by omega⟩ ⟨ui, uo⟩ P1 P2 h7 (tc.kp k07) (uc.kp k07)
  replace r8 : callX E (alT k_purserlaw06_alive) (M + 199) (.fn k_tx_Same) _ h7 = _ := r8
  have kn8 := k8.1
  have g8 : h8.get h.next = some (.cells P1 .rw) := by rw [k8.2 _ (by omega), g7]
  have g8u : h8.get (h.next + 1) = some (.cells P2 .rw) := by rw [k8.2 _ (by omega), g7u]
  have g85 : h8.get h5.next = some (.cells (ofI .u8 s5) .rw) := by rw [k8.2 _ (by omega), g75]
  have k08 : Kp h h8 := k07.trans k8
  have nq := fun h => flneq h L3 _ _ _ (hash_self s5 l5 L3 eL32.symm)
  have s36 := str_src (nw3.wb.kp k36).src bt c3
  have s37 := str_src (nw3.wb.kp (k36.trans k7)).src bt c3
  have s38 := str_src (nw3.wb.kp ((k36.trans k7).trans k8)).src bt c3
  have s46 := str_src (nw4.wb.kp k46).src bu c4
  have s47 := str_src (nw4.wb.kp (k46.trans k7)).src bu c4
  have s48 := str_src (nw4.wb.kp ((k46.trans k7).trans k8)).src bu c4
  have dtu : decide (txB t = txB u) = decide (t = u) := decide_eq_decide.2 ⟨fun h => txB_inj t u ok uk ck cku h, fun h => by rw [h]⟩
  -- the copies
  obtain ⟨h9, cs1, ds1, r9, k9, cp9⟩ := txcopy_go e.cp xs.cp (M + 197) (by omega) t gok (by omega) (by omega) P1 h8 (tc.kp k08)
  replace r9 : callX E (alT k_purserlaw06_alive) (M + 199) (.fn k_tx_Copy) _ h8 = _ := r9
  obtain ⟨q1, eq1⟩ : ∃ q, h8.next + 3 = q := ⟨_, rfl⟩
  obtain ⟨p1, ep1⟩ : ∃ q, h8.next + 5 = q := ⟨_, rfl⟩
  rw [eq1, ep1] at r9 cp9
  have kn9 := k9.1
  obtain ⟨V1, eV1⟩ : ∃ V1, txV t (some (q1, 0)) (some (p1, 0)) none none 35 2 = V1 := ⟨_, rfl⟩
  obtain ⟨W1, eW1⟩ : ∃ V1, txV ⟨t.ver, t.ins, t.outs, ad t.lock by_⟩ (some (q1, 0)) (some (p1, 0)) none none 35 2 = V1 := ⟨_, rfl⟩
  have fV1 : Fit 4 V1 := by rw [← eV1]; exact ⟨rfl, rfl⟩
  have fW1 : Fit 4 W1 := by rw [← eW1]; exact ⟨rfl, rfl⟩
  rw [eV1] at r9
  have stV := fun h i => fit_st fV1 h i
  have puV := fun h i => fit_put fV1 h i Z4 rfl
  have V13 : V1[3]? = some (.int .u32 (t.lock : Int)) := by rw [← eV1]; rfl
  have V1s : ∀ h i, storeE (some (.cells V1 .rw)) h i 3 [.int .u32 ((ad t.lock by_ : Nat) : Int)] = some (h.put i (.cells W1 .rw)) := fun h i => by
    rw [m_storeE _ _ _ _ _ (by rw [fV1.1]; simp only [List.length_cons, List.length_nil]; omega), ← eV1, ← eW1]; rfl
  have gz9 : (h9.new (.cells Z4 .rw)).get h9.next = some (.cells Z4 .rw) := h_new_same _ _
  obtain ⟨h10, eh10⟩ : ∃ h10, (h9.new (.cells Z4 .rw)).put h9.next (.cells V1 .rw) = h10 := ⟨_, rfl⟩
  have k910 : Kp h9 h10 := by rw [← eh10]; (repeat (first | exact Kp.refl _ | refine Kp.put ?_ _ (by first | omega | (simp only [h_next_put, h_next_new, h_next_del]; omega)) | refine Kp.del ?_ (by first | omega | (simp only [h_next_put, h_next_new, h_next_del]; omega)) | refine Kp.trans ?_ (Kp.new _ _)))
  have n10 : h10.next = h9.next + 1 := by rw [← eh10]; rfl
  have g109 : h10.get h9.next = some (.cells V1 .rw) := by rw [← eh10]; exact h_put_same _ _ _
  obtain ⟨h11, eh11⟩ : ∃ h11, h10.put h9.next (.cells W1 .rw) = h11 := ⟨_, rfl⟩
  have n11 : h11.next = h10.next := by rw [← eh11]; rfl
  have g119 : h11.get h9.next = some (.cells W1 .rw) := by rw [← eh11]; exact h_put_same _ _ _
  have k911 : Kp h9 h11 := ⟨by omega, fun j hj => by rw [← eh11, h_put_ne _ _ (by omega), k910.2 _ hj]⟩
  have k811 : Kp h8 h11 := k9.trans k911
  have g11 : h11.get h.next = some (.cells P1 .rw) := by rw [k811.2 _ (by omega), g8]
  have k011 : Kp h h11 := k08.trans k811
  obtain ⟨h12, cs2, ds2, r12, k12, cp12⟩ := txcopy_go e.cp xs.cp (M + 197) (by omega) t gok (by omega) (by omega) P1 h11 (tc.kp k011)
  replace r12 : callX E (alT k_purserlaw06_alive) (M + 199) (.fn k_tx_Copy) _ h11 = _ := r12
  obtain ⟨q2, eq2⟩ : ∃ q, h11.next + 3 = q := ⟨_, rfl⟩
  obtain ⟨p2, ep2⟩ : ∃ q, h11.next + 5 = q := ⟨_, rfl⟩
  rw [eq2, ep2] at r12 cp12
  have kn12 := k12.1
  have q2l := cp12.q2
  obtain ⟨V2, eV2⟩ : ∃ V1, txV t (some (q2, 0)) (some (p2, 0)) none none 35 2 = V1 := ⟨_, rfl⟩
  have fV2 : Fit 4 V2 := by rw [← eV2]; exact ⟨rfl, rfl⟩
  rw [eV2] at r12
  have stV2 := fun h i => fit_st fV2 h i
  have puV2 := fun h i => fit_put fV2 h i Z4 rfl
  have V21 : V2[1]? = some (.slice (some (q2, 0)) t.ins.length none 35) := by rw [← eV2]; rfl
  have gz12 : (h12.new (.cells Z4 .rw)).get h12.next = some (.cells Z4 .rw) := h_new_same _ _
  obtain ⟨h13, eh13⟩ : ∃ h13, (h12.new (.cells Z4 .rw)).put h12.next (.cells V2 .rw) = h13 := ⟨_, rfl⟩
  have k1213 : Kp h12 h13 := by rw [← eh13]; (repeat (first | exact Kp.refl _ | refine Kp.put ?_ _ (by first | omega | (simp only [h_next_put, h_next_new, h_next_del]; omega)) | refine Kp.del ?_ (by first | omega | (simp only [h_next_put, h_next_new, h_next_del]; omega)) | refine Kp.trans ?_ (Kp.new _ _)))
  have n13 : h13.next = h12.next + 1 := by rw [← eh13]; rfl
  have g1312 : h13.get h12.next = some (.cells V2 .rw) := by rw [← eh13]; exact h_put_same _ _ _
  have g13q : h13.get q2 = some (.cells cs2 .rw) := by rw [k1213.2 _ cp12.q2, cp12.gq]
  obtain ⟨i0, rest, et⟩ : ∃ i0 rest, t.ins = i0 :: rest := by
    cases hh : t.ins with
    | nil => rw [hh] at i1; simp at i1
    | cons i0 rest => exact ⟨i0, rest, rfl⟩
  have ik := ok.io i0 (by rw [et]; exact List.mem_cons_self)
  have c32 : cs2[32]? = some (.int .u32 (i0.n : Int)) := by
    obtain ⟨b, cb, eb, eP, _, l32⟩ := cp12.ai 0 i0 (by rw [et]; rfl)
    rw [Nat.zero_mul, List.drop_zero] at eP
    have := congrArg (fun l => l[32]?) eP
    simp only [List.getElem?_take_of_lt (show 32 < 35 by omega)] at this
    rw [this]; exact inV_32 i0 b cb eb l32
  have lc2 := cp12.lc
  obtain ⟨n', en'⟩ : ∃ n', ad i0.n by_ = n' := ⟨_, rfl⟩
  have hn' : n' < 4294967296 := by rw [← en']; exact ad_lt _ _
  have w1 : wr .u32 ((i0.n : Int) + (by_ : Int)) = ((n' : Nat) : Int) := by rw [w32ad, en']
  have w2 : wr .u32 ((t.lock : Int) + (by_ : Int)) = ((ad t.lock by_ : Nat) : Int) := w32ad _ _
  have csS : ∀ h i, storeE (some (.cells cs2 .rw)) h i 32 [.int .u32 (n' : Int)] = some (h.put i (.cells (cs2.set 32 (.int .u32 (n' : Int))) .rw)) := fun h i => by
    rw [m_storeE _ _ _ _ _ (by rw [lc2]; simp only [List.length_cons, List.length_nil]; omega), writeN_set]
    rw [lc2]; omega
  obtain ⟨h14, eh14⟩ : ∃ h14, h13.put q2 (.cells (cs2.set 32 (.int .u32 (n' : Int))) .rw) = h14 := ⟨_, rfl⟩
  have tw14 := cp12.tw i0 rest et n' k1213 eh14
  rw [eV2] at tw14
  have n14 : h14.next = h13.next := by rw [← eh14]; rfl
  have q11 : h11.next ≤ q2 := by omega
  have k1114 : Kp h11 h14 := ⟨by omega, fun j hj => by rw [← eh14, h_put_ne _ _ (by omega), k1213.2 _ (by omega), k12.2 _ hj]⟩
  have g1412 : h14.get h12.next = some (.cells V2 .rw) := by rw [← eh14, h_put_ne _ _ (by omega), g1312]
  have g149 : h14.get h9.next = some (.cells W1 .rw) := by rw [k1114.2 _ (by omega), g119]
  have g14 : h14.get h.next = some (.cells P1 .rw) := by rw [k1114.2 _ (by omega), g11]
  have k914 : Kp h9 h14 := k911.trans k1114
  have tv14 := cp9.tx k914 (ad t.lock by_)
  rw [eW1] at tv14
  -- their bytes
  have okv : (⟨t.ver, t.ins, t.outs, ad t.lock by_⟩ : TxQ).ok := ⟨ok.v1, ok.io, ok.oo, ad_lt _ _⟩
  have ckv : ckOk (⟨t.ver, t.ins, t.outs, ad t.lock by_⟩ : TxQ) := ck
  have okw : (⟨t.ver, ⟨i0.tx, n', i0.l, i0.q⟩ :: rest, t.outs, t.lock⟩ : TxQ).ok := ⟨ok.v1, fun o ho => by
    rcases List.mem_cons.1 ho with rfl | ho
    · exact ⟨ik.lt, ik.bt, hn', ik.bl, ik.q1⟩
    · exact ok.io o (by rw [et]; exact List.mem_cons_of_mem _ ho), ok.oo, ok.l1⟩
  have ckw : ckOk (⟨t.ver, ⟨i0.tx, n', i0.l, i0.q⟩ :: rest, t.outs, t.lock⟩ : TxQ) := by
    refine ⟨?_, ⟨o1, o50⟩, ?_, sck.2⟩
    · rw [et] at i1 i50; exact ⟨i1, i50⟩
    · intro o ho
      rcases List.mem_cons.1 ho with rfl | ho
      · exact sck.1 i0 (by rw [et]; exact List.mem_cons_self)
      · exact sck.1 o (by rw [et]; exact List.mem_cons_of_mem _ ho)
  rcases enc_go e.tb.te xs.tb.te e.tb.tc xs.tb.tc (M + 192) (by omega) _ okv (gt_of ckv) W1 h14 tv14 with ⟨_, h15, a15, c15, e15, r15, nw15⟩ | ⟨no, _⟩
  rotate_left
  · exact absurd ckv no
  replace r15 : callX E (alT k_purserlaw06_alive) (M + 199) (.fn k_tx_Encode) _ h14 = _ := r15
  have k15 := nw15.kp
  have kn15 := k15.1
  rcases enc_go e.tb.te xs.tb.te e.tb.tc xs.tb.tc (M + 192) (by omega) _ okw (gt_of ckw) V2 h15 (tw14.kp k15) with ⟨_, h16, a16, c16, e16, r16, nw16⟩ | ⟨no, _⟩
  rotate_left
  · exact absurd ckw no
  replace r16 : callX E (alT k_purserlaw06_alive) (M + 199) (.fn k_tx_Encode) _ h15 = _ := r16
  have k16 := nw16.kp
  have kn16 := k16.1
  have k1416 : Kp h14 h16 := k15.trans k16
  have g1512 : h15.get h12.next = some (.cells V2 .rw) := by rw [k15.2 _ (by omega), g1412]
  have g169 : h16.get h9.next = some (.cells W1 .rw) := by rw [k1416.2 _ (by omega), g149]
  have g16 : h16.get h.next = some (.cells P1 .rw) := by rw [k1416.2 _ (by omega), g14]
  have k016 : Kp h h16 := (k011.trans k1114).trans k1416
  obtain ⟨h17, r17, k17⟩ := txsame_go e.tb.ts xs.tb.ts (M + 195) (by omega) _ t okv ok ⟨by show t.ins.length ≤ 900; omega, by show t.outs.length ≤ 900; omega⟩ ⟨li, lo⟩ W1 P1 h16 (tv14.kp k1416) (tc.kp k016)
  replace r17 : callX E (alT k_purserlaw06_alive) (M + 199) (.fn k_tx_Same) _ h16 = _ := r17
  have s15 := str_src (nw15.wb.kp k16).src (txB_byt _ okv) c15
  have s16 := str_src nw16.wb.src (txB_byt _ okw) c16
  have k816 : Kp h8 h16 := (k811.trans k1114).trans k1416
  have sA := str_src (nw3.wb.kp (((k36.trans k7).trans k8).trans k816)).src bt c3
  have bz : (((by_ : Nat) : Int) = 0) ↔ by_ = 0 := by omega
  have dv0 : decide ((⟨t.ver, t.ins, t.outs, ad t.lock by_⟩ : TxQ) = t) = decide ((by_ : Int) = 0) := decide_eq_decide.2 ⟨fun h => by
    have := congrArg TxQ.lock h
    exact bz.2 ((ad_same _ _ ok.l1 hby).1 this), fun h => by
    have := (ad_same t.lock by_ ok.l1 hby).2 (bz.1 h)
    rw [this]⟩
  have dv : decide (txB (⟨t.ver, t.ins, t.outs, ad t.lock by_⟩ : TxQ) = txB t) = decide ((by_ : Int) = 0) := by
    rw [← dv0]
    exact decide_eq_decide.2 ⟨fun h => txB_inj _ t okv ok ckv ck h, fun h => by rw [h]⟩
  have dw : decide (txB (⟨t.ver, ⟨i0.tx, n', i0.l, i0.q⟩ :: rest, t.outs, t.lock⟩ : TxQ) = txB t) = decide ((by_ : Int) = 0) := decide_eq_decide.2 ⟨fun h => by
    have h1 := txB_inj _ t okw ok ckw ck h
    have h2 := congrArg TxQ.ins h1
    simp only at h2
    rw [et] at h2
    have h3 := congrArg InQ.n (List.cons.inj h2).1
    simp only at h3
    rw [← en'] at h3
    exact bz.2 ((ad_same _ _ ik.n1 hby).1 h3), fun h => by
    have h1 : n' = i0.n := by rw [← en']; exact (ad_same i0.n by_ ik.n1 hby).2 (bz.1 h)
    rw [h1]
    have : (⟨t.ver, ⟨i0.tx, i0.n, i0.l, i0.q⟩ :: rest, t.outs, t.lock⟩ : TxQ) = t := by
      rw [show (⟨i0.tx, i0.n, i0.l, i0.q⟩ : InQ) = i0 from rfl, ← et]
    rw [this]⟩
  rw [dv0] at r17
  have lW1 := fun m => fit_ld fW1 m
  have lV2 := fun m => fit_ld fV2 m
  have ix : idx 0 t.ins.length = some 0 := idxn (i := 0) i1
  have bS5 := vbeq_I .u8 s5
  have b_eqbb : ∀ (h : H) (a : Bool), binV .eql .bool h (.bool a) (.bool a) = some (.bool true) := fun h a => by cases a <;> rfl
  generalize (txB (⟨t.ver, t.ins, t.outs, ad t.lock by_⟩ : TxQ)) = BV at *
  generalize (txB (⟨t.ver, ⟨i0.tx, n', i0.l, i0.q⟩ :: rest, t.outs, t.lock⟩ : TxQ)) = BW at *
  generalize txB t = BT at *
  generalize txB u = BU at *
  generalize BT.length = nt at *
  generalize BU.length = nu at *
  generalize BV.length = nv at *
  generalize BW.length = nw at *
  generalize t.ins.length = ni at *
  generalize decide (t = u) = dd at *
  generalize ofI .u8 s5 = S5 at *
  generalize Z4 = z4 at *
  generalize ad t.lock by_ = lk at *
  simp (config := {maxSteps := 2000000}) (disch := first | omega | (simp only [List.length_cons, List.length_nil, List.length_append, List.length_drop]; omega)) only [ca', ehb, g0, g1u, g2, g3u, g4, lP1, lP2, al, gr, gr2, r3, r4, r5, st5, pu5, ld5, eh6, g65, g75, r7, nq, s37, s38, s47, s48, b_seq, ↓ns_b2s, dtu, r8, g7, g7u, g8, b_neqbb, bS5, vbeq_str, r9, stV, puV, eh10, g109, V13, w2, V1s, eh11, g11, r12, stV2, puV2, eh13, g1312, V21, ix, g13q, c32, w1, csS, eh14, g149, lW1, r15, g1512, lV2, r16, s15, s16, sA, dv, dw, b_eqbb, g169, g16, r17, Nat.zero_mul, Bool.and_self, Bool.not_true, ↓s_box, ↓x_fieldAddr, x_fieldV, Nat.zero_add, Nat.add_zero, ↓s_evD, ↓s_dnil, ↓s_dL, ↓s_dLg, ↓s_dR, ↓s_dRg, ↓s_dRjg, ↓s_dB, ↓s_dBg, ↓s_bindD, s_bindD, s_finD, s_finDx, s_addP0, ↓s_bump0, s_ok0, ↓s_ok1, s_okR0, ↓s_okR1, ↓s_okE, s_okE, s_okE1, s_nth0, s_nthS, Nat.add_zero, Bool.and_self, ↓h_new_get, h_next_new, ↓s_load, m_load, ↓m_load1, m_load1, ↓m_st, m_stE, m_storeI, ↓s_alloc, ↓x_idxS, x_idxSE, x_addrE, Int.reduceLT, Nat.reduceAdd, s_res0, ↓s_skip, ↓s_ops, ↓s_dops, ↓s_seq, ↓s_cond, ↓s_ret, ↓s_nil, ↓s_op, ↓s_opg, ↓s_wanted', ↓s_wantV, s_wantV, ↓s_bindS, s_bindS, ↓s_bindE, s_bindE, s_norm, ↓s_condV, s_condV, ↓s_getp, ↓s_getp0, ↓s_get, ↓s_con, ↓s_os0, ↓s_os1, ↓s_list0, ↓s_list1, ↓s_mov, ↓s_pick, ↓s_pickE, s_pickE, ↓s_bin, ↓s_un, ↓s_call, ↓s_ext, s_same, b_eql, b_neq, b_gtr, b_add, u_not, s_end, s_res0, s_res1, s_tup1, ↓iteN_true, ↓iteN_false, iteN_true, iteN_false, Nat.zero_add, Nat.reduceEqDiff, decide_true, decide_false, Bool.not_true, List.getElem?_cons_zero, List.getElem?_cons_succ, beq_self_eq_true]
  exact ⟨_, rfl⟩
end Go.Eng
