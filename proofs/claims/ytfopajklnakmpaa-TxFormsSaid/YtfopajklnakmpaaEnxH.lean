import Derived.Test.YtfopajklnakmpaaEnxG
set_option linter.unusedVariables false
set_option linter.unusedSimpArgs false
set_option linter.unusedSectionVars false
namespace Go.Eng
open Go
variable {P:Program} {g:Gn}
noncomputable def callSX (E:Nat→Option Fn) (X:Orc) (n:Nat) (ih:Orc):Orc:=fun t args h=>match X t args h with
  | some r=>some r
  | none=>match t with
    | .fn f=>cFn E ih n f args h
    | .yld l=>cYld ih n l args h
noncomputable def callX (E:Nat→Option Fn) (X:Orc) (n:Nat):Orc :=
  Nat.rec (motive:=fun _=>Orc) (fun _ _ _=>none) (fun n ih=>callSX E X n ih) n
theorem callX_ok {E:Nat→Option Fn} (hE:Link P g E) {X:Orc} (hX:QOk P g X):∀ n,QOk P g (callX E X n):=by
  intro n
  induction n with
  | zero=>intro t args h v h1 hc; cases hc
  | succ n ih =>
    intro t args h v h1 hc
    change callSX E X n (callX E X n) t args h=some (v,h1) at hc
    unfold callSX at hc
    cases hl:X t args h with
    | some r =>
      rw [hl] at hc
      cases hc
      exact hX _ _ _ _ _ hl
    | none =>
      rw [hl] at hc
      cases t with
      | fn f=>exact cFn_ok hE ih (n:=n) hc
      | yld l=>exact cYld_ok ih (n:=n) hc
def noX:Orc:=fun _ _ _=>none
theorem noX_ok:QOk P g noX:=by intro t args h v h1 hc; cases hc
def beqC (a b:Option Nat):Bool:=match a,b with
  | none,none=>true
  | some x,some y=>Nat.beq x y
  | _,_=>false
noncomputable def cellsEq (h:H) (i off n:Nat) (cells:List V):Bool:=match h.get i with
  | some (.cells vs _)=>match readN vs off n with
    | some l=>V.beqs l cells
    | none=>false
  | _=>false
end Go.Eng
namespace Go.Eng
open Go
set_option linter.unusedVariables false
section
variable {E:Nat→Option Fn} {X:Orc} {n:Nat}
theorem z2c {f N:Nat} {rs:List Res} {body:C} (he:E f=some ⟨N,rs,body⟩) (args:List V) (h:H) (hl:args.length≤N) (hx:X (.fn f) args h=none) :
    callX E X (n+1) (.fn f) args h=fnEnd rs (evC (callX E X n) N n none body ⟨ofList 0 args .e,[],h⟩):=by
  show callSX E X n (callX E X n) (.fn f) args h=_
  unfold callSX; rw [hx]
  show cFn E (callX E X n) n f args h=_
  unfold cFn
  rw [he]
  simp only
  rw [show Nat.ble args.length N=true from Nat.ble_eq.mpr hl]; rfl
theorem x_yld {l:Nat} {args:List V} {h:H} (hx:X (.yld l) args h=none):callX E X (n+1) (.yld l) args h=cYld (callX E X n) n l args h:=by
  show callSX E X n (callX E X n) (.yld l) args h=_
  unfold callSX; rw [hx]
end
section
variable {Q:Orc} {N n:Nat}
theorem s_range (f:O) (ps:List Nat) (asg body:C) (T:Tr V) (D:List Nat) (h:H):evC Q N n none (.rangeF f ps asg body) ⟨T,D,h⟩ =
    rangeEnd (h.next+1) T (h.next :: D) (callF Q (.yld (h.next+1)) (evO T f) ((h.new .defers).new (.loop 0 none N T ps asg body h.next))):=_root_.id rfl
theorem z6o (a:V) (f:Nat) (first caps:List V) (h:H):callF Q a (.fn f first caps) h=Q (.fn f) (first++([a]++caps)) h:=_root_.id rfl
noncomputable def yE1 (Q:Orc) (n l:Nat) (args:List V) (h:H) (b:Option Blk):Option (V × H):=match b with
  | some (.loop st _ N T ps asg body dd)=>match st with
    | 0=>match setPs T ps args with
      | none=>none
      | some T'=>yldMid (evC Q N n (some l) body) l (evC Q N n (some l) asg ⟨T',[],h⟩)
    | _=>none
  | _=>none
@[congr] theorem yE1_congr {Q:Orc} {n l:Nat} {args:List V} {h:H} {b b':Option Blk} (e:b=b'):yE1 Q n l args h b=yE1 Q n l args h b':=by rw [e]
theorem z81 (l:Nat) (args:List V) (h:H):cYld Q n l args h=yE1 Q n l args h (h.get l):=_root_.id rfl
theorem z5m (l:Nat) (args:List V) (h:H) (j:Option Jump) (N:Nat) (T:Tr V) (ps:List Nat) (asg body:C) (dd:Nat) :
    yE1 Q n l args h (some (.loop 0 j N T ps asg body dd))=(match setPs T ps args with | none=>none | some T'=>yldMid (evC Q N n (some l) body) l (evC Q N n (some l) asg ⟨T',[],h⟩)):=_root_.id rfl
theorem y_set2 (T:Tr V) (p q:Nat) (v w:V):setPs T [p,q] [v,w]=some ((T.set p (some v)).set q (some w)):=_root_.id rfl
theorem y_set1 (T:Tr V) (p:Nat) (v:V):setPs T [p] [v]=some (T.set p (some v)):=_root_.id rfl
noncomputable def yE2 (b:K) (l:Nat) (T:Tr V) (D:List Nat) (h:H) (bk:Option Blk):Option (V × H):=match bk with
  | some (.loop s j N T0 ps asg body dd)=>match s with
    | 0=>yldEnd l (b ⟨T,D,h.put l (.loop 1 j N T0 ps asg body dd)⟩)
    | _=>none
  | _=>none
@[congr] theorem yE2_congr {b:K} {l:Nat} {T:Tr V} {D:List Nat} {h:H} {bk bk':Option Blk} (e:bk=bk'):yE2 b l T D h bk=yE2 b l T D h bk':=by rw [e]
theorem y_mid (b:K) (l:Nat) (T:Tr V) (D:List Nat) (h:H):yldMid b l (some (.normal,⟨T,D,h⟩))=yE2 b l T D h (h.get l):=_root_.id rfl
theorem z7o (b:K) (l:Nat) (T:Tr V) (D:List Nat) (h:H) (j:Option Jump) (N:Nat) (T0:Tr V) (ps:List Nat) (asg body:C) (dd:Nat) :
    yE2 b l T D h (some (.loop 0 j N T0 ps asg body dd))=yldEnd l (b ⟨T,D,h.put l (.loop 1 j N T0 ps asg body dd)⟩):=_root_.id rfl
noncomputable def yE3 (l:Nat) (e:Ex) (h:H) (bk:Option Blk):Option (V × H):=match bk with
  | some (.loop _ _ N T ps asg body dd)=>some (.bool (exJump e).isNone,h.put l (.loop (match e with | .normal=>0 | _=>2) (exJump e) N T ps asg body dd))
  | _=>none
@[congr] theorem yE3_congr {l:Nat} {e:Ex} {h:H} {bk bk':Option Blk} (q:bk=bk'):yE3 l e h bk=yE3 l e h bk':=by rw [q]
theorem y_end (l:Nat) (e:Ex) (T:Tr V) (h:H):yldEnd l (some (e,⟨T,[],h⟩))=yE3 l e h (h.get l):=_root_.id rfl
theorem z7r (l:Nat) (e:Ex) (h:H) (s:Nat) (j:Option Jump) (N:Nat) (T:Tr V) (ps:List Nat) (asg body:C) (dd:Nat) :
    yE3 l e h (some (.loop s j N T ps asg body dd))=some (.bool (exJump e).isNone,h.put l (.loop (match e with | .normal=>0 | _=>2) (exJump e) N T ps asg body dd)):=_root_.id rfl
theorem y_jn:exJump .normal=none:=_root_.id rfl
theorem y_je (i:Nat):exJump (.exit i)=some (.exit i):=_root_.id rfl
noncomputable def rE (l:Nat) (T:Tr V) (D:List Nat) (h:H) (bk:Option Blk):Option (Ex × St):=match bk with
  | some (.loop st jump _ _ _ _ _ _)=>match st with
    | 1=>none
    | _=>some (jumpEx jump,⟨T,D,h.del l⟩)
  | _=>none
@[congr] theorem rE_congr {l:Nat} {T:Tr V} {D:List Nat} {h:H} {bk bk':Option Blk} (q:bk=bk'):rE l T D h bk=rE l T D h bk':=by rw [q]
theorem r_end (l:Nat) (T:Tr V) (D:List Nat) (v:V) (h:H):rangeEnd l T D (some (v,h))=rE l T D h (h.get l):=_root_.id rfl
theorem r_0 (l:Nat) (T:Tr V) (D:List Nat) (h:H) (j:Option Jump) (N:Nat) (T0:Tr V) (ps:List Nat) (asg body:C) (dd:Nat):rE l T D h (some (.loop 0 j N T0 ps asg body dd))=some (jumpEx j,⟨T,D,h.del l⟩):=_root_.id rfl
theorem r_2 (l:Nat) (T:Tr V) (D:List Nat) (h:H) (j:Option Jump) (N:Nat) (T0:Tr V) (ps:List Nat) (asg body:C) (dd:Nat):rE l T D h (some (.loop 2 j N T0 ps asg body dd))=some (jumpEx j,⟨T,D,h.del l⟩):=_root_.id rfl
theorem r_jn:jumpEx none=.normal:=_root_.id rfl
theorem r_je (i:Nat):jumpEx (some (.exit i))=.exit i:=_root_.id rfl
noncomputable def delE (h:H) (d:Nat) (r:List Nat) (b:Option Blk):Option H:=match b with
  | some .defers=>delD r (h.del d)
  | _=>none
@[congr] theorem delE_congr {h:H} {d:Nat} {r:List Nat} {b b':Option Blk} (q:b=b'):delE h d r b=delE h d r b':=by rw [q]
theorem z8d (d:Nat) (r:List Nat) (h:H):delD (d :: r) h=delE h d r (h.get d):=_root_.id rfl
theorem d_yes (d:Nat) (r:List Nat) (h:H):delE h d r (some .defers)=delD r (h.del d):=_root_.id rfl
theorem d_nil (h:H):delD [] h=some h:=_root_.id rfl
noncomputable def endE (rs:List Res) (T:Tr V) (r:Option H):Option (V × H):=match r with
  | none=>none
  | some h=>match resVs T h rs with
    | some vs=>some (tupOf vs,h)
    | none=>none
@[congr] theorem endE_congr {rs:List Res} {T:Tr V} {r r':Option H} (q:r=r'):endE rs T r=endE rs T r':=by rw [q]
theorem e_ret (rs:List Res) (T:Tr V) (D:List Nat) (h:H):fnEnd rs (some (.ret,⟨T,D,h⟩))=endE rs T (delD D h):=_root_.id rfl
theorem e_normal (rs:List Res) (T:Tr V) (D:List Nat) (h:H):fnEnd rs (some (.normal,⟨T,D,h⟩))=endE rs T (delD D h):=_root_.id rfl
theorem z8p (rs:List Res) (T:Tr V) (h:H):endE rs T (some h)=(match resVs T h rs with | some vs=>some (tupOf vs,h) | none=>none):=_root_.id rfl
theorem e_tup0:tupOf []=.tup []:=_root_.id rfl
theorem s_mkfn (T:Tr V) (h:H) (f:Nat) (first caps:List O):Eng.step (.mkfn f first caps) Q T h=some (.fn f (evOs T first) (evOs T caps),h):=_root_.id rfl
theorem c_ptr (a:Option (Nat × Nat)):V.cells (.ptr a)=[.ptr a]:=_root_.id rfl
end
end Go.Eng
