import Derived.Test.YtfopajklnakmpaaBfK
namespace Go.Eng
open Go
variable {E:Nat→Option Fn} {X:Orc}
set_option linter.unusedSimpArgs false
set_option linter.unusedVariables false
theorem tx_beq {S:Nat→Prop} {h:H} {t:TxQ} {P:List V} (c:TxC S h t P):V.beq (.agg P) (.agg P)=true:=by
  obtain ⟨_,_,_,_,_,_,eP,_⟩:=c
  rw [eP]; exact vbeq4 _ _ _ _ _ _ _ _ _ _ _
end Go.Eng
