/- bytes.Compare, walked. -/
import Derived.Lib.Bytealg
import Derived.Lib.Walk
import Derived.Shelf.Abstract
import Derived.Below
import Derived.KernelRfl
import Derived.Laws.Externs
import Derived.Test.YtniiddgjepkmeaaProg
set_option linter.unusedVariables false
namespace Go.Proofs
open Go.Shelf Go.RowKit
theorem run_compareBytes {P : Program} (v1 v2 : Value) (a b : ByteArray) (w : World) (h1 : (Extern.Bytes.bytesOf v1).run P w = .ok a w) (h2 : (Extern.Bytes.bytesOf v2).run P w = .ok b w) :
    (Extern.BytealgCompare.compare #[v1, v2]).run P w = .ok (.int .i64 (Lib.compareBytes a.data.toList b.data.toList)) w := by
  change Sem.run P (do pure (goInt (Extern.BytealgCompare.cmp (← Extern.Bytes.bytesOf v1) (← Extern.Bytes.bytesOf v2)))) w = _
  simp only [Sem.run_bind, h1, h2, Sem.run_pure, Result.andThen]
  rw [Lib.cmp_eq]
  rfl
set_option maxHeartbeats 1000000 in
set_option maxRecDepth 100000 in
theorem Try.bytes_Compare (v1 v2 : Value) (a b : ByteArray) (w : World) (h1 : (Extern.Bytes.bytesOf v1).run Try.prog w = .ok a w) (h2 : (Extern.Bytes.bytesOf v2).run Try.prog w = .ok b w) :
    Calls Try.prog 60 #[v1, v2] w fun e w' => e = .returned (.int .i64 (Lib.compareBytes a.data.toList b.data.toList)) ∧ w' = w := by
  go_enter Try.func60, Try.ntmps60
  go_wp2
  rw [run_callFunc_extern Try.func82 (by kernel_rfl) (by kernel_rfl) (by kernel_rfl) (e := Extern.BytealgCompare.compare) (by kernel_rfl), run_compareBytes v1 v2 a b w h1 h2]
  simp only [Result.andThen]
  rw [Oper.upon_value]
  go_wp2
  go_ret
  exact ⟨rfl, rfl⟩
end Go.Proofs
