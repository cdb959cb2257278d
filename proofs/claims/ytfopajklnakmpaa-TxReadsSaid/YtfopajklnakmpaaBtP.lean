/- Functions of the program, as the evaluator takes them: printed by program. -/
import Derived.Test.YtfopajklnakmpaaBtF
namespace Go.Eng
open Go
/-- purser/tx.Id -/
abbrev k_tx_Id : Nat := 29
/-- purser/tx.Copy -/
abbrev k_tx_Copy : Nat := 33
/-- slices.Clone[[]purser/api.In,purser/api.In] -/
abbrev k_slices_Clone_api_In_api_In : Nat := 78
/-- slices.Clone[[]purser/api.Out,purser/api.Out] -/
abbrev k_slices_Clone_api_Out_api_Out : Nat := 79
/-- bytes.Clone -/
abbrev k_bytes_Clone : Nat := 80
end Go.Eng
