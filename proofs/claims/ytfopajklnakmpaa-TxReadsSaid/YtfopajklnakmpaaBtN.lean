/- Functions of the program, as the evaluator takes them: printed by program. -/
import Derived.Test.YtfopajklnakmpaaBtF
namespace Go.Eng
open Go
end Go.Eng
