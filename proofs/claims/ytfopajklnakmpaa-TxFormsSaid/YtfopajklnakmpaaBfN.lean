import Derived.Test.YtfopajklnakmpaaBfF
namespace Go.Eng
open Go
end Go.Eng
