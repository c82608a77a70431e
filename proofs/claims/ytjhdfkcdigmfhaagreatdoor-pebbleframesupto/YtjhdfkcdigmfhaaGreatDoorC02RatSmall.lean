/- rafterbig: Int's Sign, Cmp, Neg onto itself; Rat's Sign, Set, Neg, SetInt64, IsInt, Num, Denom. -/
import Derived.Test.YtjhdfkcdigmfhaaGreatDoorC01RatBag
namespace Go.Proofs.YtjhdfkcdigmfhaaGreatDoor
open Go.RowKit
set_option linter.unusedVariables false
set_option linter.unusedSimpArgs false
def sgn3(X:Int):Int:=if X<0 then -1 else if X=0 then 0 else 1
end Go.Proofs.YtjhdfkcdigmfhaaGreatDoor
