/- A bag of what is known of a world: new Ints that nothing was laid in yet, and Ints and Rats; each method of Int gives a bag again, in whatever order new Ints are made. -/
import Derived.Test.YtjhdfkcdigmfhaaGreatDoorC00IntMem
import Derived.Deep.RegionHeld3
namespace Go.Proofs.YtjhdfkcdigmfhaaGreatDoor
open Go.RowKit
set_option linter.unusedVariables false
def sgn(neg:Bool)(n:Nat):Int:=if neg then -(n:Int) else (n:Int)
theorem Qcg(neg:Bool)(n:Nat):(sgn neg n).natAbs=n:=by unfold sgn;split<;>omega
theorem SB.drew{w:World}{b:Nat}{t:TypeId}{C:Array Value}(h:SB w b t C):SB w.drew b t C:=h
def Fits(q:Rat)(k:Nat):Prop:=q.num.natAbs<2 ^ k∧q.den<2 ^ k
theorem Qht(p q:Rat):mkRat (p.num*q.num) ((p.den:Int)*(q.den:Int)).natAbs=p*q:=by
 rw[Int.natAbs_mul,Int.natAbs_natCast,Int.natAbs_natCast,←Rat.mkRat_mul_mkRat,Rat.mkRat_self,Rat.mkRat_self]
theorem Qhu(p q:Rat):mkRat (p.num*(q.den:Int)+q.num*(p.den:Int)) ((p.den:Int)*(q.den:Int)).natAbs=p+q:=by
 rw[Int.natAbs_mul,Int.natAbs_natCast,Int.natAbs_natCast,←Rat.mkRat_add_mkRat _ _ p.den_nz q.den_nz,Rat.mkRat_self,Rat.mkRat_self]
end Go.Proofs.YtjhdfkcdigmfhaaGreatDoor
