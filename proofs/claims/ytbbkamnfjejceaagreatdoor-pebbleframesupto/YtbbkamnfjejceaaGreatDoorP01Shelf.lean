/- The library's contracts, laid at this program. -/
import Derived.Test.YtbbkamnfjejceaaGreatDoorP00Knuth
import Derived.Laws.CopyOwn
import Derived.Deep.RegionWith
import Derived.LoopN
import Derived.Deep.QuietTactic
import Derived.BigQuiet
import Derived.Deep.RegionHeld3
import Derived.Deep.AppendLies
import Derived.Laws.BytesArg
import Derived.Lib.IndexMore
import Derived.Lib.Strings
import Derived.Lib.Split
import Derived.Shelf.Small.Wraps
import Derived.Shelf.Small.Bits
import Derived.Shelf.Strings.Prefix
import Derived.Shelf.Strings.Trim
import Derived.Shelf.Strings.SlTrimAscii
import Derived.Shelf.Strings.Cut
import Derived.Shelf.Strings.Split
import Derived.Shelf.Bits.Mul64
import Derived.Shelf.Spec.BitsCarry
import Derived.Test.YtbbkamnfjejceaaGreatDoorProg
namespace Go.Proofs.YtbbkamnfjejceaaGreatDoor
open Go.RowKit
set_option linter.unusedVariables false
theorem Hi{p:Prop}(h:p):Hid p:=h
theorem Qe7(p q:Nat):Nat.gcd q (p % q)=Nat.gcd p q:=by
 rw[Nat.gcd_comm q,←Nat.gcd_rec,Nat.gcd_comm]
def SB(w:World)(b:Nat)(t:TypeId)(C:Array Value):Prop:=w.heap[b]?=some (.cells C t (0,0))
theorem SB.lt{w:World}{b:Nat}{t:TypeId}{C:Array Value}(h:SB w b t C):b<w.heap.size:=by
 apply Classical.byContradiction;intro hc;unfold SB at h;rw[Array.getElem?_eq_none (by omega)] at h;cases h
theorem SB.cell{w:World}{b:Nat}{t:TypeId}{C:Array Value}(h:SB w b t C)(i:Nat):w.cell? ⟨b,i,none⟩=C[i]?:=by
 unfold SB at h;simp[World.cell?,h]
theorem SB.free{w:World}{b:Nat}{t:TypeId}{C:Array Value}(h:SB w b t C)(i:Nat):w.frozen? ⟨b,i,none⟩=false:=by
 unfold SB at h;simp[World.frozen?,h]
theorem SB.set{w:World}{b:Nat}{t:TypeId}{C:Array Value}(h:SB w b t C)(i:Nat)(v:Value):SB (w.setCell ⟨b,i,none⟩ v) b t (C.setIfInBounds i v):=by
 unfold SB at h ⊢;simp[World.setCell,Array.getElem?_modify,h]
theorem SB.alloc{w:World}{b:Nat}{t:TypeId}{C:Array Value}(h:SB w b t C)(o:Obj):SB (w.alloc o) b t C:=by
 have:=h.lt;unfold SB at h ⊢;rw[Below.heap_alloc _ _ _ this];exact h
theorem SB.new(w:World)(t:TypeId)(C:Array Value):SB (w.alloc (.cells C t)) w.heap.size t C:=by
 show (w.heap.push _)[w.heap.size]?=_
 simp
theorem SB.below{w w':World}{b B:Nat}{t:TypeId}{C:Array Value}(h:SB w b t C)(hb:Below B w w')(hB:b<B):SB w' b t C:=by
 unfold SB at h ⊢;rw[hb.block b hB];exact h
structure Only (b:Nat) (w w':World):Prop where
 os:w'.os=w.os
 tape:w'.tape=w.tape
 output:w'.output=w.output
 size:w.heap.size≤w'.heap.size
 block:∀k,k<w.heap.size→k≠b→w'.heap[k]?=w.heap[k]?
theorem Only.refl(b:Nat)(w:World):Only b w w:=⟨rfl,rfl,rfl,Nat.le_refl _,fun _ _ _=>rfl⟩
theorem Only.trans{b:Nat}{u v w:World}(h:Only b u v)(k:Only b v w):Only b u w:=
 ⟨k.os.trans h.os,k.tape.trans h.tape,k.output.trans h.output,Nat.le_trans h.size k.size,fun i hi hne=>(k.block i (by have:=h.size;omega) hne).trans (h.block i hi hne)⟩
theorem Only.of_below{b:Nat}{w w':World}(h:Below w.heap.size w w'):Only b w w':=⟨h.os,h.tape,h.output,h.size,fun k hk _=>h.block k hk⟩
theorem Only.setCell{b:Nat}{u w:World}(h:Only b u w)(i:Nat)(v:Value):Only b u (w.setCell ⟨b,i,none⟩ v):=
 ⟨h.os,h.tape,h.output,by have:=h.size;simpa [World.setCell] using this,fun k hk hne=>(Below.heap_setCell _ _ _ _ hne).trans (h.block k hk hne)⟩
theorem Only.drewN{b:Nat}{u w:World}(h:Only b u w)(n:Nat):Only b u (w.drewN n):=⟨h.os,h.tape,h.output,h.size,h.block⟩
theorem Only.below{b B:Nat}{w w':World}(h:Only b w w')(hB:B≤b)(hw:B≤w.heap.size):Below B w w':=⟨h.os,h.tape,h.output,h.size,fun k hk=>h.block k (by omega) (by omega)⟩
theorem Only.fresh{b:Nat}{u w w':World}(h:Below u.heap.size u w)(k:Only b w w')(hb:u.heap.size≤b):Below u.heap.size u w':=
 h.trans (k.below hb h.size)
theorem SB.only{w w':World}{b c:Nat}{t:TypeId}{C:Array Value}(h:SB w b t C)(k:Only c w w')(hne:b≠c):SB w' b t C:=by
 have:=h.lt;unfold SB at h ⊢;rw[k.block b this hne];exact h
def sgn(neg:Bool)(n:Nat):Int:=if neg then -(n:Int) else (n:Int)
theorem Qcf(neg:Bool)(n:Nat):(sgn neg n).natAbs=n:=by unfold sgn;split<;>omega
theorem SB.drew{w:World}{b:Nat}{t:TypeId}{C:Array Value}(h:SB w b t C):SB w.drew b t C:=h
def Fits(q:Rat)(k:Nat):Prop:=q.num.natAbs<2 ^ k∧q.den<2 ^ k
theorem Qhs(p q:Rat):mkRat (p.num*q.num) ((p.den:Int)*(q.den:Int)).natAbs=p*q:=by
 rw[Int.natAbs_mul,Int.natAbs_natCast,Int.natAbs_natCast,←Rat.mkRat_mul_mkRat,Rat.mkRat_self,Rat.mkRat_self]
theorem Qht(p q:Rat):mkRat (p.num*(q.den:Int)+q.num*(p.den:Int)) ((p.den:Int)*(q.den:Int)).natAbs=p+q:=by
 rw[Int.natAbs_mul,Int.natAbs_natCast,Int.natAbs_natCast,←Rat.mkRat_add_mkRat _ _ p.den_nz q.den_nz,Rat.mkRat_self,Rat.mkRat_self]
set_option linter.unusedSimpArgs false
def sgn3(X:Int):Int:=if X<0 then -1 else if X=0 then 0 else 1
end Go.Proofs.YtbbkamnfjejceaaGreatDoor
namespace Go.Proofs.YtbbkamnfjejceaaGreatDoor
set_option linter.unusedVariables false
def decVal(l:List UInt8):Nat:=l.foldl (fun a c=>10*a+(c.toNat - 48)) 0
theorem Qjj(l:List UInt8)(a:Nat):l.foldl (fun a c=>10*a+(c.toNat - 48)) a=a*10 ^ l.length+decVal l:=by
 induction l generalizing a with
 |nil=>simp[decVal]
 |cons c l ih=>
  unfold decVal;rw[List.foldl_cons,List.foldl_cons,ih,ih (10*0+(c.toNat - 48)),List.length_cons,Nat.pow_succ,Nat.add_mul,Nat.mul_comm 10 a,Nat.mul_assoc,Nat.mul_comm 10 (10 ^ l.length),Nat.mul_zero,Nat.zero_add];omega
theorem Qbm(l m:List UInt8):decVal (l++m)=decVal l*10 ^ m.length+decVal m:=by
 conv=>lhs;unfold decVal
 rw[List.foldl_append];exact Qjj m _
theorem Qfa(l:List UInt8)(c:UInt8):decVal (l++ [c])=10*decVal l+(c.toNat - 48):=by
 unfold decVal;rw[List.foldl_append];rfl
def AllDigits(l:List UInt8):Prop:=∀c,c∈ l→48≤c.toNat∧c.toNat≤57
theorem Qb8(l:List UInt8)(h:AllDigits l):decVal l<10 ^ l.length:=by
 induction l with
 |nil=>simp[decVal]
 |cons c l ih=>
  have h1:=h c (List.mem_cons_self ..);have h2:=ih fun d hd=>h d (List.mem_cons_of_mem _ hd)
  have e:decVal (c :: l)=(c.toNat - 48)*10 ^ l.length+decVal l:=by
   have:=Qbm [c] l
   simpa [decVal] using this
  rw[e,List.length_cons,Nat.pow_succ];have:(c.toNat - 48)*10 ^ l.length≤9*10 ^ l.length:=Nat.mul_le_mul_right _ (by omega);omega
theorem Qjk(k:Nat):10 ^ k≤2 ^ (4*k):=by
 rw[Nat.pow_mul];exact Nat.pow_le_pow_left (by decide) k
theorem Qfb(s:ByteArray)(k:Nat)(h:k<s.size):s.data.toList.take (k+1)=s.data.toList.take k++ [s[k]]:=by
 rw[List.take_succ_eq_append_getElem (by simpa using h)];rfl
theorem Qjl{s:ByteArray}(hd:AllDigits s.data.toList)(k:Nat)(h:k<s.size):48≤s[k].toNat∧s[k].toNat≤57:=
 hd _ (List.mem_iff_getElem.2 ⟨k,by simpa using h,rfl⟩)
theorem AllDigits.take{l:List UInt8}(h:AllDigits l)(k:Nat):AllDigits (l.take k):=fun c hc=>h c (List.mem_of_mem_take hc)
def IsDec(l:List UInt8)(n:Nat):Prop:=(n=0∧l= [48])∨(n≠0∧∃ds,Num 10 ds n∧l=ds.reverse.map (fun d=>UInt8.ofNat (48+d)))
theorem IsDec.inj{l m:List UInt8}{n:Nat}(h:IsDec l n)(k:IsDec m n):l=m:=by
 rcases h with ⟨h0,rfl⟩|⟨h0,ds,h,rfl⟩
 ·
  rcases k with ⟨k0,rfl⟩|⟨k0,es,k,rfl⟩
  · rfl
  · omega
 ·
  rcases k with ⟨k0,rfl⟩|⟨k0,es,k,rfl⟩
  · omega
  · rw[h.inj (by decide) k]
def IntText(l:List UInt8)(X:Int):Prop:=∃m,IsDec m X.natAbs∧l=if X<0 then 45 :: m else m
theorem IntText.inj{l m:List UInt8}{X:Int}(h:IntText l X)(k:IntText m X):l=m:=by
 obtain⟨a,ha,rfl⟩:=h;obtain⟨b,hb,rfl⟩:=k;rw[ha.inj hb]
open Go.RowKit
set_option linter.unusedSimpArgs false
theorem Qko(c:UInt8)(h1:48≤c.toNat)(h2:c.toNat≤57):∃d:Nat,d≤9∧c.toNat - 48=d∧(c.toNat:Int)=48+d:=⟨c.toNat - 48,by omega,rfl,by omega⟩
theorem Qbs{w w':World}{base:Nat}{e:TypeId}{size:Nat}{v:Value}{n:Nat}{xs:List Value}(h:w.ownsRow base e size v n xs)(hb:Below w.heap.size w w'):w'.ownsRow base e size v n xs:=by
 refine⟨h.1,?_⟩;rcases h.2 with h1|⟨g,cap,cur,h1,h2,h3,h4⟩
 · exact .inl h1
 ·
  refine .inr ⟨g,cap,cur,h1,h2,?_,h4⟩;have hlt:g<w.heap.size:=by
   apply Classical.byContradiction;intro hc;rw[Array.getElem?_eq_none (by omega)] at h3;cases h3
  rw[hb.block g hlt];exact h3
def sliceLen:Value→Nat
 | .slice _ n _=>n
 |_=>0
theorem Qfv{w:World}{base:Nat}{e:TypeId}{size:Nat}{v:Value}{n:Nat}{xs:List Value}(h:w.ownsRow base e size v n xs):sliceLen v=n:=by
 rcases h.2 with ⟨rfl,rfl⟩|⟨g,cap,cur,rfl,_⟩<;>rfl
theorem Tryz.info8:(Tryz.prog.info? 5).map (fun i=>(i.zero,i.size,i.bytes))=some (some (.int .u8 0),1,1):=by kernel_rfl
def QText(l:List UInt8)(q:Rat):Prop:=∃m,IntText m q.num∧((q.den=1∧l=m)∨(q.den≠1∧∃d,IsDec d q.den∧l=m++47 :: d))
theorem QText.inj{l m:List UInt8}{q:Rat}(h:QText l q)(k:QText m q):l=m:=by
 obtain⟨a,ha,h⟩:=h;obtain⟨b,hb,k⟩:=k;have:=ha.inj hb;subst this;rcases h with ⟨h1,rfl⟩|⟨h1,d,hd,rfl⟩
 ·
  rcases k with ⟨k1,rfl⟩|⟨k1,_⟩
  · rfl
  · exact absurd h1 k1
 ·
  rcases k with ⟨k1,rfl⟩|⟨k1,e,he,rfl⟩
  · exact absurd k1 h1
  · rw[hd.inj he]
end Go.Proofs.YtbbkamnfjejceaaGreatDoor
namespace Go.Proofs.YtbbkamnfjejceaaGreatDoor
open Go
set_option linter.unusedVariables false
def IsDig(l:List UInt8):Prop:=l≠ []∧AllDigits l
def QForm(t:List UInt8):Prop:=IsDig (Lib.cut t [47]).1∧((Lib.cut t [47]).2.2=true→IsDig (Lib.cut t [47]).2.1∧decVal (Lib.cut t [47]).2.1≠0)
def IsQ(t:List UInt8)(v:Rat):Prop:=(QForm t∧v=mkRat (decVal (Lib.cut t [47]).1:Nat) (if (Lib.cut t [47]).2.2=true then decVal (Lib.cut t [47]).2.1 else 1))∨(¬QForm t∧v=0)
def QOf(l:List UInt8)(q:Rat):Prop:=∃v,IsQ (Lib.trimPrefix l [45]) v∧q=if Lib.hasPrefix l [45]=true then -v else v
theorem IsQ.inj{t:List UInt8}{u v:Rat}(h:IsQ t u)(k:IsQ t v):u=v:=by
 rcases h with ⟨h1,rfl⟩|⟨h1,rfl⟩<;>rcases k with ⟨k1,rfl⟩|⟨k1,rfl⟩
 · rfl
 · exact absurd h1 k1
 · exact absurd k1 h1
 · rfl
theorem QOf.inj{t:List UInt8}{u v:Rat}(h:QOf t u)(k:QOf t v):u=v:=by
 obtain⟨a,ha,rfl⟩:=h;obtain⟨b,hb,rfl⟩:=k;rw[ha.inj hb]
theorem IsQ.ex(t:List UInt8):∃v,IsQ t v:=by
 by_cases h:QForm t
 · exact⟨_,.inl ⟨h,rfl⟩⟩
 · exact⟨_,.inr ⟨h,rfl⟩⟩
theorem QOf.ex(t:List UInt8):∃v,QOf t v:=by
 obtain⟨v,hv⟩:=IsQ.ex (Lib.trimPrefix t [45]);exact⟨_,v,hv,rfl⟩
theorem Fits.mono{q:Rat}{j k:Nat}(h:Fits q j)(hk:j≤k):Fits q k:=
 have:=Nat.pow_le_pow_right (by decide:0<2) hk
 ⟨Nat.lt_of_lt_of_le h.1 this,Nat.lt_of_lt_of_le h.2 this⟩
theorem Fits.zero:Fits 0 1:=⟨by decide,by decide⟩
theorem Fits.mk{a:Int}{b k:Nat}(ha:a.natAbs<2 ^ k)(hb:b<2 ^ k)(hk:0<k):Fits (mkRat a b) k:=by
 by_cases h0:b=0
 ·
  subst h0;rw[Rat.mkRat_zero];exact Fits.zero.mono hk
 constructor
 ·
  rw[Rat.num_mkRat,if_neg h0];refine Nat.lt_of_le_of_lt ?_ ha;exact Int.natAbs_ediv_le_natAbs _ _
 · rw[Rat.den_mkRat,if_neg h0]
   exact Nat.lt_of_le_of_lt (Nat.div_le_self _ _) hb
theorem Fits.neg{q:Rat}{k:Nat}(h:Fits q k):Fits (-q) k:=by
 constructor
 · rw[Rat.neg_num,Int.natAbs_neg];exact h.1
 · rw[Rat.neg_den];exact h.2
theorem Qhp(t:List UInt8):(Lib.cut t [47]).1.length≤t.length:=by
 unfold Lib.cut
 split
 · simp;omega
 · simp
theorem Qhq(t:List UInt8):(Lib.cut t [47]).2.1.length≤t.length:=by
 unfold Lib.cut
 split
 · simp
 · simp
theorem Qct{l:List UInt8}{n:Nat}(h:AllDigits l)(hl:l.length≤n):decVal l<2 ^ (4*n):=
 Nat.lt_of_lt_of_le (Qb8 l h) (Nat.le_trans (Nat.pow_le_pow_right (by decide) hl) (Qjk n))
theorem IsQ.fits{t:List UInt8}{v:Rat}{n:Nat}(h:IsQ t v)(hn:t.length≤n):Fits v (4*n+1):=by
 rcases h with ⟨h,rfl⟩|⟨_,rfl⟩
 ·
  have e:(2:Nat) ^ (4*n)≤2 ^ (4*n+1):=Nat.pow_le_pow_right (by decide) (by omega);have h1:=Qct h.1.2 (Nat.le_trans (Qhp t) hn);refine Fits.mk ?_ ?_ (by omega)
  · rw[Int.natAbs_natCast];omega
  ·
   split
   ·
    rename_i hb;have:=Qct (h.2 hb).1.2 (Nat.le_trans (Qhq t) hn);omega
   · exact Nat.one_lt_two_pow (by omega)
 · exact Fits.zero.mono (by omega)
theorem Qhr(l p:List UInt8):(Lib.trimPrefix l p).length≤l.length:=by
 unfold Lib.trimPrefix
 split
 · simp
 · simp
theorem QOf.fits{t:List UInt8}{q:Rat}{n:Nat}(h:QOf t q)(hn:t.length≤n):Fits q (4*n+1):=by
 obtain⟨v,hv,rfl⟩:=h;have:=hv.fits (Nat.le_trans (Qhr t [45]) hn)
 split
 · exact this.neg
 · exact this
end Go.Proofs.YtbbkamnfjejceaaGreatDoor
namespace Go.Proofs
open Go.Shelf
def Tryz.lays99_ren:Go.Shelf.Ren:=⟨fun|99=>50|206=>103|n=>n,fun|9=>9|4=>4|3=>3|n=>n,fun|n=>n⟩
theorem Tryz.lays99:Go.Proofs.Lays.n99 Tryz.prog Tryz.lays99_ren:={
 mixed:=by kernel_rfl
 f99:=Tryz.func50.trans (congrArg some (by kernel_rfl))
 f206:=Tryz.func103.trans (congrArg some (by kernel_rfl))
 t3:=Tryz.underlying3
 a3:=Tryz.isAgg3
 z3:=Tryz.sizeOf3
 v3:=Tryz.zeroValue3
 t4:=Tryz.underlying4
 a4:=Tryz.isAgg4
 z4:=Tryz.sizeOf4
 v4:=Tryz.zeroValue4
 t9:=Tryz.underlying9
 a9:=Tryz.isAgg9
 z9:=Tryz.sizeOf9
 v9:=Tryz.zeroValue9 }
def Tryz.lays147_ren:Go.Shelf.Ren:=⟨fun|147=>51|221=>104|268=>163|138=>164|143=>165|195=>203|197=>167|218=>204|219=>205|260=>206|217=>234|225=>235|224=>236|267=>237|266=>246|314=>247|n=>n,fun|9=>9|3=>3|31=>100|4=>4|0=>0|105=>224|21=>21|5=>5|46=>227|119=>278|139=>281|138=>280|146=>284|51=>216|n=>n,fun|1=>4|3=>5|4=>6|n=>n⟩
theorem Tryz.lays147:Go.Proofs.Lays.n147 Tryz.prog Tryz.lays147_ren:={
 mixed:=by kernel_rfl
 f138:=Tryz.func164.trans (congrArg some (by kernel_rfl))
 f143:=Tryz.func165.trans (congrArg some (by kernel_rfl))
 f147:=Tryz.func51.trans (congrArg some (by kernel_rfl))
 f195:=Tryz.func203.trans (congrArg some (by kernel_rfl))
 f197:=Tryz.func167.trans (congrArg some (by kernel_rfl))
 f217:=Tryz.func234.trans (congrArg some (by kernel_rfl))
 f218:=Tryz.func204.trans (congrArg some (by kernel_rfl))
 f219:=Tryz.func205.trans (congrArg some (by kernel_rfl))
 f221:=Tryz.func104.trans (congrArg some (by kernel_rfl))
 f224:=Tryz.func236.trans (congrArg some (by kernel_rfl))
 f225:=Tryz.func235.trans (congrArg some (by kernel_rfl))
 f260:=Tryz.func206.trans (congrArg some (by kernel_rfl))
 f266:=Tryz.func246.trans (congrArg some (by kernel_rfl))
 f267:=Tryz.func237.trans (congrArg some (by kernel_rfl))
 f268:=Tryz.func163.trans (congrArg some (by kernel_rfl))
 f314:=Tryz.func247.trans (congrArg some (by kernel_rfl))
 t0:=Tryz.underlying0
 a0:=Tryz.isAgg0
 z0:=Tryz.sizeOf0
 v0:=Tryz.zeroValue0
 t3:=Tryz.underlying3
 a3:=Tryz.isAgg3
 z3:=Tryz.sizeOf3
 v3:=Tryz.zeroValue3
 t4:=Tryz.underlying4
 a4:=Tryz.isAgg4
 z4:=Tryz.sizeOf4
 v4:=Tryz.zeroValue4
 t5:=Tryz.underlying5
 a5:=Tryz.isAgg5
 z5:=Tryz.sizeOf5
 v5:=Tryz.zeroValue5
 t9:=Tryz.underlying9
 a9:=Tryz.isAgg9
 z9:=Tryz.sizeOf9
 v9:=Tryz.zeroValue9
 t21:=Tryz.underlying21
 a21:=Tryz.isAgg21
 z21:=Tryz.sizeOf21
 v21:=Tryz.zeroValue21
 t31:=Tryz.underlying100
 a31:=Tryz.isAgg100
 z31:=Tryz.sizeOf100
 v31:=Tryz.zeroValue100
 t46:=Tryz.underlying227
 a46:=Tryz.isAgg227
 z46:=Tryz.sizeOf227
 v46:=Tryz.zeroValue227
 t51:=Tryz.underlying216
 a51:=Tryz.isAgg216
 z51:=Tryz.sizeOf216
 v51:=Tryz.zeroValue216
 t105:=Tryz.underlying224
 a105:=Tryz.isAgg224
 z105:=Tryz.sizeOf224
 v105:=Tryz.zeroValue224
 t119:=Tryz.underlying278
 a119:=Tryz.isAgg278
 z119:=Tryz.sizeOf278
 t138:=Tryz.underlying280
 a138:=Tryz.isAgg280
 z138:=Tryz.sizeOf280
 v138:=Tryz.zeroValue280
 t139:=Tryz.underlying281
 a139:=Tryz.isAgg281
 z139:=Tryz.sizeOf281
 v139:=Tryz.zeroValue281
 t146:=Tryz.underlying284
 a146:=Tryz.isAgg284
 z146:=Tryz.sizeOf284
 v146:=Tryz.zeroValue284
 g1:=by kernel_rfl
 g3:=by kernel_rfl
 g4:=by kernel_rfl }
def Tryz.lays160_ren:Go.Shelf.Ren:=⟨fun|160=>53|232=>106|231=>105|227=>107|234=>109|233=>108|236=>111|235=>110|228=>166|271=>169|151=>168|197=>167|120=>208|152=>207|260=>206|137=>238|119=>239|224=>236|225=>235|217=>234|266=>246|n=>n,fun|9=>9|4=>4|3=>3|5=>5|117=>156|116=>155|0=>0|124=>159|21=>21|105=>224|46=>227|119=>278|139=>281|138=>280|n=>n,fun|3=>5|4=>6|n=>n⟩
theorem Tryz.lays160:Go.Proofs.Lays.n160 Tryz.prog Tryz.lays160_ren:={
 mixed:=by kernel_rfl
 f119:=Tryz.func239.trans (congrArg some (by kernel_rfl))
 f120:=Tryz.func208.trans (congrArg some (by kernel_rfl))
 f137:=Tryz.func238.trans (congrArg some (by kernel_rfl))
 f151:=Tryz.func168.trans (congrArg some (by kernel_rfl))
 f152:=Tryz.func207.trans (congrArg some (by kernel_rfl))
 f160:=Tryz.func53.trans (congrArg some (by kernel_rfl))
 f197:=Tryz.func167.trans (congrArg some (by kernel_rfl))
 f217:=Tryz.func234.trans (congrArg some (by kernel_rfl))
 f224:=Tryz.func236.trans (congrArg some (by kernel_rfl))
 f225:=Tryz.func235.trans (congrArg some (by kernel_rfl))
 f227:=Tryz.func107.trans (congrArg some (by kernel_rfl))
 f228:=Tryz.func166.trans (congrArg some (by kernel_rfl))
 f231:=Tryz.func105.trans (congrArg some (by kernel_rfl))
 f232:=Tryz.func106.trans (congrArg some (by kernel_rfl))
 f233:=Tryz.func108.trans (congrArg some (by kernel_rfl))
 f234:=Tryz.func109.trans (congrArg some (by kernel_rfl))
 f235:=Tryz.func110.trans (congrArg some (by kernel_rfl))
 f236:=Tryz.func111.trans (congrArg some (by kernel_rfl))
 f260:=Tryz.func206.trans (congrArg some (by kernel_rfl))
 f266:=Tryz.func246.trans (congrArg some (by kernel_rfl))
 f271:=Tryz.func169.trans (congrArg some (by kernel_rfl))
 t0:=Tryz.underlying0
 a0:=Tryz.isAgg0
 z0:=Tryz.sizeOf0
 v0:=Tryz.zeroValue0
 t3:=Tryz.underlying3
 a3:=Tryz.isAgg3
 z3:=Tryz.sizeOf3
 v3:=Tryz.zeroValue3
 t4:=Tryz.underlying4
 a4:=Tryz.isAgg4
 z4:=Tryz.sizeOf4
 v4:=Tryz.zeroValue4
 t5:=Tryz.underlying5
 a5:=Tryz.isAgg5
 z5:=Tryz.sizeOf5
 v5:=Tryz.zeroValue5
 t9:=Tryz.underlying9
 a9:=Tryz.isAgg9
 z9:=Tryz.sizeOf9
 v9:=Tryz.zeroValue9
 t21:=Tryz.underlying21
 a21:=Tryz.isAgg21
 z21:=Tryz.sizeOf21
 v21:=Tryz.zeroValue21
 t46:=Tryz.underlying227
 a46:=Tryz.isAgg227
 z46:=Tryz.sizeOf227
 v46:=Tryz.zeroValue227
 t105:=Tryz.underlying224
 a105:=Tryz.isAgg224
 z105:=Tryz.sizeOf224
 v105:=Tryz.zeroValue224
 t116:=Tryz.underlying155
 a116:=Tryz.isAgg155
 z116:=Tryz.sizeOf155
 t117:=Tryz.underlying156
 a117:=Tryz.isAgg156
 z117:=Tryz.sizeOf156
 v117:=Tryz.zeroValue156
 t119:=Tryz.underlying278
 a119:=Tryz.isAgg278
 z119:=Tryz.sizeOf278
 t124:=Tryz.underlying159
 a124:=Tryz.isAgg159
 z124:=Tryz.sizeOf159
 v124:=Tryz.zeroValue159
 t138:=Tryz.underlying280
 a138:=Tryz.isAgg280
 z138:=Tryz.sizeOf280
 v138:=Tryz.zeroValue280
 t139:=Tryz.underlying281
 a139:=Tryz.isAgg281
 z139:=Tryz.sizeOf281
 v139:=Tryz.zeroValue281
 g3:=by kernel_rfl
 g4:=by kernel_rfl }
def Tryz.lays161_ren:Go.Shelf.Ren:=⟨fun|161=>197|231=>105|227=>107|233=>108|235=>110|228=>166|197=>167|151=>168|260=>206|152=>207|137=>238|119=>239|224=>236|225=>235|217=>234|266=>246|n=>n,fun|9=>9|4=>4|3=>3|5=>5|117=>156|116=>155|0=>0|124=>159|105=>224|21=>21|119=>278|46=>227|139=>281|138=>280|n=>n,fun|3=>5|4=>6|n=>n⟩
theorem Tryz.lays161:Go.Proofs.Lays.n161 Tryz.prog Tryz.lays161_ren:={
 mixed:=by kernel_rfl
 f119:=Tryz.func239.trans (congrArg some (by kernel_rfl))
 f137:=Tryz.func238.trans (congrArg some (by kernel_rfl))
 f151:=Tryz.func168.trans (congrArg some (by kernel_rfl))
 f152:=Tryz.func207.trans (congrArg some (by kernel_rfl))
 f161:=Tryz.func197.trans (congrArg some (by kernel_rfl))
 f197:=Tryz.func167.trans (congrArg some (by kernel_rfl))
 f217:=Tryz.func234.trans (congrArg some (by kernel_rfl))
 f224:=Tryz.func236.trans (congrArg some (by kernel_rfl))
 f225:=Tryz.func235.trans (congrArg some (by kernel_rfl))
 f227:=Tryz.func107.trans (congrArg some (by kernel_rfl))
 f228:=Tryz.func166.trans (congrArg some (by kernel_rfl))
 f231:=Tryz.func105.trans (congrArg some (by kernel_rfl))
 f233:=Tryz.func108.trans (congrArg some (by kernel_rfl))
 f235:=Tryz.func110.trans (congrArg some (by kernel_rfl))
 f260:=Tryz.func206.trans (congrArg some (by kernel_rfl))
 f266:=Tryz.func246.trans (congrArg some (by kernel_rfl))
 t0:=Tryz.underlying0
 a0:=Tryz.isAgg0
 z0:=Tryz.sizeOf0
 v0:=Tryz.zeroValue0
 t3:=Tryz.underlying3
 a3:=Tryz.isAgg3
 z3:=Tryz.sizeOf3
 v3:=Tryz.zeroValue3
 t4:=Tryz.underlying4
 a4:=Tryz.isAgg4
 z4:=Tryz.sizeOf4
 v4:=Tryz.zeroValue4
 t5:=Tryz.underlying5
 a5:=Tryz.isAgg5
 z5:=Tryz.sizeOf5
 v5:=Tryz.zeroValue5
 t9:=Tryz.underlying9
 a9:=Tryz.isAgg9
 z9:=Tryz.sizeOf9
 v9:=Tryz.zeroValue9
 t21:=Tryz.underlying21
 a21:=Tryz.isAgg21
 z21:=Tryz.sizeOf21
 v21:=Tryz.zeroValue21
 t46:=Tryz.underlying227
 a46:=Tryz.isAgg227
 z46:=Tryz.sizeOf227
 v46:=Tryz.zeroValue227
 t105:=Tryz.underlying224
 a105:=Tryz.isAgg224
 z105:=Tryz.sizeOf224
 v105:=Tryz.zeroValue224
 t116:=Tryz.underlying155
 a116:=Tryz.isAgg155
 z116:=Tryz.sizeOf155
 t117:=Tryz.underlying156
 a117:=Tryz.isAgg156
 z117:=Tryz.sizeOf156
 v117:=Tryz.zeroValue156
 t119:=Tryz.underlying278
 a119:=Tryz.isAgg278
 z119:=Tryz.sizeOf278
 t124:=Tryz.underlying159
 a124:=Tryz.isAgg159
 z124:=Tryz.sizeOf159
 v124:=Tryz.zeroValue159
 t138:=Tryz.underlying280
 a138:=Tryz.isAgg280
 z138:=Tryz.sizeOf280
 v138:=Tryz.zeroValue280
 t139:=Tryz.underlying281
 a139:=Tryz.isAgg281
 z139:=Tryz.sizeOf281
 v139:=Tryz.zeroValue281
 g3:=by kernel_rfl
 g4:=by kernel_rfl }
def Tryz.lays145_ren:Go.Shelf.Ren:=⟨fun|145=>151|220=>196|219=>205|217=>234|225=>235|224=>236|267=>237|266=>246|314=>247|n=>n,fun|9=>9|4=>4|59=>204|3=>3|5=>5|46=>227|146=>284|51=>216|n=>n,fun|1=>4|n=>n⟩
theorem Tryz.lays145:Go.Proofs.Lays.n145 Tryz.prog Tryz.lays145_ren:={
 mixed:=by kernel_rfl
 f145:=Tryz.func151.trans (congrArg some (by kernel_rfl))
 f217:=Tryz.func234.trans (congrArg some (by kernel_rfl))
 f219:=Tryz.func205.trans (congrArg some (by kernel_rfl))
 f220:=Tryz.func196.trans (congrArg some (by kernel_rfl))
 f224:=Tryz.func236.trans (congrArg some (by kernel_rfl))
 f225:=Tryz.func235.trans (congrArg some (by kernel_rfl))
 f266:=Tryz.func246.trans (congrArg some (by kernel_rfl))
 f267:=Tryz.func237.trans (congrArg some (by kernel_rfl))
 f314:=Tryz.func247.trans (congrArg some (by kernel_rfl))
 t3:=Tryz.underlying3
 a3:=Tryz.isAgg3
 z3:=Tryz.sizeOf3
 v3:=Tryz.zeroValue3
 t4:=Tryz.underlying4
 a4:=Tryz.isAgg4
 z4:=Tryz.sizeOf4
 v4:=Tryz.zeroValue4
 t5:=Tryz.underlying5
 a5:=Tryz.isAgg5
 z5:=Tryz.sizeOf5
 v5:=Tryz.zeroValue5
 t9:=Tryz.underlying9
 a9:=Tryz.isAgg9
 z9:=Tryz.sizeOf9
 v9:=Tryz.zeroValue9
 t46:=Tryz.underlying227
 a46:=Tryz.isAgg227
 z46:=Tryz.sizeOf227
 v46:=Tryz.zeroValue227
 t51:=Tryz.underlying216
 a51:=Tryz.isAgg216
 z51:=Tryz.sizeOf216
 v51:=Tryz.zeroValue216
 t59:=Tryz.underlying204
 a59:=Tryz.isAgg204
 z59:=Tryz.sizeOf204
 v59:=Tryz.zeroValue204
 t146:=Tryz.underlying284
 a146:=Tryz.isAgg284
 z146:=Tryz.sizeOf284
 v146:=Tryz.zeroValue284
 g1:=by kernel_rfl }
def Tryz.lays103_ren:Go.Shelf.Ren:=⟨fun|103=>150|210=>195|206=>103|n=>n,fun|9=>9|4=>4|24=>202|3=>3|n=>n,fun|n=>n⟩
theorem Tryz.lays103:Go.Proofs.Lays.n103 Tryz.prog Tryz.lays103_ren:={
 mixed:=by kernel_rfl
 f103:=Tryz.func150.trans (congrArg some (by kernel_rfl))
 f206:=Tryz.func103.trans (congrArg some (by kernel_rfl))
 f210:=Tryz.func195.trans (congrArg some (by kernel_rfl))
 t3:=Tryz.underlying3
 a3:=Tryz.isAgg3
 z3:=Tryz.sizeOf3
 v3:=Tryz.zeroValue3
 t4:=Tryz.underlying4
 a4:=Tryz.isAgg4
 z4:=Tryz.sizeOf4
 v4:=Tryz.zeroValue4
 t9:=Tryz.underlying9
 a9:=Tryz.isAgg9
 z9:=Tryz.sizeOf9
 v9:=Tryz.zeroValue9
 t24:=Tryz.underlying202
 a24:=Tryz.isAgg202
 z24:=Tryz.sizeOf202
 v24:=Tryz.zeroValue202 }
def Tryz.lays134_ren:Go.Shelf.Ren:=⟨fun|134=>221|129=>240|n=>n,fun|53=>146|3=>3|4=>4|46=>227|5=>5|9=>9|n=>n,fun|n=>n⟩
theorem Tryz.lays134:Go.Proofs.Lays.n134 Tryz.prog Tryz.lays134_ren:={
 mixed:=by kernel_rfl
 f129:=Tryz.func240.trans (congrArg some (by kernel_rfl))
 f134:=Tryz.func221.trans (congrArg some (by kernel_rfl))
 t3:=Tryz.underlying3
 a3:=Tryz.isAgg3
 z3:=Tryz.sizeOf3
 v3:=Tryz.zeroValue3
 t4:=Tryz.underlying4
 a4:=Tryz.isAgg4
 z4:=Tryz.sizeOf4
 v4:=Tryz.zeroValue4
 t5:=Tryz.underlying5
 a5:=Tryz.isAgg5
 z5:=Tryz.sizeOf5
 v5:=Tryz.zeroValue5
 t9:=Tryz.underlying9
 a9:=Tryz.isAgg9
 z9:=Tryz.sizeOf9
 v9:=Tryz.zeroValue9
 t46:=Tryz.underlying227
 a46:=Tryz.isAgg227
 z46:=Tryz.sizeOf227
 v46:=Tryz.zeroValue227
 t53:=Tryz.underlying146
 a53:=Tryz.isAgg146
 z53:=Tryz.sizeOf146
 v53:=Tryz.zeroValue146 }
def Tryz.lays264_ren:Go.Shelf.Ren:=⟨fun|264=>229|n=>n,fun|53=>146|46=>227|n=>n,fun|n=>n⟩
theorem Tryz.lays264:Go.Proofs.Lays.n264 Tryz.prog Tryz.lays264_ren:={
 mixed:=by kernel_rfl
 f264:=Tryz.func229.trans (congrArg some (by kernel_rfl))
 t46:=Tryz.underlying227
 a46:=Tryz.isAgg227
 z46:=Tryz.sizeOf227
 v46:=Tryz.zeroValue227
 t53:=Tryz.underlying146
 a53:=Tryz.isAgg146
 z53:=Tryz.sizeOf146
 v53:=Tryz.zeroValue146 }
def Tryz.lays25_ren:Go.Shelf.Ren:=⟨fun|25=>227|n=>n,fun|22=>146|n=>n,fun|n=>n⟩
theorem Tryz.lays25:Go.Proofs.Lays7.n25 Tryz.prog Tryz.lays25_ren:={
 mixed:=by kernel_rfl
 f25:=Tryz.func227.trans (congrArg some (by kernel_rfl))
 t22:=Tryz.underlying146
 a22:=Tryz.isAgg146
 z22:=Tryz.sizeOf146
 v22:=Tryz.zeroValue146
 i22:=by kernel_rfl }
def Tryz.lays26_ren:Go.Shelf.Ren:=⟨fun|26=>228|n=>n,fun|22=>146|n=>n,fun|n=>n⟩
theorem Tryz.lays26:Go.Proofs.Lays7.n26 Tryz.prog Tryz.lays26_ren:={
 mixed:=by kernel_rfl
 f26:=Tryz.func228.trans (congrArg some (by kernel_rfl))
 t22:=Tryz.underlying146
 a22:=Tryz.isAgg146
 z22:=Tryz.sizeOf146
 v22:=Tryz.zeroValue146
 i22:=by kernel_rfl }
end Go.Proofs
