/- num's Compare; cmp.Compare of ints. -/
import Derived.Test.YtldjeecnapgakaaGreatDoorV29RowsT
namespace Go.Proofs.YtldjeecnapgakaaGreatDoor
open Go.RowKit
open Go.Proofs.Tryz
set_option linter.unusedSimpArgs false
set_option linter.unusedVariables false
set_option maxHeartbeats 8000000
set_option maxRecDepth 1000000
abbrev RT:=Nat × Rat × Nat
def ptrV(t:RT):Value:=.pointer (some ⟨t.1,0,none⟩)
def IsPt(u:Value):Prop:=∃p,u=Value.pointer p
theorem Qi4(ts:List RT):∀u,u∈ ts.map ptrV->IsPt u:=fun u hu=>by
 obtain⟨t,_,rfl⟩:=List.mem_map.1 hu;exact⟨_,rfl⟩
theorem Qq6(ts:List RT):∀u,u∈ ts.map ptrV->u.oneCell'=true:=fun u hu=>by
 obtain⟨t,_,rfl⟩:=List.mem_map.1 hu;rfl
structure Fp (w w':World):Prop where
 size:w.heap.size<=w'.heap.size
 keep:∀b i u,w.cell? ⟨b,i,none⟩=some u->¬IsPt u->w'.heap[b]?=w.heap[b]?
theorem Fp.of_only{w w':World}{g:Nat}{t:TypeId}{C:Array Value}(ho:Only g w w')(hs:SB w g t C)(hC:∀u,u∈ C.toList->IsPt u):Fp w w':=by
 refine⟨ho.size,fun b i u hu hk=>ho.block b (World.block_lt_of_cell? _ _ hu) ?_⟩;rintro rfl;rw[hs.cell] at hu;exact hk (hC u (mO (by rw[Array.getElem?_toList];exact hu)))
theorem Fp.grown{w w':World}{B n:Nat}{e:TypeId}{v:Value}{xs:List Value}(hg:Grow w B e 1 IsPt v n xs)(h:w.grownBy w' v.ownBlock):Fp w w':=by
 refine⟨h.size,fun b i u hu hk=>h.block b (World.block_lt_of_cell? _ _ hu) (fun e=>?_)⟩;obtain⟨C,hC,hK⟩:=hg.sb e.symm;rw[hC.cell] at hu;exact hk (hK u (mO (by rw[Array.getElem?_toList];exact hu)))
theorem Fp.cell{w w':World}(h:Fp w w'){b i:Nat}{u:Value}(hu:w.cell? ⟨b,i,none⟩=some u)(hk:¬IsPt u)(j:Nat):w'.cell? ⟨b,j,none⟩=w.cell? ⟨b,j,none⟩:=World.cell?_of_block (w:=w) (h.keep b i u hu hk)
theorem Qq7(x:Bool):¬IsPt (.bool x):=fun ⟨p,e⟩=>by cases e
theorem Qq8(k:IntKind)(n:Int):¬IsPt (.int k n):=fun ⟨p,e⟩=>by cases e
theorem Row.fp{k:IntKind}{w w':World}{a:Option Addr}{cap:Nat}{l:List Nat}(h:Row k w a cap l)(ho:Fp w w'):Row k w' a cap l:=by
 refine⟨h.fit,?_,fun i hi=>?_⟩
 .
  rcases h.shape with h1|⟨b',off,rfl,h2⟩
  . exact .inl h1
  . exact .inr ⟨b',off,rfl,by have:=ho.size;omega⟩
 . obtain⟨b',off,h1,h2,h3⟩:=h.cell i hi
   exact⟨b',off,h1,by have:=ho.size;omega,(ho.cell h3 (Qq8 _ _) _).trans h3⟩
theorem SB.fp{w w':World}{b:Nat}{t:TypeId}{C:Array Value}{u:Value}{i:Nat}(h:SB w b t C)(ho:Fp w w')(hi:C[i]?=some u)(hu:¬IsPt u):SB w' b t C:=by
 have e:=ho.keep b i u (by rw[h.cell];exact hi) hu;unfold SB at h ⊢;rw[e];exact h
theorem RatVal.fp{w w':World}{b:Nat}{q:Rat}(h:RatVal w b q)(ho:Fp w w'):RatVal w' b q:=by
 obtain⟨D,a1,c1,l1,a2,c2,l2,h1,h2⟩:=h;exact⟨D,a1,c1,l1,a2,c2,l2,⟨h1.sb.fp ho (i:=0) rfl (Qq7 _),⟨h1.num.row.fp ho,h1.num.num,h1.num.short⟩,⟨h1.den.row.fp ho,h1.den.num,h1.den.short⟩⟩,h2⟩
def RVs(w:World)(ts:List RT):Prop:=∀t,t∈ ts->RatVal w t.1 t.2.1/\Fits t.2.1 t.2.2/\0<t.2.2
theorem RVs.below{w w':World}{ts:List RT}(h:RVs w ts)(hb:Below w.heap.size w w'):RVs w' ts:=fun t ht=>⟨(h t ht).1.below hb,(h t ht).2⟩
theorem RVs.fp{w w':World}{ts:List RT}(h:RVs w ts)(ho:Fp w w'):RVs w' ts:=fun t ht=>⟨(h t ht).1.fp ho,(h t ht).2⟩
structure PRow (w:World) (a:Option Addr) (ts:List RT):Prop where
 row:CRow w a (ts.map ptrV)
 vs:RVs w ts
theorem PRow.below{w w':World}{a:Option Addr}{ts:List RT}(h:PRow w a ts)(hb:Below w.heap.size w w'):PRow w' a ts:=⟨h.row.below hb,h.vs.below hb⟩
theorem PRow.at{w:World}{a:Option Addr}{ts:List RT}(h:PRow w a ts){i:Nat}{t:RT}(hi:ts[i]?=some t):∃b off,a=some ⟨b,off,none⟩/\b<w.heap.size/\w.cell? ⟨b,off+i,none⟩=some (.pointer (some ⟨t.1,0,none⟩)):=h.row.cell i (ptrV t) (by rw[List.getElem?_map,hi];rfl)
theorem PRow.bag{w:World}{a:Option Addr}{ts:List RT}(h:PRow w a ts)(hg:∃m,w.cell? ⟨1,0,none⟩=some (.int .i64 m)):RBag w w ts:=⟨Below.refl _ _,hg,h.vs⟩
theorem Qi5:(prog.info? 42).map (fun i=>(i.zero,i.size,i.bytes))=some (some (.pointer none),1,8):=by kernel_rfl
structure PGrow (w:World) (B:Nat) (v:Value) (ts:List RT):Prop where
 list:Grow w B 42 1 IsPt v ts.length (ts.map ptrV)
 vs:RVs w ts
theorem PGrow.below{w w':World}{B:Nat}{v:Value}{ts:List RT}(h:PGrow w B v ts)(hb:Below w.heap.size w w'):PGrow w' B v ts:=⟨h.list.below hb,h.vs.below hb⟩
theorem PGrow.nil(w:World)(B:Nat):PGrow w B (.slice none 0 0) []:=⟨Grow.nil _ _ _ _ _,fun t ht=>by cases ht⟩
theorem PGrow.row{w:World}{B:Nat}{v:Value}{ts:List RT}(h:PGrow w B v ts):∃a cap,v=.slice a ts.length cap/\PRow w a ts:=by
 obtain⟨a,cap,e,_,hr,_⟩:=h.list.slice;exact⟨a,cap,e,hr,h.vs⟩
theorem PGrow.appT{w:World}{B nb c m:Nat}{v:Value}{ts us:List RT}{t:TypeId}(h:PGrow w B v ts)(ht:prog.underlying t=some (.slice 42))(hu:RVs w us)(hm:us.length=m)(hc:∀j u,(us.map ptrV)[j]?=some u->w.cell? ((⟨nb,0,none⟩:Addr).add j)=some u)(hn:ts.length+m<=1048576)(hB:B<=w.heap.size)(ty:TypeId):
 ∃v' w',appR prog t ty v (.slice (some ⟨nb,0,none⟩) m c) w=.ok v' w'/\PGrow w' B v' (ts++us)/\Below B w w'/\Fp w w'/\w.grownBy w' v.ownBlock/\(v'.ownBlock=v.ownBlock∨v'.ownBlock=some w.heap.size):=by
 subst hm;obtain⟨i,hi,hz⟩:=Option.map_eq_some_iff.1 Qi5;injection hz with z1 z2
 injection z2 with z2 z3
 obtain⟨v',w',h1,h2,h3,h4⟩:=h.list.app (P:=prog) (t:=t) (ty:=ty) ht hi z1 z2 z3 rfl (by decide) (fun u hu=>⟨none,by simpa [Value.cells] using hu⟩) ⟨nb,0,none⟩ us.length c (us.map ptrV) (by simp) hc (Qq6 us) (Qi4 us) hn (by decide) hB;have hf:=Fp.grown h.list h3;refine⟨v',w',h1,⟨?_,fun t ht=>?_⟩,Qjw h3 (fun g hg=>(h.list.lt hg).1) hB,hf,h3,h4⟩
 . rw[List.length_append,List.map_append]
   exact h2
 .
  rcases List.mem_append.1 ht with ht|ht
  . exact(h.vs.fp hf) t ht
  . exact(hu.fp hf) t ht
theorem PGrow.app{w:World}{B nb c m:Nat}{v:Value}{ts us:List RT}(h:PGrow w B v ts)(hu:RVs w us)(hm:us.length=m)(hc:∀j u,(us.map ptrV)[j]?=some u->w.cell? ((⟨nb,0,none⟩:Addr).add j)=some u)(hn:ts.length+m<=1048576)(hB:B<=w.heap.size)(ty:TypeId):
 ∃v' w',appR prog 51 ty v (.slice (some ⟨nb,0,none⟩) m c) w=.ok v' w'/\PGrow w' B v' (ts++us)/\Below B w w'/\Fp w w':=by
 obtain⟨v',w',h1,h2,h3,h4,_⟩:=h.appT underlying51 hu hm hc hn hB ty;exact⟨v',w',h1,h2,h3,h4⟩
def IsTx(u:Value):Prop:=∃s,u=Value.string s
abbrev TG(w:World)(B:Nat)(v:Value)(ss:List ByteArray):Prop:=Grow w B 23 1 IsTx v ss.length (textsV ss)
theorem TG.app{w:World}{B nb c:Nat}{v:Value}{ss:List ByteArray}{s:ByteArray}(h:TG w B v ss)(hc:w.cell? ⟨nb,0,none⟩=some (.string s))(hn:ss.length<=1000)(hB:B<=w.heap.size)(ty:TypeId):
 ∃v' w',appR prog 24 ty v (.slice (some ⟨nb,0,none⟩) 1 c) w=.ok v' w'/\TG w' B v' (ss++ [s])/\Below B w w':=by
 obtain⟨i,hi,hz⟩:=Option.map_eq_some_iff.1 Qj8;injection hz with z1 z2
 injection z2 with z2 z3
 obtain⟨v',w',h1,h2,h3,_⟩:=Grow.app h (P:=prog) (t:=24) (ty:=ty) underlying24 hi z1 z2 z3 rfl (by decide) (fun u hu=>⟨_,by simpa [Value.cells] using hu⟩) ⟨nb,0,none⟩ 1 c [.string s] rfl (fun j u hj=>by
  match j,hj with
  |0,hj=>
   obtain rfl:=Option.some.inj hj
   exact hc) (fun u hu=>by obtain rfl:=List.mem_singleton.1 hu;rfl) (fun u hu=>by obtain rfl:=List.mem_singleton.1 hu;exact⟨_,rfl⟩) (by omega) (by decide) hB
 refine⟨v',w',h1,?_,Qjw h3 (fun g hg=>(h.lt hg).1) hB⟩
 show Grow _ _ _ _ _ _ (ss++ [s]).length (textsV (ss++ [s]))
 rw[List.length_append,List.length_singleton,textsV,List.map_append];exact h2
theorem TG.tlst{w:World}{B:Nat}{v:Value}{ss:List ByteArray}(h:TG w B v ss):∃a cap,v=.slice a ss.length cap/\TLst w a ss:=by
 obtain⟨a,cap,e,_,hr,_⟩:=Grow.slice h;exact⟨a,cap,e,fun i s hi=>hr.cell i (.string s) (by simp[textsV,hi])⟩
theorem Qtj(a:Option Addr)(cap n K:Nat)(ts:List RT)(w:World)(hg:∃m,w.cell? ⟨1,0,none⟩=some (.int .i64 m))(h:PRow w a ts)(hk:∀t,t∈ ts->t.2.2<=K)(hK:K<274877906000)(hn:ts.length=n)(hl:n<=1000):
 Calls prog 24 #[.slice a n cap] w fun e w'=>∃(v:Value) (ss:List ByteArray),e=.returned v/\TG w' w.heap.size v ss/\ss.length=n/\(∀(i:Nat) (t:RT) (s:ByteArray),ts[i]?=some t->ss[i]?=some s->QText s.data.toList t.2.1)/\Below w.heap.size w w':=by
 obtain⟨HH,HGL,HK,HN⟩:=Ic h (RBag.start hg) hk hn;clear h hg hk hn;go_enter func24,ntmps24;go_wp2_with fail;go_loopw [3,8] (fun ov iv wr=>∃(k:Nat) (ss:List ByteArray),k<=n/\iv=.int .i64 k/\TG wr w.heap.size ov ss/\ss.length=k/\(∀(i:Nat) (t:RT) (s:ByteArray),ts[i]?=some t->ss[i]?=some s->QText s.data.toList t.2.1)/\Below w.heap.size w wr) (fun _ iv _=>n - (intOf iv).toNat)
 case atStart=>exact⟨0,[],Nat.zero_le _,rfl,Grow.nil _ _ _ _ _,rfl,fun i t s _ hs=>by simp at hs,Below.refl _ _⟩
 case round=>
  obtain⟨k,ss,hk,rfl,htg,hsl,htold,hbw⟩:=hrel;obtain⟨HTG,HSL,HTO,HBW⟩:=Ic htg hsl htold hbw;obtain⟨oa,oc,hov,_⟩:=TG.tlst htg;subst hov;clear htg hsl htold hbw;by_cases hlt:k<n
  .
   obtain⟨t,ht⟩:∃t,ts[k]?=some t:=⟨_,gE (by have:=HN.o;omega)⟩;obtain⟨b,off,rfl,hb,x0⟩:=(HH.o.below HBW.o).at ht;have hjk:=HK.o t (mO ht);have HT:=Hi (RBag.text (bx:=t.1) (p:=t.2.1) (j:=t.2.2) ((HH.o.below HBW.o).bag ((HGL.o.below HBW.o).glob)) (mO ht) (by omega));have q1:((k:Int)<(n:Int)):=by omega
   have HTT:=Hi ht;clear ht hjk;go_wp2_with fail;go_fit HT.o;rintro e w2 ⟨⟨s,rfl,hs⟩,hbag⟩;have HB2:=Hi (HBW.o.trans (hbag.base.mono HBW.o.size));have htg2:=Grow.below HTG.o hbag.base;have HS:=Hi hs;obtain⟨Y,hY⟩:=nm (w2.alloc (.cells #[.string s] 23));have hbY:Below w2.heap.size w2 Y:=by rw[<-hY];exact(Below.refl _ _).alloc lZ _
   have hcY:Y.cell? ⟨w2.heap.size,0,none⟩=some (.string s):=by rw[<-hY];exact Qsl w2 _ _
   obtain⟨v',w',happ,hgn,hbn⟩:=TG.app (Grow.below htg2 hbY) (s:=s) (nb:=w2.heap.size) (c:=1) hcY (by have:=HSL.o;omega) (Nat.le_trans HB2.o.size hbY.size) 24;rw[<-hY] at happ;have HGN:=Hi hgn;have HBN:O (Below w.heap.size w w'):=Hi ((HB2.o.trans (hbY.mono HB2.o.size)).trans hbn);clear hs hbag htg2 hY hbY hcY hgn hbn HT x0;go_wp2;go_roundw
   case rel=>
    refine⟨k+1,ss++ [s],by omega,by go_num,HGN.o,by simp[HSL.o],fun i t' s' ht' hs'=>?_,HBN.o⟩;rcases Nat.lt_or_ge i k with hi|hi
    . rw[List.getElem?_append_left (by have:=HSL.o;omega)] at hs'
      exact HTO.o i t' s' ht' hs'
    .
     have hil:=(gZ hs').1;rw[List.length_append,HSL.o,List.length_singleton] at hil;obtain rfl:i=k:=by omega
     rw[List.getElem?_append_right (by have:=HSL.o;omega),HSL.o,Nat.sub_self] at hs';obtain rfl:=Option.some.inj hs';obtain rfl:=Option.some.inj (HTT.o.symm.trans ht');exact HS.o
   case measure=>simp[intOf];omega
  .
   obtain rfl:n=k:=by omega
   go_wp2;go_ret;exact⟨_,ss,rfl,HTG.o,HSL.o,HTO.o,HBW.o⟩
def cmpQ(p q:Rat):Int:=cmpZ (p.num*(q.den:Int)) (q.num*(p.den:Int))
theorem Qao(p q:Rat):cmpQ p q<0↔p<q:=by
 rw[Rat.lt_iff];unfold cmpQ cmpZ
 split
 . simp[*]
 . split<;>simp[*]
theorem Qn8(p q:Rat):cmpQ p q=0↔p=q:=by
 rw[<-Qq4];unfold cmpQ cmpZ
 split
 .
  constructor
  . intro h;omega
  . intro h;omega
 .
  split
  . simp[*]
  .
   constructor
   . intro h;omega
   . intro h;omega
theorem Qaz(p q:Rat):0<cmpQ p q↔q<p:=by
 rw[Rat.lt_iff];unfold cmpQ cmpZ
 split
 .
  constructor
  . intro h;omega
  . intro h;omega
 .
  split
  .
   constructor
   . intro h;omega
   . intro h;omega
  .
   constructor
   . intro h;omega
   . intro h;omega
theorem Qeu(X:Int):(X<0/\sgn3 X= -1)∨(X=0/\sgn3 X=0)∨(0<X/\sgn3 X=1):=by
 unfold sgn3;rcases Int.lt_trichotomy X 0 with h|h|h
 . exact .inl ⟨h,by rw[if_pos h]⟩
 . exact .inr (.inl ⟨h,by rw[if_neg (by omega),if_pos h]⟩)
 . exact .inr (.inr ⟨h,by rw[if_neg (by omega),if_neg (by omega)]⟩)
theorem Qhm{X d:Int}(hd:0<d):sgn3 (X*d)=sgn3 X:=by
 rcases Qeu X with ⟨h,e⟩|⟨h,e⟩|⟨h,e⟩<;>rw[e]
 .
  have:=Int.mul_neg_of_neg_of_pos h hd;unfold sgn3;rw[if_pos this]
 . rw[h,Int.zero_mul]
   rfl
 .
  have:=Int.mul_pos h hd;unfold sgn3;rw[if_neg (by omega),if_neg (by omega)]
theorem Qn9{X Y:Int}(h:sgn3 X≠sgn3 Y):cmpZ X Y=cmpZ (sgn3 X) (sgn3 Y):=by
 rcases Qeu X with ⟨h1,e1⟩|⟨h1,e1⟩|⟨h1,e1⟩<;>rcases Qeu Y with ⟨h2,e2⟩|⟨h2,e2⟩|⟨h2,e2⟩<;>rw[e1,e2] at h ⊢ <;>first|exact absurd rfl h|(unfold cmpZ;first|(rw [if_pos (by omega)];rfl)|(rw [if_neg (by omega),if_neg (by omega)];rfl))
theorem Qoa{p q:Rat}(h:sgn3 p.num≠sgn3 q.num):cmpQ p q=cmpZ (sgn3 p.num) (sgn3 q.num):=by
 have e1:sgn3 (p.num*(q.den:Int))=sgn3 p.num:=Qhm (Int.ofNat_lt.2 q.den_pos);have e2:sgn3 (q.num*(p.den:Int))=sgn3 q.num:=Qhm (Int.ofNat_lt.2 p.den_pos);rw[<-e1,<-e2] at h ⊢;exact Qn9 h
theorem Qob{p q:Rat}(h:sgn3 p.num=sgn3 q.num):cmpQ p q=if p.num<0 then -cmp3 (p.num.natAbs*q.den) (q.num.natAbs*p.den) else cmp3 (p.num.natAbs*q.den) (q.num.natAbs*p.den):=by
 have e1:((p.num.natAbs*q.den:Nat):Int)=(p.num.natAbs:Int)*(q.den:Int):=by simp
 have e2:((q.num.natAbs*p.den:Nat):Int)=(q.num.natAbs:Int)*(p.den:Int):=by simp
 by_cases hn:p.num<0
 .
  have hm:q.num<0:=by
   unfold sgn3 at h;rw[if_pos hn] at h;by_cases k:q.num<0
   . exact k
   . rw[if_neg k] at h
     split at h<;>omega
  rw[if_pos hn];have f1:p.num*(q.den:Int)= -((p.num.natAbs*q.den:Nat):Int):=by rw[e1,show (p.num.natAbs:Int)= -p.num by omega,Int.neg_mul,Int.neg_neg]
  have f2:q.num*(p.den:Int)= -((q.num.natAbs*p.den:Nat):Int):=by rw[e2,show (q.num.natAbs:Int)= -q.num by omega,Int.neg_mul,Int.neg_neg]
  unfold cmpQ;rw[f1,f2];unfold cmpZ cmp3
  split<;>split<;>(try split)<;>(try split)<;>omega
 .
  have hm:¬q.num<0:=by
   unfold sgn3 at h;rw[if_neg hn] at h;intro k;rw[if_pos k] at h
   split at h<;>omega
  rw[if_neg hn];have f1:p.num*(q.den:Int)=((p.num.natAbs*q.den:Nat):Int):=by rw[e1,show (p.num.natAbs:Int)=p.num by omega]
  have f2:q.num*(p.den:Int)=((q.num.natAbs*p.den:Nat):Int):=by rw[e2,show (q.num.natAbs:Int)=q.num by omega]
  unfold cmpQ;rw[f1,f2];unfold cmpZ cmp3
  split<;>split<;>(try split)<;>(try split)<;>omega
theorem Qoc(x y:Int)(w:World):Calls prog 86 #[.int .i64 x,.int .i64 y] w fun e w'=>e=.returned (.int .i64 (cmpZ x y))/\Below w.heap.size w w':=by
 have HN:∀(z:Int) (v:World),O (Calls prog 129 #[.int .i64 z] v fun e w'=>e=.returned (.bool false)/\w'=v):=fun z v=>Hi (by
  go_enter func129,ntmps129;go_wp2;go_ret
  exact⟨rfl,rfl⟩)
 have HN1:=HN x w;have HN2:=HN y w;go_enter func86,ntmps86;go_wp2_with fail;go_fit HN1.o;rintro e w1 ⟨rfl,rfl⟩;go_wp2_with fail;go_fit HN2.o;rintro e w1 ⟨rfl,rfl⟩;clear HN HN1 HN2;by_cases h1:x<y
 .
  have HC:O (cmpZ x y= -1):=Hi (by unfold cmpZ;rw[if_pos h1]);have e1:decide (x<y)=true:=decide_eq_true h1;clear h1;go_wp2;go_ret;exact⟨by rw[HC.o];rfl,Below.refl _ _⟩
 .
  have e1:decide (x<y)=false:=decide_eq_false h1;by_cases h2:x=y
  .
   have HC:O (cmpZ x y=0):=Hi (by unfold cmpZ;rw[if_neg h1,if_pos h2]);have e2:decide (y<x)=false:=decide_eq_false (by omega);clear h1 h2;go_wp2;go_ret;exact⟨by rw[HC.o];rfl,Below.refl _ _⟩
  .
   have HC:O (cmpZ x y=1):=Hi (by unfold cmpZ;rw[if_neg h1,if_neg h2]);have e2:decide (y<x)=true:=decide_eq_true (by omega);clear h1 h2;go_wp2;go_ret;exact⟨by rw[HC.o];rfl,Below.refl _ _⟩
theorem Qod(nx ny:Bool)(ax bx ay b2:Option Addr)(lx cx mx dx ly cy my dy i j:Nat)(p q:Rat)(w:World)(hx:FracAt w nx ax lx cx bx mx dx p)(hy:FracAt w ny ay ly cy b2 my dy q)(hp:Fits p i)(hq:Fits q j)(hij:i+j<68719476000):
 Calls prog 41 #[.agg #[.bool nx,.slice ax lx cx,.slice bx mx dx],.agg #[.bool ny,.slice ay ly cy,.slice b2 my dy]] w fun e w'=>e=.returned (.int .i64 (cmpQ p q))/\Below w.heap.size w w':=by
 obtain⟨V,hV⟩:=nm ((w.alloc (.cells #[.bool nx,.slice ax lx cx,.slice bx mx dx] 63)).alloc (.cells #[.bool ny,.slice ay ly cy,.slice b2 my dy] 63));have HBV:=Ub hV;have hsx:SB V w.heap.size 63 #[.bool nx,.slice ax lx cx,.slice bx mx dx]:=by rw[<-hV];exact(SB.new w _ _).alloc _
 have hsy:SB V (w.heap.size+1) 63 #[.bool ny,.slice ay ly cy,.slice b2 my dy]:=by rw[<-hV];exact SB.new2 w _ _ _ _
 have ltx:=hsx.lt;have lty:=hsy.lt;have KX0:O (V.cell? ⟨w.heap.size,0,none⟩=some (.bool nx)):=Hi (hsx.cell 0);have KX1:O (V.cell? ⟨w.heap.size,1,none⟩=some (.slice ax lx cx)):=Hi (hsx.cell 1);have KX2:O (V.cell? ⟨w.heap.size,2,none⟩=some (.slice bx mx dx)):=Hi (hsx.cell 2);have KY0:O (V.cell? ⟨w.heap.size+1,0,none⟩=some (.bool ny)):=Hi (hsy.cell 0);have KY1:O (V.cell? ⟨w.heap.size+1,1,none⟩=some (.slice ay ly cy)):=Hi (hsy.cell 1);have KY2:O (V.cell? ⟨w.heap.size+1,2,none⟩=some (.slice b2 my dy)):=Hi (hsy.cell 2);obtain⟨HX,HY,HPF,HQF⟩:=Ic (hx.below HBV.o) (hy.below HBV.o) hp hq;obtain⟨A,hA⟩:=nm (sgn3 p.num);obtain⟨B,hB⟩:=nm (sgn3 q.num);have HGX:O (∀u,Below V.heap.size V u->Calls prog 35 #[.agg #[.bool nx,.slice ax lx cx,.slice bx mx dx]] u fun e w'=>e=.returned (.int .i64 A)/\Below u.heap.size u w'):=Hi (fun u hu=>by
  rw[<-hA]
  exact Qfo ⟨nx,ax,lx,cx,bx,mx,dx,rfl,HX.o.below hu⟩)
 have HGY:O (∀u,Below V.heap.size V u->Calls prog 35 #[.agg #[.bool ny,.slice ay ly cy,.slice b2 my dy]] u fun e w'=>e=.returned (.int .i64 B)/\Below u.heap.size u w'):=Hi (fun u hu=>by
  rw[<-hB]
  exact Qfo ⟨ny,ay,ly,cy,b2,my,dy,rfl,HY.o.below hu⟩)
 have HB:O (Below V.heap.size V V):=Hi bR;obtain⟨HVE,HAE,HBE⟩:=Ib hV hA hB;clear hx hy hp hq hV hsx hsy hA hB;go_enter func41,ntmps41;go_wp2_with fail;rw[HVE.o];obtain⟨kx0,kx1,kx2⟩:=Jb HB.o ltx KX0.o KX1.o KX2.o;obtain⟨ky0,ky1,ky2⟩:=Jb HB.o lty KY0.o KY1.o KY2.o;go_wp2_with fail;go_region_held3
  (fun w'=>w'.cell? ⟨w.heap.size,0,none⟩=some (.bool nx)/\w'.cell? ⟨w.heap.size,1,none⟩=some (.slice ax lx cx)/\w'.cell? ⟨w.heap.size,2,none⟩=some (.slice bx mx dx)/\w'.cell? ⟨w.heap.size+1,0,none⟩=some (.bool ny)/\w'.cell? ⟨w.heap.size+1,1,none⟩=some (.slice ay ly cy)/\w'.cell? ⟨w.heap.size+1,2,none⟩=some (.slice b2 my dy)) ((first|(simp [*];done)|go_keep))
  (first
  |
   (go_at_call_of 35 (Value.agg #[.bool nx,.slice ax lx cx,.slice bx mx dx])
    apply cM;apply HGX.o;(focus(first|exact HB.o|exact HB.o.drew|exact HB.o.drew.drew));rintro e wn ⟨rfl,hb⟩;have HBn:O (Below V.heap.size V wn):=Hi (by first|exact HB.o.trans (hb.mono HB.o.size)|exact HB.o.drew.trans (hb.mono HB.o.size));clear HB hb kx0 kx1 kx2 ky0 ky1 ky2;have HB:=HBn;clear HBn;obtain⟨kx0,kx1,kx2⟩:=Jb HB.o ltx KX0.o KX1.o KX2.o;obtain⟨ky0,ky1,ky2⟩:=Jb HB.o lty KY0.o KY1.o KY2.o
    skip)
  |
   (go_at_call_of 35 (Value.agg #[.bool ny,.slice ay ly cy,.slice b2 my dy])
    apply cM;apply HGY.o;(focus(first|exact HB.o|exact HB.o.drew|exact HB.o.drew.drew));rintro e wn ⟨rfl,hb⟩;have HBn:O (Below V.heap.size V wn):=Hi (by first|exact HB.o.trans (hb.mono HB.o.size)|exact HB.o.drew.trans (hb.mono HB.o.size));clear HB hb kx0 kx1 kx2 ky0 ky1 ky2;have HB:=HBn;clear HBn;obtain⟨kx0,kx1,kx2⟩:=Jb HB.o ltx KX0.o KX1.o KX2.o;obtain⟨ky0,ky1,ky2⟩:=Jb HB.o lty KY0.o KY1.o KY2.o
    skip)
  |fail)
 all_goals
  by_cases hs:A=B
  .
   have e0:(A != B)=false:=by simpa using hs
   have HC:O (cmpQ p q=if nx=true then -cmp3 (p.num.natAbs*q.den) (q.num.natAbs*p.den) else cmp3 (p.num.natAbs*q.den) (q.num.natAbs*p.den)):=Hi (by
    rw[Qob (by rw[HAE.o,HBE.o];exact hs),HX.o.neg]
    simp)
   obtain⟨wA,rfl⟩:∃wA,wA=wn:=⟨wn,rfl⟩;have hxA:=HX.o.below HB.o;have hyA:=HY.o.below HB.o;obtain⟨HR,HLX,HLY,HBA⟩:=Ic (NBag.start hxA.top hyA.top HPF.o.1 HQF.o.1) hxA.low hyA.low (HBV.o.trans (HB.o.mono HBV.o.size));have ltA:=Nat.lt_of_lt_of_le ltx HB.o.size;have ltB:=Nat.lt_of_lt_of_le lty HB.o.size;obtain⟨HK0,HK1,HK2,HK3,HK4,HK5⟩:=Ie kx0 kx1 kx2 ky0 ky1 ky2;clear hs hxA hyA HB HX HY HGX HGY HAE HBE KX0 KX1 KX2 KY0 KY1 KY2 ltx lty;go_wp2_with fail;go_region_held3
    (fun w'=>w'.cell? ⟨w.heap.size,0,none⟩=some (.bool nx)/\w'.cell? ⟨w.heap.size,1,none⟩=some (.slice ax lx cx)/\w'.cell? ⟨w.heap.size,2,none⟩=some (.slice bx mx dx)/\w'.cell? ⟨w.heap.size+1,0,none⟩=some (.bool ny)/\w'.cell? ⟨w.heap.size+1,1,none⟩=some (.slice ay ly cy)/\w'.cell? ⟨w.heap.size+1,2,none⟩=some (.slice b2 my dy)) ((first|(simp [*];done)|go_keep))
    (first
    |
     (go_at_call_of 89 (Value.agg #[.bool nx,.slice ax lx cx,.slice bx mx dx])
      apply cM;apply NBag.under (w0:=wA) (hl:=HLX.o) (hk:=HPF.o.2);(focus(first|exact HR.o|exact HR.o.drew|exact HR.o.drew.drew));rintro e w3 ⟨aX,nX,cX,rfl,hb⟩;clear HR;have HR:=Hi hb;clear hb;obtain⟨kx0,kx1,kx2⟩:=Jb HR.o.base ltA HK0.o HK1.o HK2.o;obtain⟨ky0,ky1,ky2⟩:=Jb HR.o.base ltB HK3.o HK4.o HK5.o
      skip)
    |
     (go_at_call_of 89 (Value.agg #[.bool ny,.slice ay ly cy,.slice b2 my dy])
      apply cM;apply NBag.under (w0:=wA) (hl:=HLY.o) (hk:=HQF.o.2);(focus(first|exact HR.o|exact HR.o.drew|exact HR.o.drew.drew));rintro e w4 ⟨aY,nY,cY,rfl,hb⟩;clear HR;have HR:=Hi hb;clear hb;obtain⟨kx0,kx1,kx2⟩:=Jb HR.o.base ltA HK0.o HK1.o HK2.o;obtain⟨ky0,ky1,ky2⟩:=Jb HR.o.base ltB HK3.o HK4.o HK5.o
      skip)
    |(
     go_at_call 88;apply cM;apply NBag.mul (w0:=wA);(focus(first|exact HR.o|exact HR.o.drew|exact HR.o.drew.drew));(focus(repeat(first|exact mH|apply mT)));(focus(repeat(first|exact mH|apply mT)));omega;rintro e wn ⟨an,nn,cn,rfl,hb⟩;clear HR;have HR:=Hi hb;clear hb;obtain⟨kx0,kx1,kx2⟩:=Jb HR.o.base ltA HK0.o HK1.o HK2.o;obtain⟨ky0,ky1,ky2⟩:=Jb HR.o.base ltB HK3.o HK4.o HK5.o
     skip)
    |(
     go_at_call 87;apply cM;apply NBag.compare (w0:=wA);(focus(first|exact HR.o|exact HR.o.drew|exact HR.o.drew.drew));(focus(repeat(first|exact mH|apply mT)));(focus(repeat(first|exact mH|apply mT)));rintro e wm ⟨rfl,hb⟩;clear HR;have HR:=Hi hb;clear hb;obtain⟨kx0,kx1,kx2⟩:=Jb HR.o.base ltA HK0.o HK1.o HK2.o;obtain⟨ky0,ky1,ky2⟩:=Jb HR.o.base ltB HK3.o HK4.o HK5.o
     skip)
    |fail)
   all_goals
    obtain⟨C,hC⟩:=nm (cmp3 (p.num.natAbs*q.den) (q.num.natAbs*p.den));rw[hC];have hCb: -1<=C/\C<=1:=by rw[<-hC];unfold cmp3;split<;>(try split)<;>omega
    have w1:IntKind.i64.wrap (-C)= -C:=by rw[wrap_i64 _ (by omega) (by omega)]
    rw[hC] at HC;clear hC kx0 kx1 kx2 ky0 ky1 ky2 hCb;obtain⟨kx0,kx1,kx2⟩:=Jb HR.o.base ltA HK0.o HK1.o HK2.o;obtain⟨ky0,ky1,ky2⟩:=Jb HR.o.base ltB HK3.o HK4.o HK5.o;rcases nx with _|_
    .
     have HC2:O (cmpQ p q=C):=Hi (by rw[HC.o];rfl);clear HC;go_wp2;go_ret;exact⟨by rw[HC2.o];first|rfl|simp[w1],HBA.o.trans (HR.o.base.mono HBA.o.size)⟩
    .
     have HC2:O (cmpQ p q= -C):=Hi (by rw[HC.o];rfl);clear HC;go_wp2;go_ret;exact⟨by rw[HC2.o];first|rfl|simp[w1],HBA.o.trans (HR.o.base.mono HBA.o.size)⟩
  .
   have e0:(A != B)=true:=by simpa using hs
   have HC:O (cmpQ p q=cmpZ A B):=Hi (by
    rw[<-HAE.o,<-HBE.o]
    exact Qoa (by rw[HAE.o,HBE.o];exact hs))
   have HCI:=Hi (fun u=>Qoc A B u);clear hs;go_wp2_with fail;go_region_held3
    (fun w'=>w'.cell? ⟨w.heap.size,0,none⟩=some (.bool nx)/\w'.cell? ⟨w.heap.size,1,none⟩=some (.slice ax lx cx)/\w'.cell? ⟨w.heap.size,2,none⟩=some (.slice bx mx dx)/\w'.cell? ⟨w.heap.size+1,0,none⟩=some (.bool ny)/\w'.cell? ⟨w.heap.size+1,1,none⟩=some (.slice ay ly cy)/\w'.cell? ⟨w.heap.size+1,2,none⟩=some (.slice b2 my dy)) ((first|(simp [*];done)|go_keep))
    (first
    |
     (go_at_call_of 35 (Value.agg #[.bool nx,.slice ax lx cx,.slice bx mx dx])
      apply cM;apply HGX.o;(focus(first|exact HB.o|exact HB.o.drew|exact HB.o.drew.drew));rintro e wn ⟨rfl,hb⟩;have HBn:O (Below V.heap.size V wn):=Hi (by first|exact HB.o.trans (hb.mono HB.o.size)|exact HB.o.drew.trans (hb.mono HB.o.size));clear HB hb kx0 kx1 kx2 ky0 ky1 ky2;have HB:=HBn;clear HBn;obtain⟨kx0,kx1,kx2⟩:=Jb HB.o ltx KX0.o KX1.o KX2.o;obtain⟨ky0,ky1,ky2⟩:=Jb HB.o lty KY0.o KY1.o KY2.o
      skip)
    |
     (go_at_call_of 35 (Value.agg #[.bool ny,.slice ay ly cy,.slice b2 my dy])
      apply cM;apply HGY.o;(focus(first|exact HB.o|exact HB.o.drew|exact HB.o.drew.drew));rintro e wn ⟨rfl,hb⟩;have HBn:O (Below V.heap.size V wn):=Hi (by first|exact HB.o.trans (hb.mono HB.o.size)|exact HB.o.drew.trans (hb.mono HB.o.size));clear HB hb kx0 kx1 kx2 ky0 ky1 ky2;have HB:=HBn;clear HBn;obtain⟨kx0,kx1,kx2⟩:=Jb HB.o ltx KX0.o KX1.o KX2.o;obtain⟨ky0,ky1,ky2⟩:=Jb HB.o lty KY0.o KY1.o KY2.o
      skip)
    |(
     go_at_call 86;apply cM;apply HCI.o;rintro e wn ⟨rfl,hb⟩;have HBn:O (Below V.heap.size V wn):=Hi (by first|exact HB.o.trans (hb.mono HB.o.size)|exact HB.o.drew.trans (hb.mono HB.o.size));clear HB hb kx0 kx1 kx2 ky0 ky1 ky2;have HB:=HBn;clear HBn;obtain⟨kx0,kx1,kx2⟩:=Jb HB.o ltx KX0.o KX1.o KX2.o;obtain⟨ky0,ky1,ky2⟩:=Jb HB.o lty KY0.o KY1.o KY2.o
     skip)
    |fail)
   all_goals
    go_wp2;go_ret;exact⟨by rw[HC.o];rfl,HBV.o.trans (HB.o.mono HBV.o.size)⟩
theorem Qoe{v1 v2:Value}{i j:Nat}{p q:Rat}{w:World}(hx:FracV w v1 p)(hy:FracV w v2 q)(hp:Fits p i)(hq:Fits q j)(hij:i+j<68719476000):Calls prog 41 #[v1,v2] w fun e w'=>e=.returned (.int .i64 (cmpQ p q))/\Below w.heap.size w w':=by
 obtain⟨nx,ax,lx,cx,bx,mx,dx,rfl,hx⟩:=hx;obtain⟨ny,ay,ly,cy,b2,my,dy,rfl,hy⟩:=hy;exact Qod nx ny ax bx ay b2 lx cx mx dx ly cy my dy i j p q w hx hy hp hq hij
end Go.Proofs.YtldjeecnapgakaaGreatDoor
