/- rafterbig: Int's Sign, Cmp, Neg onto itself; Rat's Sign, Set, Neg, SetInt64, IsInt, Num, Denom. -/
import Derived.Test.YtfpcipgoedifaaaGreatDoorK07RatNorm
namespace Go.Proofs.YtfpcipgoedifaaaGreatDoor
open Go.RowKit
set_option linter.unusedVariables false
theorem Qr3(b:Nat)(P D:Int)(a1 a2:Option Addr)(c1 c2:Nat)(l1 l2:List Nat)(w:World)(h:RatAt w b P D a1 c1 l1 a2 c2 l2)(hD:0<D)(hb1:l1.length<1099511627770)(hb2:l2.length<1099511627770):
 Calls Tryz.prog 72 #[.pointer (some ⟨b,0,none⟩)] w (RatOk w b (mkRat P D.natAbs)):=by
 by_cases hP:P=0
 ·
  subst hP;rw[Rat.zero_mkRat];exact Qr0 b D a1 a2 c1 c2 l1 l2 w h hD
 by_cases h1:D=1
 ·
  subst h1;have e:mkRat P (1:Int).natAbs=(P:Rat):=by
   apply Rat.ext
   · rw[Rat.num_mkRat];simp
   · rw[Rat.den_mkRat];simp
  rw[e];exact Qr1 b P a1 a2 c1 c2 l1 l2 w h hP
 · exact Qr2 b P D a1 a2 c1 c2 l1 l2 w h hP hD h1 hb1 hb2
set_option maxRecDepth 100000 in
set_option maxHeartbeats 2000000 in
theorem Qct(bz:Nat)(s0 s1 s2 s3:Value)(ba oa:Nat)(A:Int)(a1:Option Addr)(c1:Nat)(l1:List Nat)(bb ob:Nat)(B:Int)(a2:Option Addr)(c2:Nat)(l2:List Nat)(w:World)
 (hs:SB w bz 55 #[s0,s1,s2,s3]) (hn:NoInt #[s0,s1,s2,s3]) (ha:IntAt w ba oa A a1 c1 l1) (hb:IntAt w bb ob B a2 c2 l2) (hB:0<B) (h1:l1.length<1099511627770) (h2:l2.length<1099511627770):
 Calls Tryz.prog 35 #[.pointer (some ⟨bz,0,none⟩),.pointer (some ⟨ba,oa,none⟩),.pointer (some ⟨bb,ob,none⟩)] w (RatOk w bz (mkRat A B.natAbs)):=by
 have k1:=hb.abs;have q1:((l2.length:Int) == 0)=false:=by
  rw[beq_eq_false_iff_ne];have:=(hb.num.num.len_zero (by decide)).2;omega
 have HS:=Hi hs;have HN:=Hi hn;have HA:=Hi ha;have HBB:=Hi hb;have hlt:=hs.lt;have hla:=ha.lt;have hlb:=hb.lt;clear hs hn ha hb;go_enter Tryz.func35,Tryz.ntmps35;go_wp2_with fail;have hal:Below w.heap.size w (w.alloc (.cells #[.bool false,.slice none 0 0] 53)):=bR.alloc lZ _;refine(Qih w.heap.size 0 53 _ ba oa A a1 c1 l1 _ (SB.new w 53 _) Tryz.int_zero (by simp) (HA.out.below hal) (by omega)).mono ?_;rintro e w1 ⟨rfl,ap,cp,lp,hp⟩;have hb1:Below w.heap.size w w1:=Only.fresh hal hp.only lZ;have hs1:w.heap.size<w1.heap.size:=by have:=hp.only.size;simp at this;omega
 have hal2:Below w1.heap.size w1 (w1.alloc (.cells #[.bool false,.slice none 0 0] 53)):=bR.alloc lZ _;have HI2:=Hi (Qih w1.heap.size 0 53 _ bb ob B a2 c2 l2 _ (SB.new w1 53 _) Tryz.int_zero (by simp) ((HBB.out.below hb1).below hal2) (by omega));have HP:=Hi hp;have HB1:=Hi hb1;have HAL2:=Hi hal2;clear hp hb1 hal hal2;go_wp2_with fail;refine HI2.out.mono ?_;rintro e w2 ⟨rfl,aq,cq,lq,hq⟩;have hb2:Below w1.heap.size w1 w2:=Only.fresh HAL2.out hq.only lZ;have hpat:=(HP.out.at (by simp)).below hb2;have hqat:=hq.at (by simp);have hsz:=((HS.out.below HB1.out HS.out.lt).below hb2 (by omega));have p0:=hpat.neg;have p1:=hpat.abs;have r0:=hqat.neg;have r1:=hqat.abs;have z0:w2.cell? ⟨bz,0,none⟩=some s0:=by rw[hsz.cell];rfl
 have z1:w2.cell? ⟨bz,1,none⟩=some s1:=by rw[hsz.cell];rfl
 have z2:w2.cell? ⟨bz,2,none⟩=some s2:=by rw[hsz.cell];rfl
 have z3:w2.cell? ⟨bz,3,none⟩=some s3:=by rw[hsz.cell];rfl
 have f0:=hsz.free 0;have f1:=hsz.free 1;have f2:=hsz.free 2;have f3:=hsz.free 3;have HPA:=Hi hpat;have HQA:=Hi hqat;have HSZ:=Hi hsz;have HB2:=Hi hb2;clear hq hpat hqat hsz hb2;simp only[Nat.zero_add] at p1 r1;go_wp2_with fail;have ho:Only bz w2 ((((w2.setCell ⟨bz,0,none⟩ (.bool (decide (A<0)))).setCell ⟨bz,1,none⟩ (.slice ap lp.length cp)).setCell ⟨bz,2,none⟩ (.bool (decide (B<0)))).setCell ⟨bz,3,none⟩ (.slice aq lq.length cq)):=
  ((((Only.refl bz w2).setCell _ _).setCell _ _).setCell _ _).setCell _ _
 have hrat:RatAt ((((w2.setCell ⟨bz,0,none⟩ (.bool (decide (A<0)))).setCell ⟨bz,1,none⟩ (.slice ap lp.length cp)).setCell ⟨bz,2,none⟩ (.bool (decide (B<0)))).setCell ⟨bz,3,none⟩ (.slice aq lq.length cq)) bz A B ap cp lp aq cq lq:=by
  refine⟨?_,HPA.out.num.only ho HSZ.out HN.out,HQA.out.num.only ho HSZ.out HN.out⟩;have:=(((HSZ.out.set 0 (.bool (decide (A<0)))).set 1 (.slice ap lp.length cp)).set 2 (.bool (decide (B<0)))).set 3 (.slice aq lq.length cq)
  simpa using this
 have hlp:lp.length<=l1.length:=HPA.out.num.len_mono HA.out.num lZ;have hlq:lq.length<=l2.length:=HQA.out.num.len_mono HBB.out.num lZ;refine(Qr3 bz A B ap aq cp cq lp lq _ hrat hB (by omega) (by omega)).mono ?_;rintro e w3 hok;have hok':RatOk w bz (mkRat A B.natAbs) e w3:=RatOk.of ((Only.of_below (HB1.out.trans (HB2.out.mono (by omega)))).trans ho) hok;obtain⟨rfl,hon,hr⟩:=hok';clear hok ho hrat;go_wp2;go_ret;exact⟨rfl,hon,hr⟩
structure Step (b:Nat) (w w':World):Prop where
 only:Only b w w'
 noint:∀(i:Nat) (k:IntKind) (n:Int),w.cell? ⟨b,i,none⟩≠some (Value.int k n)
theorem Step.of_only{b:Nat}{w w':World}{t:TypeId}{C:Array Value}(h:Only b w w')(hs:SB w b t C)(hn:NoInt C):Step b w w':=⟨h,fun i k n=>by rw[hs.cell];exact hn i k n⟩
theorem Step.of_below{w w':World}(h:Below w.heap.size w w'):Step w.heap.size w w':=
 ⟨Only.of_below h,fun i k n e=>by have:=World.block_lt_of_cell? w _ e;simp at this⟩
theorem Step.alloc(w:World)(o:Obj):Step w.heap.size w (w.alloc o):=Step.of_below (bR.alloc lZ _)
theorem Step.drew(w:World):Step w.heap.size w w.drew:=Step.of_below bR.drew
theorem Step.size{b:Nat}{w w':World}(h:Step b w w'):w.heap.size<=w'.heap.size:=h.only.size
theorem SB.step{w w':World}{b c:Nat}{t:TypeId}{C:Array Value}(h:SB w b t C)(k:Step c w w')(hne:b≠c):SB w' b t C:=h.only k.only hne
theorem Row.step{k:IntKind}{w w':World}{a:Option Addr}{cap:Nat}{l:List Nat}{b:Nat}(h:Row k w a cap l)(ho:Step b w w'):Row k w' a cap l:=by
 refine⟨h.fit,?_,fun i hi=>?_⟩
 ·
  rcases h.shape with h1|⟨b',off,rfl,h2⟩
  · exact .inl h1
  · exact .inr ⟨b',off,rfl,by have:=ho.size;omega⟩
 ·
  obtain⟨b',off,h1,h2,h3⟩:=h.cell i hi;have hne:b'≠b:=by
   rintro rfl;exact ho.noint _ _ _ h3
  exact⟨b',off,h1,by have:=ho.size;omega,(World.cell?_of_block (w:=w) (ho.only.block b' h2 hne)).trans h3⟩
theorem U32.step{w w':World}{a:Option Addr}{cap:Nat}{l:List Nat}{n b:Nat}(h:U32 w a cap l n)(ho:Step b w w'):U32 w' a cap l n:=⟨h.row.step ho,h.num,h.short⟩
theorem IntAt.step{w w':World}{b o c:Nat}{z:Int}{a:Option Addr}{cap:Nat}{l:List Nat}(h:IntAt w b o z a cap l)(ho:Step c w w')(hne:b≠c):IntAt w' b o z a cap l:=
 ⟨(World.cell?_of_block (w:=w) (a:=⟨b,o,none⟩) (ho.only.block b h.lt hne)).trans h.neg,(World.cell?_of_block (w:=w) (a:=⟨b,o+1,none⟩) (ho.only.block b h.lt hne)).trans h.abs,h.num.step ho,by have:=h.lt;have:=ho.size;omega⟩
theorem RatAt.step{w w':World}{b c:Nat}{P D:Int}{a1 a2:Option Addr}{c1 c2:Nat}{l1 l2:List Nat}(h:RatAt w b P D a1 c1 l1 a2 c2 l2)(ho:Step c w w')(hne:b≠c):RatAt w' b P D a1 c1 l1 a2 c2 l2:=
 ⟨h.sb.step ho hne,h.num.step ho,h.den.step ho⟩
theorem SB.drew{w:World}{b:Nat}{t:TypeId}{C:Array Value}(h:SB w b t C):SB w.drew b t C:=h
theorem IntAt.alloc{w:World}{b o:Nat}{z:Int}{a:Option Addr}{cap:Nat}{l:List Nat}(h:IntAt w b o z a cap l)(x:Obj):IntAt (w.alloc x) b o z a cap l:=h.below (bR.alloc lZ _)
def DenOk(w:World)(b:Nat)(d:Int)(e:Ending)(w':World):Prop:=
 (∃b' o a cap l,e=.returned (.pointer (some ⟨b',o,none⟩))/\IntAt w' b' o d a cap l/\(b'=b∨w.heap.size<=b'))/\Below w.heap.size w w'
set_option maxHeartbeats 400000 in
theorem Qsc(b:Nat)(P D d:Int)(a1 a2:Option Addr)(c1 c2:Nat)(l1 l2:List Nat)(w:World)(h:RatAt w b P D a1 c1 l1 a2 c2 l2)(hd:D=d∨D=0/\d=1)(hd0:0<d):
 Calls Tryz.prog 37 #[.pointer (some ⟨b,0,none⟩)] w (DenOk w b d):=by
 have k3:=h.c3;by_cases hD:D=0
 ·
  have q1:((l2.length:Int) == 0)=true:=by
   have:=(h.den.num.len_zero (by decide)).1 (by omega);simp[this]
  have HD:=Hi (show d=1 by omega);clear h hd hD;go_enter Tryz.func37,Tryz.ntmps37;go_wp2_with fail;refine(Qci 1 _ (by decide) (by decide)).mono ?_;rintro e w1 ⟨⟨b',a,cap,l,rfl,hb',hs,hu⟩,hb⟩;go_wp2;go_ret;refine⟨⟨b',0,a,cap,l,rfl,?_,.inr hb'⟩,hb⟩;rw[HD.out];exact⟨by rw[hs.cell];rfl,by rw[hs.cell];rfl,hu,hs.lt⟩
 ·
  have q1:((l2.length:Int) == 0)=false:=by
   rw[beq_eq_false_iff_ne];have:=(h.den.num.len_zero (by decide)).2;omega
  have HD:=Hi (show D=d by omega);have H:=Hi h;clear h hd hD;go_enter Tryz.func37,Tryz.ntmps37;go_wp2;go_ret;exact⟨⟨b,2,a2,c2,l2,rfl,by rw[<-HD.out];exact H.out.lower,.inl rfl⟩,Below.refl _ _⟩
def zeroInt:Array Value:=#[.bool false,.slice none 0 0]
structure Thing where
 kind:Nat
 b:Nat
 o:Nat
 X:Int
 L:Nat
abbrev Thing.int(b o:Nat)(X:Int)(L:Nat):Thing:=⟨0,b,o,X,L⟩
abbrev Thing.rat(b:Nat)(d:Int)(L:Nat):Thing:=⟨1,b,0,d,L⟩
abbrev Thing.room(b:Nat):Thing:=⟨2,b,0,0,0⟩
def Thing.block:Thing->Nat
 |⟨_,b,_,_,_⟩=>b
def Thing.holds(w:World):Thing->Prop
 |⟨0,b,o,X,L⟩=>∃a cap l,IntAt w b o X a cap l/\l.length<=L
 |⟨1,b,_,d,L⟩=>∃P D a1 c1 l1 a2 c2 l2,RatAt w b P D a1 c1 l1 a2 c2 l2/\(D=d∨D=0/\d=1)/\0<d/\l2.length<=L
 |⟨_+2,b,_,_,_⟩=>∃s0 s1 s2 s3,SB w b 55 #[s0,s1,s2,s3]/\NoInt #[s0,s1,s2,s3]
theorem Thing.lt{w:World}{t:Thing}(h:t.holds w):t.block<w.heap.size:=by
 obtain⟨kind,b,o,X,L⟩:=t
 match kind,h with
 |0,h=>obtain⟨a,cap,l,h,_⟩:=h;exact h.lt
 |1,h=>obtain⟨P,D,a1,c1,l1,a2,c2,l2,h,_⟩:=h;exact h.sb.lt
 |n+2,h=>obtain⟨s0,s1,s2,s3,h,_⟩:=h;exact SB.lt h
theorem Thing.step{w w':World}{t:Thing}{c:Nat}(h:t.holds w)(k:Step c w w')(hne:t.block≠c):t.holds w':=by
 obtain⟨kind,b,o,X,L⟩:=t
 match kind,h with
 |0,h=>obtain⟨a,cap,l,h,hl⟩:=h;exact⟨a,cap,l,h.step k hne,hl⟩
 |1,h=>obtain⟨P,D,a1,c1,l1,a2,c2,l2,h,h1⟩:=h;exact⟨P,D,a1,c1,l1,a2,c2,l2,h.step k hne,h1⟩
 |n+2,h=>obtain⟨s0,s1,s2,s3,h,h1⟩:=h;exact⟨s0,s1,s2,s3,SB.step h k hne,h1⟩
structure Bag (w0 w:World) (Z:List Nat) (L:List Thing):Prop where
 base:Below w0.heap.size w0 w
 zs:∀n,n∈ Z->w0.heap.size<=n/\SB w n 53 zeroInt
 ts:∀t,t∈ L->t.holds w/\t.block ∉ Z
theorem Bag.drew{w0 w:World}{Z:List Nat}{L:List Thing}(h:Bag w0 w Z L):Bag w0 w.drew Z L:=
 ⟨h.base.drew,fun n hn=>⟨(h.zs n hn).1,(h.zs n hn).2.drew⟩,fun t ht=>⟨Thing.step (h.ts t ht).1 (Step.drew w) (by have:=Thing.lt (h.ts t ht).1;omega),(h.ts t ht).2⟩⟩
theorem Bag.alloc{w0 w:World}{Z:List Nat}{L:List Thing}(h:Bag w0 w Z L):Bag w0 (w.alloc (.cells #[.bool false,.slice none 0 0] 53)) (w.heap.size :: Z) L:=by
 refine⟨h.base.alloc h.base.size _,fun n hn=>?_,fun t ht=>⟨Thing.step (h.ts t ht).1 (Step.alloc w _) (by have:=Thing.lt (h.ts t ht).1;omega),?_⟩⟩
 ·
  rcases List.mem_cons.1 hn with rfl|hn
  · exact⟨h.base.size,SB.new w _ _⟩
  · exact⟨(h.zs n hn).1,(h.zs n hn).2.alloc _⟩
 ·
  intro hc;rcases List.mem_cons.1 hc with hc|hc
  · have:=Thing.lt (h.ts t ht).1;omega
  · exact(h.ts t ht).2 hc
def less(Z:List Nat)(n:Nat):List Nat:=Z.filter fun m=>decide (m≠n)
theorem mem_less{Z:List Nat}{n m:Nat}:m∈ less Z n↔m∈ Z/\m≠n:=by simp[less]
theorem Bag.lay{w0 w w':World}{Z:List Nat}{L:List Thing}{n K:Nat}{X:Int}{e:Ending}(h:Bag w0 w Z L)(hn:n∈ Z)(k:LaidOk w n 0 53 zeroInt X e w')(hK:∀a cap l,U32 w' a cap l X.natAbs->l.length<=K):
 e=.returned (.pointer (some ⟨n,0,none⟩))/\Bag w0 w' (less Z n) (.int n 0 X K :: L):=by
 obtain⟨rfl,a,cap,l,hl⟩:=k;have hz:=h.zs n hn;have st:Step n w w':=Step.of_only hl.only hz.2 Tryz.int_zero;refine⟨rfl,h.base.trans (hl.only.below hz.1 h.base.size),fun m hm=>?_,fun t ht=>?_⟩
 · obtain⟨h1,h2⟩:=mem_less.1 hm
   exact⟨(h.zs m h1).1,(h.zs m h1).2.step st h2⟩
 ·
  rcases List.mem_cons.1 ht with rfl|ht
  · exact⟨⟨a,cap,l,hl.at (by simp[zeroInt]),hK a cap l hl.num⟩,fun hc=>(mem_less.1 hc).2 rfl⟩
  · have:=h.ts t ht
    exact⟨Thing.step this.1 st (fun hc=>this.2 (hc ▸ hn)),fun hc=>this.2 (mem_less.1 hc).1⟩
theorem Bag.below{w0 w w':World}{Z:List Nat}{L:List Thing}(h:Bag w0 w Z L)(k:Below w.heap.size w w'):Bag w0 w' Z L:=by
 have st:=Step.of_below k;refine⟨h.base.trans (k.mono h.base.size),fun n hn=>⟨(h.zs n hn).1,(h.zs n hn).2.below k (h.zs n hn).2.lt⟩,fun t ht=>⟨Thing.step (h.ts t ht).1 st (by have:=Thing.lt (h.ts t ht).1;omega),(h.ts t ht).2⟩⟩
theorem Bag.put{w0 w:World}{Z:List Nat}{L:List Thing}{t:Thing}(h:Bag w0 w Z L)(ht:t.holds w)(hb:t.block ∉ Z):Bag w0 w Z (t :: L):=
 ⟨h.base,h.zs,fun s hs=>by
   rcases List.mem_cons.1 hs with rfl|hs
   · exact⟨ht,hb⟩
   · exact h.ts s hs⟩
theorem U32.len_of{w w1 w2:World}{a b c:Option Addr}{k1 k2 k3:Nat}{l m r:List Nat}{x y z:Nat}(h:U32 w1 a k1 l x)(k:U32 w2 b k2 m y)(hr:U32 w c k3 r z)(hz:z<=x*y∨z<=x+y):r.length<=l.length+m.length+1:=by
 apply hr.num.length_le_of_lt (by decide);have e1:=Qab (B:=4294967296) (by decide) h.num.small;have e2:=Qab (B:=4294967296) (by decide) k.num.small;rw[h.num.eq] at e1;rw[k.num.eq] at e2;have e3:x*y<4294967296 ^ (l.length+m.length):=by rw[Nat.pow_add];exact Nat.mul_lt_mul'' e1 e2
 have e4:4294967296 ^ l.length<=4294967296 ^ (l.length+m.length):=Nat.pow_le_pow_right (by decide) (by omega);have e5:4294967296 ^ m.length<=4294967296 ^ (l.length+m.length):=Nat.pow_le_pow_right (by decide) (by omega);have e6:4294967296 ^ (l.length+m.length+1)=4294967296 ^ (l.length+m.length)*4294967296:=Nat.pow_succ _ _;rw[e6];generalize 4294967296 ^ (l.length+m.length)=p at*;omega
def LayOk(w0 w:World)(Z:List Nat)(L:List Thing)(n:Nat)(X:Int)(K:Nat)(e:Ending)(w':World):Prop:=
 e=.returned (.pointer (some ⟨n,0,none⟩))/\Bag w0 w' (less Z n) (.int n 0 X K :: L)/\w.heap.size<=w'.heap.size/\n<w'.heap.size
theorem Bag.layOk{w0 w w':World}{Z:List Nat}{L:List Thing}{n K:Nat}{X:Int}{e:Ending}(h:Bag w0 w Z L)(hn:n∈ Z)(k:LaidOk w n 0 53 zeroInt X e w')(hK:∀a cap l,U32 w' a cap l X.natAbs->l.length<=K):LayOk w0 w Z L n X K e w':=by
 have h1:=h.lay hn k hK;refine⟨h1.1,h1.2,?_,?_⟩
 · obtain⟨_,a,cap,l,hl⟩:=k;exact hl.only.size
 · obtain⟨_,a,cap,l,hl⟩:=k;exact hl.sb.lt
theorem Bag.mul{w0 w:World}{Z:List Nat}{L:List Thing}{n bx ox bv ov K1 K2:Nat}{X Y:Int}(h:Bag w0 w Z L)(hn:n∈ Z)(hx:.int bx ox X K1∈ L)(hy:.int bv ov Y K2∈ L)(hl:K1+K2<1099511627770):
 Calls Tryz.prog 39 #[.pointer (some ⟨n,0,none⟩),.pointer (some ⟨bx,ox,none⟩),.pointer (some ⟨bv,ov,none⟩)] w (LayOk w0 w Z L n (X*Y) (K1+K2+1)):=by
 obtain⟨⟨a,cap,l,ha,h1⟩,hna⟩:=h.ts _ hx;obtain⟨⟨b,cap',m,hb,h2⟩,hnb⟩:=h.ts _ hy;refine(Qpg n 0 53 _ bx ox X a cap l bv ov Y b cap' m w (h.zs n hn).2 Tryz.int_zero (by simp[zeroInt]) ha hb (fun e=>hna (e ▸ hn)) (fun e=>hnb (e ▸ hn)) (by omega)).mono ?_;intro e w' hk;refine h.layOk hn hk fun a' c' r hr=>?_
 have:=ha.num.len_of hb.num hr (.inl (by rw[Int.natAbs_mul];exact Nat.le_refl _));omega
theorem Bag.add{w0 w:World}{Z:List Nat}{L:List Thing}{n bx ox bv ov K1 K2:Nat}{X Y:Int}(h:Bag w0 w Z L)(hn:n∈ Z)(hx:.int bx ox X K1∈ L)(hy:.int bv ov Y K2∈ L)(hl:K1+K2<1099511627770):
 Calls Tryz.prog 43 #[.pointer (some ⟨n,0,none⟩),.pointer (some ⟨bx,ox,none⟩),.pointer (some ⟨bv,ov,none⟩)] w (LayOk w0 w Z L n (X+Y) (K1+K2+1)):=by
 obtain⟨⟨a,cap,l,ha,h1⟩,hna⟩:=h.ts _ hx;obtain⟨⟨b,cap',m,hb,h2⟩,hnb⟩:=h.ts _ hy;refine(Qpe n 0 53 _ bx ox X a cap l bv ov Y b cap' m w (h.zs n hn).2 Tryz.int_zero (by simp[zeroInt]) ha hb (fun e=>hna (e ▸ hn)) (fun e=>hnb (e ▸ hn)) (by omega)).mono ?_;intro e w' hk;refine h.layOk hn hk fun a' c' r hr=>?_
 have:=ha.num.len_of hb.num hr (.inr (by omega));omega
theorem Bag.sub{w0 w:World}{Z:List Nat}{L:List Thing}{n bx ox bv ov K1 K2:Nat}{X Y:Int}(h:Bag w0 w Z L)(hn:n∈ Z)(hx:.int bx ox X K1∈ L)(hy:.int bv ov Y K2∈ L)(hl:K1+K2<1099511627770):
 Calls Tryz.prog 80 #[.pointer (some ⟨n,0,none⟩),.pointer (some ⟨bx,ox,none⟩),.pointer (some ⟨bv,ov,none⟩)] w (LayOk w0 w Z L n (X - Y) (K1+K2+1)):=by
 obtain⟨⟨a,cap,l,ha,h1⟩,hna⟩:=h.ts _ hx;obtain⟨⟨b,cap',m,hb,h2⟩,hnb⟩:=h.ts _ hy;refine(Qpf n 0 53 _ bx ox X a cap l bv ov Y b cap' m w (h.zs n hn).2 Tryz.int_zero (by simp[zeroInt]) ha hb (fun e=>hna (e ▸ hn)) (fun e=>hnb (e ▸ hn)) (by omega)).mono ?_;intro e w' hk;refine h.layOk hn hk fun a' c' r hr=>?_
 have:=ha.num.len_of hb.num hr (.inr (by omega));omega
def DenLeft(w0 w:World)(Z:List Nat)(L:List Thing)(d:Int)(K:Nat)(e:Ending)(w':World):Prop:=
 ∃b o,e=.returned (.pointer (some ⟨b,o,none⟩))/\Bag w0 w' Z (.int b o d K :: L)/\w.heap.size<=w'.heap.size
theorem Bag.den{w0 w:World}{Z:List Nat}{L:List Thing}{b K:Nat}{d:Int}(h:Bag w0 w Z L)(hx:.rat b d K∈ L):
 Calls Tryz.prog 37 #[.pointer (some ⟨b,0,none⟩)] w (DenLeft w0 w Z L d (K+1)):=by
 obtain⟨⟨P,D,a1,c1,l1,a2,c2,l2,hr,hd,hd0,hl⟩,hnb⟩:=h.ts _ hx;refine(Qsc b P D d a1 a2 c1 c2 l1 l2 w hr hd hd0).mono ?_;rintro e w' ⟨⟨b',o,a,cap,l,rfl,hi,hb⟩,hbl⟩;refine⟨b',o,rfl,(h.below hbl).put ⟨a,cap,l,hi,?_⟩ ?_,hbl.size⟩
 ·
  have:=hi.num;rcases hd with hd|⟨_,hd⟩
  ·
   subst hd;have:=this.len_mono hr.den lZ;omega
  ·
   subst hd;have:=Qd6 this.num;rw[this];simp
 ·
  intro hc
  show False
  rcases hb with rfl|hb
  · exact hnb hc
  ·
   have:=(h.zs _ hc).2.lt;have e:Thing.block (.int b' o d (K+1))=b':=rfl;rw[e] at this;omega
theorem Bag.setFrac{w0 w:World}{Z:List Nat}{L:List Thing}{bz ba oa bb ob K1 K2:Nat}{A B:Int}(h:Bag w0 w Z L)(hz:.room bz∈ L)(ha:.int ba oa A K1∈ L)(hb:.int bb ob B K2∈ L)(hB:0<B)(h1:K1<1099511627770)(h2:K2<1099511627770):
 Calls Tryz.prog 35 #[.pointer (some ⟨bz,0,none⟩),.pointer (some ⟨ba,oa,none⟩),.pointer (some ⟨bb,ob,none⟩)] w (RatOk w0 bz (mkRat A B.natAbs)):=by
 obtain⟨⟨s0,s1,s2,s3,hs,hn⟩,_⟩:=h.ts _ hz;obtain⟨⟨a,cap,l,ha,h3⟩,_⟩:=h.ts _ ha;obtain⟨⟨b,cap',m,hb,h4⟩,_⟩:=h.ts _ hb;refine(Qct bz s0 s1 s2 s3 ba oa A a cap l bb ob B b cap' m w hs hn ha hb hB (by omega) (by omega)).mono ?_;intro e w' hk;exact RatOk.of (Only.of_below h.base) hk
def RatVal(w:World)(b:Nat)(q:Rat):Prop:=∃D a1 c1 l1 a2 c2 l2,RatAt w b q.num D a1 c1 l1 a2 c2 l2/\(D=(q.den:Int)∨D=0/\(q.den:Int)=1)
def Fits(q:Rat)(k:Nat):Prop:=q.num.natAbs<2 ^ k/\q.den<2 ^ k
theorem Qbh(q:Rat):(0:Int)<(q.den:Int):=by have:=q.den_pos;omega
theorem RatVal.below{w w':World}{b:Nat}{q:Rat}(h:RatVal w b q)(hb:Below w.heap.size w w'):RatVal w' b q:=by
 obtain⟨D,a1,c1,l1,a2,c2,l2,h,h1⟩:=h;exact⟨D,a1,c1,l1,a2,c2,l2,h.below hb,h1⟩
theorem RatVal.room{w:World}{b:Nat}{q:Rat}(h:RatVal w b q):(Thing.room b).holds w:=by
 obtain⟨D,a1,c1,l1,a2,c2,l2,h,h1⟩:=h;exact⟨_,_,_,_,h.sb,Qan _ _ _ _ _ _ _ _⟩
theorem RatOk.val{w w':World}{b:Nat}{q:Rat}{e:Ending}(h:RatOk w b q e w'):RatVal w' b q:=by
 obtain⟨_,_,a1,c1,l1,a2,c2,l2,h⟩:=h;exact⟨_,a1,c1,l1,a2,c2,l2,h,.inl rfl⟩
theorem U32.len_bits{w:World}{a:Option Addr}{c:Nat}{l:List Nat}{n k:Nat}(h:U32 w a c l n)(hn:n<2 ^ k):l.length<=k:=by
 apply h.num.length_le_of_lt (by decide);refine Nat.lt_of_lt_of_le hn ?_;exact Nat.pow_le_pow_left (by decide) k
theorem RatVal.int{w:World}{b:Nat}{q:Rat}{k:Nat}(h:RatVal w b q)(hk:Fits q k):(Thing.int b 0 q.num k).holds w:=by
 obtain⟨D,a1,c1,l1,a2,c2,l2,h,h1⟩:=h;exact⟨a1,c1,l1,h.upper,h.num.len_bits hk.1⟩
theorem RatVal.rat{w:World}{b:Nat}{q:Rat}{k:Nat}(h:RatVal w b q)(hk:Fits q k):(Thing.rat b q.den k).holds w:=by
 obtain⟨D,a1,c1,l1,a2,c2,l2,h,h1⟩:=h;refine⟨_,D,a1,c1,l1,a2,c2,l2,h,h1,Qbh q,h.den.len_bits ?_⟩;rcases h1 with h1|⟨h1,_⟩
 · rw[h1];exact hk.2
 · rw[h1];exact Nat.two_pow_pos k
theorem Bag.two{w:World}{bx bv bz j k:Nat}{p q:Rat}(hx:RatVal w bx p)(hy:RatVal w bv q)(hz:(Thing.room bz).holds w)(hp:Fits p j)(hq:Fits q k):
 Bag w w [] [.int bx 0 p.num j,.rat bx p.den j,.int bv 0 q.num k,.rat bv q.den k,.room bz]:=by
 refine⟨Below.refl _ _,fun n hn=>(by cases hn),fun t ht=>⟨?_,List.not_mem_nil⟩⟩;simp only[List.mem_cons,List.not_mem_nil,or_false] at ht;rcases ht with rfl|rfl|rfl|rfl|rfl
 · exact hx.int hp
 · exact hx.rat hp
 · exact hy.int hq
 · exact hy.rat hq
 · exact hz
theorem Bag.one{w:World}{bx bz j:Nat}{p:Rat}(hx:RatVal w bx p)(hz:(Thing.room bz).holds w)(hp:Fits p j):
 Bag w w [] [.int bx 0 p.num j,.rat bx p.den j,.room bz]:=by
 refine⟨Below.refl _ _,fun n hn=>(by cases hn),fun t ht=>⟨?_,List.not_mem_nil⟩⟩;simp only[List.mem_cons,List.not_mem_nil,or_false] at ht;rcases ht with rfl|rfl|rfl
 · exact hx.int hp
 · exact hx.rat hp
 · exact hz
theorem Qfx(p q:Rat):mkRat (p.num*q.num) ((p.den:Int)*(q.den:Int)).natAbs=p*q:=by
 rw[Int.natAbs_mul,Int.natAbs_natCast,Int.natAbs_natCast,<-Rat.mkRat_mul_mkRat,Rat.mkRat_self,Rat.mkRat_self]
theorem Qd5(p q:Rat):mkRat (p.num*(q.den:Int)+q.num*(p.den:Int)) ((p.den:Int)*(q.den:Int)).natAbs=p+q:=by
 rw[Int.natAbs_mul,Int.natAbs_natCast,Int.natAbs_natCast,<-Rat.mkRat_add_mkRat _ _ p.den_nz q.den_nz,Rat.mkRat_self,Rat.mkRat_self]
theorem Qrs(p q:Rat):mkRat (p.num*(q.den:Int) - q.num*(p.den:Int)) ((p.den:Int)*(q.den:Int)).natAbs=p - q:=by
 have:=Qd5 p (-q);rw[Rat.neg_num,Rat.neg_den,Int.neg_mul,<-Int.sub_eq_add_neg] at this;rw[this,Rat.sub_eq_add_neg]
set_option linter.unusedSimpArgs false
theorem Qac(w:World):w.drew.heap.size=w.heap.size:=rfl
set_option maxRecDepth 100000 in
set_option maxHeartbeats 4000000 in
theorem Qrz(bz bx bv j k:Nat)(p q:Rat)(w:World)(hz:(Thing.room bz).holds w)(hx:RatVal w bx p)(hy:RatVal w bv q)(hp:Fits p j)(hq:Fits q k)(hj:j+k<274877906000):
 Calls Tryz.prog 44 #[.pointer (some ⟨bz,0,none⟩),.pointer (some ⟨bx,0,none⟩),.pointer (some ⟨bv,0,none⟩)] w (RatOk w bz (p*q)):=by
 have hd1:=Qbh p;have hd2:=Qbh q;have HPOS:=Hi (Int.mul_pos hd1 hd2);have HE:=Hi (Qfx p q);have HB:=Hi (Bag.two hx hy hz hp hq);clear hx hy hz hp hq hd1 hd2;go_enter Tryz.func44,Tryz.ntmps44;go_wp2;go_region_held3 (fun _=>True) (trivial) (first
  |
   (go_at_call 39
    apply cM;apply Bag.mul (w0:=w);(focus(repeat(first|exact HB.out|apply Bag.alloc|apply Bag.drew)));(focus(simp only[mem_less,List.mem_cons,List.not_mem_nil,or_false,Qac,World.size_alloc,true_or,or_true,true_and,and_true]<;>omega));(focus(repeat(first|exact List.Mem.head _|apply List.Mem.tail)));(focus(repeat(first|exact List.Mem.head _|apply List.Mem.tail)));omega;rintro e w1 ⟨rfl,hbag,hsz,hlt⟩;clear HB;have HB:=Hi hbag;clear hbag
    (try simp only[Qac,World.size_alloc] at hsz))
  |
   (go_at_call 37
    apply cM;apply Bag.den (w0:=w);(focus(repeat(first|exact HB.out|apply Bag.alloc|apply Bag.drew)));(focus(repeat(first|exact List.Mem.head _|apply List.Mem.tail)));rintro e w1 ⟨b1,o1,rfl,hbag,hsz⟩;clear HB;have HB:=Hi hbag;clear hbag
    (try simp only[Qac,World.size_alloc] at hsz))
  |
   (go_at_call 39
    apply cM;apply Bag.mul (w0:=w);(focus(repeat(first|exact HB.out|apply Bag.alloc|apply Bag.drew)));(focus(simp only[mem_less,List.mem_cons,List.not_mem_nil,or_false,Qac,World.size_alloc,true_or,or_true,true_and,and_true]<;>omega));(focus(repeat(first|exact List.Mem.head _|apply List.Mem.tail)));(focus(repeat(first|exact List.Mem.head _|apply List.Mem.tail)));omega;rintro e w1 ⟨rfl,hbag,hsz,hlt⟩;clear HB;have HB:=Hi hbag;clear hbag
    (try simp only[Qac,World.size_alloc] at hsz))
  |
   (go_at_call 35
    apply cM;apply Bag.setFrac (w0:=w);(focus(repeat(first|exact HB.out|apply Bag.alloc|apply Bag.drew)));(focus(repeat(first|exact List.Mem.head _|apply List.Mem.tail)));(focus(repeat(first|exact List.Mem.head _|apply List.Mem.tail)));(focus(repeat(first|exact List.Mem.head _|apply List.Mem.tail)));exact HPOS.out;omega;omega;rintro e w5 hok;have HF:=Hi hok;obtain⟨rfl,hon,hr⟩:=hok
    clear HB hon hr)
  )
 all_goals
  go_wp2;go_ret;rw[<-HE.out];exact HF.out
set_option maxRecDepth 100000 in
set_option maxHeartbeats 4000000 in
theorem Qjv(bz bx bv j k:Nat)(p q:Rat)(w:World)(hz:(Thing.room bz).holds w)(hx:RatVal w bx p)(hy:RatVal w bv q)(hp:Fits p j)(hq:Fits q k)(hj:j+k<274877906000):
 Calls Tryz.prog 15 #[.pointer (some ⟨bz,0,none⟩),.pointer (some ⟨bx,0,none⟩),.pointer (some ⟨bv,0,none⟩)] w (RatOk w bz (p+q)):=by
 have hd1:=Qbh p;have hd2:=Qbh q;have HPOS:=Hi (Int.mul_pos hd1 hd2);have HE:=Hi (Qd5 p q);have HB:=Hi (Bag.two hx hy hz hp hq);clear hx hy hz hp hq hd1 hd2;go_enter Tryz.func15,Tryz.ntmps15;go_wp2;go_region_held3 (fun _=>True) (trivial) (first
  |
   (go_at_call 39
    apply cM;apply Bag.mul (w0:=w);(focus(repeat(first|exact HB.out|apply Bag.alloc|apply Bag.drew)));(focus(simp only[mem_less,List.mem_cons,List.not_mem_nil,or_false,Qac,World.size_alloc,true_or,or_true,true_and,and_true]<;>omega));(focus(repeat(first|exact List.Mem.head _|apply List.Mem.tail)));(focus(repeat(first|exact List.Mem.head _|apply List.Mem.tail)));omega;rintro e w1 ⟨rfl,hbag,hsz,hlt⟩;clear HB;have HB:=Hi hbag;clear hbag
    (try simp only[Qac,World.size_alloc] at hsz))
  |
   (go_at_call 37
    apply cM;apply Bag.den (w0:=w);(focus(repeat(first|exact HB.out|apply Bag.alloc|apply Bag.drew)));(focus(repeat(first|exact List.Mem.head _|apply List.Mem.tail)));rintro e w1 ⟨b1,o1,rfl,hbag,hsz⟩;clear HB;have HB:=Hi hbag;clear hbag
    (try simp only[Qac,World.size_alloc] at hsz))
  |
   (go_at_call 43
    apply cM;apply Bag.add (w0:=w);(focus(repeat(first|exact HB.out|apply Bag.alloc|apply Bag.drew)));(focus(simp only[mem_less,List.mem_cons,List.not_mem_nil,or_false,Qac,World.size_alloc,true_or,or_true,true_and,and_true]<;>omega));(focus(repeat(first|exact List.Mem.head _|apply List.Mem.tail)));(focus(repeat(first|exact List.Mem.head _|apply List.Mem.tail)));omega;rintro e w1 ⟨rfl,hbag,hsz,hlt⟩;clear HB;have HB:=Hi hbag;clear hbag
    (try simp only[Qac,World.size_alloc] at hsz))
  |
   (go_at_call 35
    apply cM;apply Bag.setFrac (w0:=w);(focus(repeat(first|exact HB.out|apply Bag.alloc|apply Bag.drew)));(focus(repeat(first|exact List.Mem.head _|apply List.Mem.tail)));(focus(repeat(first|exact List.Mem.head _|apply List.Mem.tail)));(focus(repeat(first|exact List.Mem.head _|apply List.Mem.tail)));exact HPOS.out;omega;omega;rintro e w5 hok;have HF:=Hi hok;obtain⟨rfl,hon,hr⟩:=hok
    clear HB hon hr)
  )
 all_goals
  go_wp2_with (first
   |
    (go_at_call 37
     apply cM;apply Bag.den (w0:=w);(focus(repeat(first|exact HB.out|apply Bag.alloc|apply Bag.drew)));(focus(repeat(first|exact List.Mem.head _|apply List.Mem.tail)));rintro e w1 ⟨b1,o1,rfl,hbag,hsz⟩;clear HB;have HB:=Hi hbag;clear hbag
     (try simp only[Qac,World.size_alloc] at hsz))
   |
    (go_at_call 39
     apply cM;apply Bag.mul (w0:=w);(focus(repeat(first|exact HB.out|apply Bag.alloc|apply Bag.drew)));(focus(simp only[mem_less,List.mem_cons,List.not_mem_nil,or_false,Qac,World.size_alloc,true_or,or_true,true_and,and_true]<;>omega));(focus(repeat(first|exact List.Mem.head _|apply List.Mem.tail)));(focus(repeat(first|exact List.Mem.head _|apply List.Mem.tail)));omega;rintro e w1 ⟨rfl,hbag,hsz,hlt⟩;clear HB;have HB:=Hi hbag;clear hbag
     (try simp only[Qac,World.size_alloc] at hsz))
   |
    (go_at_call 35
     apply cM;apply Bag.setFrac (w0:=w);(focus(repeat(first|exact HB.out|apply Bag.alloc|apply Bag.drew)));(focus(repeat(first|exact List.Mem.head _|apply List.Mem.tail)));(focus(repeat(first|exact List.Mem.head _|apply List.Mem.tail)));(focus(repeat(first|exact List.Mem.head _|apply List.Mem.tail)));exact HPOS.out;omega;omega;rintro e w5 hok;have HF:=Hi hok;obtain⟨rfl,hon,hr⟩:=hok
     clear HB hon hr)
   )
  go_ret;rw[<-HE.out];exact HF.out
set_option maxRecDepth 100000 in
set_option maxHeartbeats 4000000 in
theorem Qrr(bz bx bv j k:Nat)(p q:Rat)(w:World)(hz:(Thing.room bz).holds w)(hx:RatVal w bx p)(hy:RatVal w bv q)(hp:Fits p j)(hq:Fits q k)(hj:j+k<274877906000):
 Calls Tryz.prog 42 #[.pointer (some ⟨bz,0,none⟩),.pointer (some ⟨bx,0,none⟩),.pointer (some ⟨bv,0,none⟩)] w (RatOk w bz (p - q)):=by
 have hd1:=Qbh p;have hd2:=Qbh q;have HPOS:=Hi (Int.mul_pos hd1 hd2);have HE:=Hi (Qrs p q);have HB:=Hi (Bag.two hx hy hz hp hq);clear hx hy hz hp hq hd1 hd2;go_enter Tryz.func42,Tryz.ntmps42;go_wp2;go_region_held3 (fun _=>True) (trivial) (first
  |
   (go_at_call 39
    apply cM;apply Bag.mul (w0:=w);(focus(repeat(first|exact HB.out|apply Bag.alloc|apply Bag.drew)));(focus(simp only[mem_less,List.mem_cons,List.not_mem_nil,or_false,Qac,World.size_alloc,true_or,or_true,true_and,and_true]<;>omega));(focus(repeat(first|exact List.Mem.head _|apply List.Mem.tail)));(focus(repeat(first|exact List.Mem.head _|apply List.Mem.tail)));omega;rintro e w1 ⟨rfl,hbag,hsz,hlt⟩;clear HB;have HB:=Hi hbag;clear hbag
    (try simp only[Qac,World.size_alloc] at hsz))
  |
   (go_at_call 37
    apply cM;apply Bag.den (w0:=w);(focus(repeat(first|exact HB.out|apply Bag.alloc|apply Bag.drew)));(focus(repeat(first|exact List.Mem.head _|apply List.Mem.tail)));rintro e w1 ⟨b1,o1,rfl,hbag,hsz⟩;clear HB;have HB:=Hi hbag;clear hbag
    (try simp only[Qac,World.size_alloc] at hsz))
  |
   (go_at_call 80
    apply cM;apply Bag.sub (w0:=w);(focus(repeat(first|exact HB.out|apply Bag.alloc|apply Bag.drew)));(focus(simp only[mem_less,List.mem_cons,List.not_mem_nil,or_false,Qac,World.size_alloc,true_or,or_true,true_and,and_true]<;>omega));(focus(repeat(first|exact List.Mem.head _|apply List.Mem.tail)));(focus(repeat(first|exact List.Mem.head _|apply List.Mem.tail)));omega;rintro e w1 ⟨rfl,hbag,hsz,hlt⟩;clear HB;have HB:=Hi hbag;clear hbag
    (try simp only[Qac,World.size_alloc] at hsz))
  |
   (go_at_call 35
    apply cM;apply Bag.setFrac (w0:=w);(focus(repeat(first|exact HB.out|apply Bag.alloc|apply Bag.drew)));(focus(repeat(first|exact List.Mem.head _|apply List.Mem.tail)));(focus(repeat(first|exact List.Mem.head _|apply List.Mem.tail)));(focus(repeat(first|exact List.Mem.head _|apply List.Mem.tail)));exact HPOS.out;omega;omega;rintro e w5 hok;have HF:=Hi hok;obtain⟨rfl,hon,hr⟩:=hok
    clear HB hon hr)
  )
 all_goals
  go_wp2_with (first
   |
    (go_at_call 37
     apply cM;apply Bag.den (w0:=w);(focus(repeat(first|exact HB.out|apply Bag.alloc|apply Bag.drew)));(focus(repeat(first|exact List.Mem.head _|apply List.Mem.tail)));rintro e w1 ⟨b1,o1,rfl,hbag,hsz⟩;clear HB;have HB:=Hi hbag;clear hbag
     (try simp only[Qac,World.size_alloc] at hsz))
   |
    (go_at_call 39
     apply cM;apply Bag.mul (w0:=w);(focus(repeat(first|exact HB.out|apply Bag.alloc|apply Bag.drew)));(focus(simp only[mem_less,List.mem_cons,List.not_mem_nil,or_false,Qac,World.size_alloc,true_or,or_true,true_and,and_true]<;>omega));(focus(repeat(first|exact List.Mem.head _|apply List.Mem.tail)));(focus(repeat(first|exact List.Mem.head _|apply List.Mem.tail)));omega;rintro e w1 ⟨rfl,hbag,hsz,hlt⟩;clear HB;have HB:=Hi hbag;clear hbag
     (try simp only[Qac,World.size_alloc] at hsz))
   |
    (go_at_call 35
     apply cM;apply Bag.setFrac (w0:=w);(focus(repeat(first|exact HB.out|apply Bag.alloc|apply Bag.drew)));(focus(repeat(first|exact List.Mem.head _|apply List.Mem.tail)));(focus(repeat(first|exact List.Mem.head _|apply List.Mem.tail)));(focus(repeat(first|exact List.Mem.head _|apply List.Mem.tail)));exact HPOS.out;omega;omega;rintro e w5 hok;have HF:=Hi hok;obtain⟨rfl,hon,hr⟩:=hok
     clear HB hon hr)
   )
  go_ret;rw[<-HE.out];exact HF.out
def sgn3(X:Int):Int:=if X<0 then -1 else if X=0 then 0 else 1
def cmpZ(X Y:Int):Int:=if X<Y then -1 else if X=Y then 0 else 1
set_option maxHeartbeats 400000 in
theorem Qr4(b o:Nat)(X:Int)(a:Option Addr)(cap:Nat)(l:List Nat)(w:World)(hx:IntAt w b o X a cap l):
 Calls Tryz.prog 21 #[.pointer (some ⟨b,o,none⟩)] w fun e w'=>e=.returned (.int .i64 (sgn3 X))/\w'=w:=by
 have k0:=hx.neg;have k1:=hx.abs;by_cases h0:X=0
 ·
  have q:((l.length:Int) == 0)=true:=by
   have:=(hx.num.num.len_zero (by decide)).1 (by omega);simp[this]
  have HE:=Hi (show sgn3 X=0 by unfold sgn3;rw[if_neg (by omega),if_pos h0]);clear hx h0;go_enter Tryz.func21,Tryz.ntmps21;go_wp2;go_ret;exact⟨by rw[HE.out];rfl,rfl⟩
 ·
  have q:((l.length:Int) == 0)=false:=by
   rw[beq_eq_false_iff_ne];have:=(hx.num.num.len_zero (by decide)).2;omega
  by_cases hX:X<0
  ·
   have HE:=Hi (show sgn3 X= -1 by unfold sgn3;rw[if_pos hX]);rw[show decide (X<0)=true by simpa using hX] at k0;clear hx h0 hX;go_enter Tryz.func21,Tryz.ntmps21;go_wp2;go_ret;exact⟨by rw[HE.out];rfl,rfl⟩
  ·
   have HE:=Hi (show sgn3 X=1 by unfold sgn3;rw[if_neg hX,if_neg h0]);rw[show decide (X<0)=false by simpa using hX] at k0;clear hx h0 hX;go_enter Tryz.func21,Tryz.ntmps21;go_wp2;go_ret;exact⟨by rw[HE.out];rfl,rfl⟩
set_option maxHeartbeats 400000 in
theorem Qj1(b:Nat)(q:Rat)(w:World)(hx:RatVal w b q):
 Calls Tryz.prog 7 #[.pointer (some ⟨b,0,none⟩)] w fun e w'=>e=.returned (.int .i64 (sgn3 q.num))/\w'=w:=by
 obtain⟨D,a1,c1,l1,a2,c2,l2,h,hd⟩:=hx;have H:=Hi h.upper;clear h hd;go_enter Tryz.func7,Tryz.ntmps7;go_wp2_with fail;refine(Qr4 b 0 q.num a1 c1 l1 _ H.out).mono ?_;rintro e w1 ⟨rfl,rfl⟩;go_wp2;go_ret;exact⟨rfl,rfl⟩
theorem Qr5(X Y:Int)(hX:X<0)(hY:Y<0):cmpZ X Y= -(cmp3 X.natAbs Y.natAbs):=by
 have e1:X.natAbs<Y.natAbs↔Y<X:=by omega
 have e2:X.natAbs=Y.natAbs↔X=Y:=by omega
 unfold cmpZ cmp3;rcases Int.lt_trichotomy X Y with h|h|h
 · rw[if_pos h,if_neg (by omega),if_neg (by omega)]
 · rw[if_neg (by omega),if_pos h,if_neg (by omega),if_pos (by omega)];rfl
 · rw[if_neg (by omega),if_neg (by omega),if_pos (by omega)];rfl
theorem Qr6(X Y:Int)(hX:0<=X)(hY:0<=Y):cmpZ X Y=cmp3 X.natAbs Y.natAbs:=by
 unfold cmpZ cmp3;rcases Int.lt_trichotomy X Y with h|h|h
 · rw[if_pos h,if_pos (by omega)]
 · rw[if_neg (by omega),if_pos h,if_neg (by omega),if_pos (by omega)]
 · rw[if_neg (by omega),if_neg (by omega),if_neg (by omega),if_neg (by omega)]
theorem Qr7(z:Int)(h1: -1<=z)(h2:z<=1):wrap64 z=z:=by unfold wrap64;omega
theorem neg3(x y:Nat):Ending.returned (.int .i64 (wrap64 (-cmp3 x y)))=Ending.returned (.int .i64 (-cmp3 x y)):=by
 have h:=Qn9 x y;rw[Qr7 _ (by omega) (by omega)]
set_option maxHeartbeats 1000000 in
theorem Qr8(bx ox:Nat)(X:Int)(a:Option Addr)(cap:Nat)(l:List Nat)(bv ov:Nat)(Y:Int)(b:Option Addr)(cap':Nat)(m:List Nat)(w:World)(hx:IntAt w bx ox X a cap l)(hy:IntAt w bv ov Y b cap' m):
 Calls Tryz.prog 38 #[.pointer (some ⟨bx,ox,none⟩),.pointer (some ⟨bv,ov,none⟩)] w fun e w'=>e=.returned (.int .i64 (cmpZ X Y))/\Below w.heap.size w w':=by
 have k0:=hx.neg;have k1:=hx.abs;have j0:=hy.neg;have j1:=hy.abs;have hlt:=hx.lt;have hlt':=hy.lt;have HX:=Hi hx.num;have HY:=Hi hy.num;clear hx hy;by_cases hXY:decide (X<0)=decide (Y<0)
 ·
  by_cases hX:X<0
  ·
   rw[show decide (X<0)=true by simpa using hX] at k0;rw[show decide (Y<0)=true by simp at hXY ⊢;omega] at j0;have HE:=Hi (Qr5 X Y (by omega) (by simp at hXY;omega));clear hXY hX;go_enter Tryz.func38,Tryz.ntmps38;go_wp2_with fail;go_region;go_wp2_with fail;go_region_held3 (fun w'=>w'.cell? ⟨bx,ox+1,none⟩=some (.slice a l.length cap)/\w'.cell? ⟨bv,ov+1,none⟩=some (.slice b m.length cap')) ((simp [*])) (first|(go_at_call 75;refine(Qa8 a b cap cap' l m X.natAbs Y.natAbs _ ?_ ?_).mono ?_;exact HX.out.below ((bR.drew).drew);exact HY.out.below ((bR.drew).drew);rintro e w1 ⟨rfl,hb1⟩;have HB:=Hi (((Below.refl w.heap.size w).drew.drew).trans hb1);have d0:=ce hb1 hlt k0;have d1:=ce hb1 hlt k1;have d2:=ce hb1 hlt' j1;clear hb1));go_wp2;go_ret;exact⟨by rw[HE.out];exact neg3 _ _,HB.out⟩
  ·
   rw[show decide (X<0)=false by simpa using hX] at k0;rw[show decide (Y<0)=false by simp at hXY ⊢;omega] at j0;have HE:=Hi (Qr6 X Y (by omega) (by simp at hXY;omega));clear hXY hX;go_enter Tryz.func38,Tryz.ntmps38;go_wp2_with fail;go_region;go_wp2_with fail;go_region_held3 (fun w'=>w'.cell? ⟨bx,ox+1,none⟩=some (.slice a l.length cap)/\w'.cell? ⟨bv,ov+1,none⟩=some (.slice b m.length cap')) ((simp [*])) (first|(go_at_call 75;refine(Qa8 a b cap cap' l m X.natAbs Y.natAbs _ ?_ ?_).mono ?_;exact HX.out.below ((bR.drew).drew);exact HY.out.below ((bR.drew).drew);rintro e w1 ⟨rfl,hb1⟩;have HB:=Hi (((Below.refl w.heap.size w).drew.drew).trans hb1);have d0:=ce hb1 hlt k0;have d1:=ce hb1 hlt k1;have d2:=ce hb1 hlt' j1;clear hb1));go_wp2;go_ret;exact⟨by rw[HE.out];rfl,HB.out⟩
 ·
  by_cases hX:X<0
  ·
   rw[show decide (X<0)=true by simpa using hX] at k0;rw[show decide (Y<0)=false by simp at hXY ⊢;omega] at j0;have HE:=Hi (show cmpZ X Y= -1 by unfold cmpZ;rw[if_pos (by simp at hXY;omega)]);clear hXY hX;go_enter Tryz.func38,Tryz.ntmps38;go_wp2_with fail;go_region;go_wp2;go_ret;exact⟨by rw[HE.out];rfl,bR.drew⟩
  ·
   rw[show decide (X<0)=false by simpa using hX] at k0;rw[show decide (Y<0)=true by simp at hXY ⊢;omega] at j0;have HE:=Hi (show cmpZ X Y=1 by unfold cmpZ;rw[if_neg (by simp at hXY;omega),if_neg (by simp at hXY;omega)]);clear hXY hX;go_enter Tryz.func38,Tryz.ntmps38;go_wp2_with fail;go_region;go_wp2;go_ret;exact⟨by rw[HE.out];rfl,bR.drew⟩
theorem Qr9(X:Int): -X=if (!decide (X<0))=true then -(X.natAbs:Int) else (X.natAbs:Int):=by
 by_cases h:X<0
 · simp[h];omega
 · simp[h];omega
set_option maxHeartbeats 1000000 in
theorem Qsa(bz oz:Nat)(t:TypeId)(C:Array Value)(X:Int)(a:Option Addr)(cap:Nat)(l:List Nat)(w:World)(hs:SB w bz t C)(hn:NoInt C)(ho:oz+1<C.size)(hx:IntAt w bz oz X a cap l):
 Calls Tryz.prog 74 #[.pointer (some ⟨bz,oz,none⟩),.pointer (some ⟨bz,oz,none⟩)] w (LaidOk w bz oz t C (-X)):=by
 have k0:=hx.neg;have k1:=hx.abs;have hlt:=hx.lt;have HS:=Hi hs;have HN:=Hi hn;have HX:=Hi hx.num;clear hs hn hx;go_enter Tryz.func74,Tryz.ntmps74;go_wp2;go_region_with (first
  |(go_at_call 110;refine(Qeo a cap l X.natAbs _ ?_).mono ?_;exact HX.out.drew;rintro e w1 ⟨⟨a1,cap1,rfl,hu1⟩,hb1⟩;have c0:=ce hb1 hlt k0;have c1:=ce hb1 hlt k1;have HU1:=Hi hu1;have HB1:=Hi ((Below.refl w.heap.size w).drew.trans hb1);clear hu1 hb1)
  |(go_at_call 69;refine(Qbo bz oz t C _ a1 cap1 l X.natAbs (-X) _ ?_ HN.out ho HU1.out ?_).mono ?_;exact HS.out.below HB1.out HS.out.lt;exact Qr9 X;rintro e w2 ⟨rfl,hl⟩;have HL:=Hi hl;clear hl))
 all_goals
  go_wp2;go_ret;exact LaidOk.of (Only.of_below HB1.out) ⟨rfl,_,_,_,HL.out⟩
set_option maxHeartbeats 1000000 in
theorem Qsb(bz bx j:Nat)(p:Rat)(w:World)(hz:(Thing.room bz).holds w)(hx:RatVal w bx p)(hp:Fits p j)(hj:j<549755813000):
 Calls Tryz.prog 73 #[.pointer (some ⟨bz,0,none⟩),.pointer (some ⟨bx,0,none⟩)] w (RatOk w bz p):=by
 have HPOS:=Hi (Qbh p);have HE:=Hi (show mkRat p.num (p.den:Int).natAbs=p by rw[Int.natAbs_natCast,Rat.mkRat_self]);have HB:=Hi (Bag.one hx hz hp);clear hx hz hp;go_enter Tryz.func73,Tryz.ntmps73;go_wp2;go_region_held3 (fun _=>True) (trivial) (first
  |(
   go_at_call 37;apply cM;apply Bag.den (w0:=w);(focus(repeat(first|exact HB.out|apply Bag.alloc|apply Bag.drew)));(focus(repeat(first|exact List.Mem.head _|apply List.Mem.tail)));rintro e w1 ⟨b1,o1,rfl,hbag,hsz⟩;clear HB;have HB:=Hi hbag
   clear hbag)
  |(
   go_at_call 35;apply cM;apply Bag.setFrac (w0:=w);(focus(repeat(first|exact HB.out|apply Bag.alloc|apply Bag.drew)));(focus(repeat(first|exact List.Mem.head _|apply List.Mem.tail)));(focus(repeat(first|exact List.Mem.head _|apply List.Mem.tail)));(focus(repeat(first|exact List.Mem.head _|apply List.Mem.tail)));exact HPOS.out;omega;omega;rintro e w5 hok;have HF:=Hi hok;obtain⟨rfl,hon,hr⟩:=hok
   clear HB hon hr))
 go_wp2;go_ret;rw[<-HE.out];exact HF.out
set_option maxHeartbeats 1000000 in
theorem Qj2(bz bx j:Nat)(p:Rat)(w:World)(hz:(Thing.room bz).holds w)(hx:RatVal w bx p)(hp:Fits p j)(hj:j<549755813000):
 Calls Tryz.prog 36 #[.pointer (some ⟨bz,0,none⟩),.pointer (some ⟨bx,0,none⟩)] w (RatOk w bz (-p)):=by
 have HC:=Hi (Qsb bz bx j p w hz hx hp hj);clear hx hz hp hj;go_enter Tryz.func36,Tryz.ntmps36;go_wp2_with fail;refine HC.out.mono ?_;rintro e w1 ⟨rfl,hon,a1,c1,l1,a2,c2,l2,hr⟩;have HR:=Hi hr;have HON:=Hi hon;clear hr hon HC;go_wp2_with fail;have HC:=Hi (Qsa bz 0 55 _ p.num a1 c1 l1 _ HR.out.sb.drew (Qan _ _ _ _ _ _ _ _) (by simp) HR.out.drew.upper);go_region_held3 (fun _=>True) (trivial) (first
  |(
   go_at_call 74;refine HC.out.mono ?_;rintro e w2 ⟨rfl,a,cap,l,hl⟩;have HL:=Hi hl
   clear hl))
 go_wp2;go_ret;refine⟨rfl,HON.out.drew.trans HL.out.only,a,cap,l,a2,c2,l2,?_,?_,?_⟩
 ·
  have:=HL.out.sb;rw[Rat.neg_num,Rat.neg_den]
  simpa [putInt] using this
 · rw[Rat.neg_num];exact HL.out.num
 · rw[Rat.neg_den];exact HR.out.den.drew.only HL.out.only HR.out.sb.drew (Qan _ _ _ _ _ _ _ _)
end Go.Proofs.YtfpcipgoedifaaaGreatDoor
