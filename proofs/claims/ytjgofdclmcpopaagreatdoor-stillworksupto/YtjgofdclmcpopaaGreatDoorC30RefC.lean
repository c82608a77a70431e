import Derived.Test.YtjgofdclmcpopaaGreatDoorC29RigC
namespace Go.Proofs.YtjgofdclmcpopaaGreatDoor
open Go.RowKit
open Go.Proofs.Tryz
set_option linter.unusedSimpArgs false
set_option linter.unusedVariables false
set_option maxHeartbeats 8000000
set_option maxRecDepth 1000000
theorem Qsm(a:Option Addr)(cap:Nat)(js:List S2)(b:B6)(w:World)(hg:Glob w)(hj:ARow S2.cells w a cap js)(zj:∀p,p∈ js->p.x.size<=1048576/\p.y.size<=1048576)(zb:b.c.size<=1048576/\b.e.size<=1048576/\b.l.size<=1048576/\b.m.size<=1048576):
 Calls prog 95 #[.slice a js.length cap,.agg #[.int .i64 b.a,.int .i64 b.b,.string b.c,.string b.e,.string b.l,.string b.m]] w fun e w'=>∃c,e=.returned (.int .i64 c)/\BarCode js b c/\Below w.heap.size w w':=by
 by_cases h:IsJ js.length b.a/\IsJ js.length b.b
 .
  obtain⟨ka,hka⟩:=Int.eq_ofNat_of_zero_le h.1.1;obtain⟨kb,hkb⟩:=Int.eq_ofNat_of_zero_le h.2.1;have la:ka<js.length:=by have:=h.1.2;omega
  have lb:kb<js.length:=by have:=h.2.2;omega
  obtain⟨p,hp⟩:∃p,js[ka]?=some p:=⟨_,gE la⟩;obtain⟨q,hq⟩:∃q,js[kb]?=some q:=⟨_,gE lb⟩;obtain⟨px,hpx⟩:=QOf.ex p.x.data.toList;obtain⟨py,hpy⟩:=QOf.ex p.y.data.toList;obtain⟨qx,hqx⟩:=QOf.ex q.x.data.toList;obtain⟨qy,hqy⟩:=QOf.ex q.y.data.toList;obtain⟨vc,hvc⟩:=QOf.ex b.c.data.toList;obtain⟨vl,hvl⟩:=QOf.ex b.l.data.toList;obtain⟨vm,hvm⟩:=QOf.ex b.m.data.toList;rw[hka,hkb];refine(Qsg a cap ka kb js p q b.c b.e b.l b.m px py qx qy vc vl vm w hg hj hp hq (zj p (mO hp)) (zj q (mO hq)) ⟨zb.1,zb.2.2.1,zb.2.2.2⟩ hpx hpy hqx hqy hvc hvl hvm).mono ?_;rintro e w' ⟨rfl,hb⟩;exact⟨_,rfl,.inr ⟨h.1,h.2,p,q,by rw[hka];exact hp,by rw[hkb];exact hq,px,py,qx,qy,vc,vl,vm,hpx,hpy,hqx,hqy,hvc,hvl,hvm,rfl⟩,hb⟩
 .
  refine(Qsf a js.length cap b.a b.b b.c b.e b.l b.m w h).mono ?_;rintro e w' ⟨rfl,hb⟩;exact⟨_,rfl,.inl ⟨h,rfl⟩,hb⟩
def Many(j b h:Nat):Prop:=j<1∨10<j∨24<b∨20<h
def FrameFault(js:List S2)(bs:List B6)(hs:List H3)(c at_:Int):Prop:=
 (Many js.length bs.length hs.length/\c=2/\at_=0)∨
 (¬Many js.length bs.length hs.length/\∃(k:Nat) (b:B6),bs[k]?=some b/\(∀(i:Nat) (x:B6),i<k->bs[i]?=some x->BarCode js x 0)/\BarCode js b c/\c≠0/\at_=(k:Int))∨
 (¬Many js.length bs.length hs.length/\(∀(i:Nat) (x:B6),bs[i]?=some x->BarCode js x 0)/\HoldsFault js.length bs.length hs c at_)
theorem HoldsFault.inj{n m:Nat}{hs:List H3}{c d x y:Int}(h:HoldsFault n m hs c x)(k:HoldsFault n m hs d y):c=d/\x=y:=by
 rcases h with ⟨i,f,hf,hall,rfl,hc,rfl⟩|⟨hall,rfl,rfl⟩
 .
  rcases k with ⟨j,g,hg,kall,rfl,kc,rfl⟩|⟨kall,_,_⟩
  .
   rcases Nat.lt_trichotomy i j with h|rfl|h
   . exact absurd (kall i f h hf) hc
   .
    rw[hf] at hg;cases hg;exact⟨rfl,rfl⟩
   . exact absurd (hall j g h hg) kc
  . exact absurd (kall i f hf) hc
 .
  rcases k with ⟨j,g,hg,kall,rfl,kc,rfl⟩|⟨kall,rfl,rfl⟩
  . exact absurd (hall j g hg) kc
  . exact⟨rfl,rfl⟩
theorem FrameFault.inj{js:List S2}{bs:List B6}{hs:List H3}{c d x y:Int}(h:FrameFault js bs hs c x)(k:FrameFault js bs hs d y):c=d/\x=y:=by
 rcases h with ⟨hm,rfl,rfl⟩|⟨hm,i,f,hf,hall,hb,hc,rfl⟩|⟨hm,hall,hh⟩
 .
  rcases k with ⟨_,rfl,rfl⟩|⟨km,_⟩|⟨km,_⟩
  . exact⟨rfl,rfl⟩
  . exact absurd hm km
  . exact absurd hm km
 .
  rcases k with ⟨km,_⟩|⟨_,j,g,hg,kall,kb,kc,rfl⟩|⟨_,kall,_⟩
  . exact absurd km hm
  .
   rcases Nat.lt_trichotomy i j with h|rfl|h
   . exact absurd (hb.inj (kall i f h hf)) hc
   .
    rw[hf] at hg;cases hg;exact⟨hb.inj kb,rfl⟩
   . exact absurd (kb.inj (hall j g h hg)) kc
  . exact absurd (hb.inj (kall i f hf)) hc
 .
  rcases k with ⟨km,_⟩|⟨_,j,g,hg,kall,kb,kc,rfl⟩|⟨_,kall,kh⟩
  . exact absurd km hm
  . exact absurd (kb.inj (hall j g hg)) kc
  . exact hh.inj kh
theorem Qkb(a1 a2 a3:Option Addr)(c1 c2 c3:Nat)(js:List S2)(bs:List B6)(hs:List H3)(w:World)(hg:Glob w)(hf:FrRow w a1 a2 a3 c1 c2 c3 js bs hs)(hz:FrSized js bs hs):
 Calls prog 30 #[.agg #[.slice a1 js.length c1,.slice a2 bs.length c2,.slice a3 hs.length c3]] w fun e w'=>∃c at_,e=.returned (.agg #[.int .i64 c,.int .i64 at_])/\FrameFault js bs hs c at_/\Below w.heap.size w w':=by
 by_cases h1:js.length<1
 .
  have HMY:O (Many js.length bs.length hs.length):=Hi (.inl h1);have q1:((js.length:Int)<1):=by omega
  obtain⟨HG,HF,HZ⟩:=Ib hg hf hz;clear hg hf hz;go_enter func30,ntmps30;obtain⟨W,hW⟩:=nm ((w.alloc (.cells #[.slice a1 js.length c1,.slice a2 bs.length c2,.slice a3 hs.length c3] 54)).alloc (.cells #[.int .i64 0,.int .i64 0] 57));have HB0:=Ub hW;have HS0:=Ud hW;have HS1:=Ue hW;have HR0:O (Below W.heap.size W W):=Hi bR;have hx:=HS0.o.below HR0.o HS0.o.lt;have hy:=HS1.o.below HR0.o HS1.o.lt;obtain⟨x0,x1,-⟩:=zc hx
  obtain⟨-,-,x2,-⟩:=zc hx;obtain⟨z0,z1,-⟩:=zc hy;have f0:=hy.free 0;have f1:=hy.free 1;clear hx hy;rw[<-hW] at x0 x1 x2 z0 z1 f0 f1;have HW:=Hi hW;clear hW;go_wp2;refine bodyPost_ret (v:=.agg #[.int .i64 2,.int .i64 0]) (results_cell_row rfl _ _ (w.heap.size+1) 57 #[.int .i64 2,.int .i64 0] (0,0) _ rfl (SB.new2 w _ _ _ _) underlying57 rfl Tryz.faultInfo) rfl ?_;exact⟨2,0,rfl,Or.inl ⟨HMY.o,rfl,rfl⟩,Below.new2 w _ _⟩
 by_cases h2:10<js.length
 .
  have HMY:O (Many js.length bs.length hs.length):=Hi (.inr (.inl h2));have q1:¬((js.length:Int)<1):=by omega
  have q2:((10:Int)<(js.length:Int)):=by omega
  obtain⟨HG,HF,HZ⟩:=Ib hg hf hz;clear hg hf hz;go_enter func30,ntmps30;obtain⟨W,hW⟩:=nm ((w.alloc (.cells #[.slice a1 js.length c1,.slice a2 bs.length c2,.slice a3 hs.length c3] 54)).alloc (.cells #[.int .i64 0,.int .i64 0] 57));have HB0:=Ub hW;have HS0:=Ud hW;have HS1:=Ue hW;have HR0:O (Below W.heap.size W W):=Hi bR;have hx:=HS0.o.below HR0.o HS0.o.lt;have hy:=HS1.o.below HR0.o HS1.o.lt;obtain⟨x0,x1,-⟩:=zc hx
  obtain⟨-,-,x2,-⟩:=zc hx;obtain⟨z0,z1,-⟩:=zc hy;have f0:=hy.free 0;have f1:=hy.free 1;clear hx hy;rw[<-hW] at x0 x1 x2 z0 z1 f0 f1;have HW:=Hi hW;clear hW;go_wp2;refine bodyPost_ret (v:=.agg #[.int .i64 2,.int .i64 0]) (results_cell_row rfl _ _ (w.heap.size+1) 57 #[.int .i64 2,.int .i64 0] (0,0) _ rfl (SB.new2 w _ _ _ _) underlying57 rfl Tryz.faultInfo) rfl ?_;exact⟨2,0,rfl,Or.inl ⟨HMY.o,rfl,rfl⟩,Below.new2 w _ _⟩
 by_cases h3:24<bs.length
 .
  have HMY:O (Many js.length bs.length hs.length):=Hi (.inr (.inr (.inl h3)));have q1:¬((js.length:Int)<1):=by omega
  have q2:¬((10:Int)<(js.length:Int)):=by omega
  have q3:((24:Int)<(bs.length:Int)):=by omega
  obtain⟨HG,HF,HZ⟩:=Ib hg hf hz;clear hg hf hz;go_enter func30,ntmps30;obtain⟨W,hW⟩:=nm ((w.alloc (.cells #[.slice a1 js.length c1,.slice a2 bs.length c2,.slice a3 hs.length c3] 54)).alloc (.cells #[.int .i64 0,.int .i64 0] 57));have HB0:=Ub hW;have HS0:=Ud hW;have HS1:=Ue hW;have HR0:O (Below W.heap.size W W):=Hi bR;have hx:=HS0.o.below HR0.o HS0.o.lt;have hy:=HS1.o.below HR0.o HS1.o.lt;obtain⟨x0,x1,-⟩:=zc hx
  obtain⟨-,-,x2,-⟩:=zc hx;obtain⟨z0,z1,-⟩:=zc hy;have f0:=hy.free 0;have f1:=hy.free 1;clear hx hy;rw[<-hW] at x0 x1 x2 z0 z1 f0 f1;have HW:=Hi hW;clear hW;go_wp2;refine bodyPost_ret (v:=.agg #[.int .i64 2,.int .i64 0]) (results_cell_row rfl _ _ (w.heap.size+1) 57 #[.int .i64 2,.int .i64 0] (0,0) _ rfl (SB.new2 w _ _ _ _) underlying57 rfl Tryz.faultInfo) rfl ?_;exact⟨2,0,rfl,Or.inl ⟨HMY.o,rfl,rfl⟩,Below.new2 w _ _⟩
 by_cases h4:20<hs.length
 .
  have HMY:O (Many js.length bs.length hs.length):=Hi (.inr (.inr (.inr h4)));have q1:¬((js.length:Int)<1):=by omega
  have q2:¬((10:Int)<(js.length:Int)):=by omega
  have q3:¬((24:Int)<(bs.length:Int)):=by omega
  have q4:((20:Int)<(hs.length:Int)):=by omega
  obtain⟨HG,HF,HZ⟩:=Ib hg hf hz;clear hg hf hz;go_enter func30,ntmps30;obtain⟨W,hW⟩:=nm ((w.alloc (.cells #[.slice a1 js.length c1,.slice a2 bs.length c2,.slice a3 hs.length c3] 54)).alloc (.cells #[.int .i64 0,.int .i64 0] 57));have HB0:=Ub hW;have HS0:=Ud hW;have HS1:=Ue hW;have HR0:O (Below W.heap.size W W):=Hi bR;have hx:=HS0.o.below HR0.o HS0.o.lt;have hy:=HS1.o.below HR0.o HS1.o.lt;obtain⟨x0,x1,-⟩:=zc hx
  obtain⟨-,-,x2,-⟩:=zc hx;obtain⟨z0,z1,-⟩:=zc hy;have f0:=hy.free 0;have f1:=hy.free 1;clear hx hy;rw[<-hW] at x0 x1 x2 z0 z1 f0 f1;have HW:=Hi hW;clear hW;go_wp2;refine bodyPost_ret (v:=.agg #[.int .i64 2,.int .i64 0]) (results_cell_row rfl _ _ (w.heap.size+1) 57 #[.int .i64 2,.int .i64 0] (0,0) _ rfl (SB.new2 w _ _ _ _) underlying57 rfl Tryz.faultInfo) rfl ?_;exact⟨2,0,rfl,Or.inl ⟨HMY.o,rfl,rfl⟩,Below.new2 w _ _⟩
 have HNM:O (¬Many js.length bs.length hs.length):=Hi (by rintro(h|h|h|h)<;>omega);have q1:¬((js.length:Int)<1):=by omega
 have q2:¬((10:Int)<(js.length:Int)):=by omega
 have q3:¬((24:Int)<(bs.length:Int)):=by omega
 have q4:¬((20:Int)<(hs.length:Int)):=by omega
 obtain⟨HG,HF,HZ⟩:=Ib hg hf hz;clear hg hf hz;go_enter func30,ntmps30;obtain⟨W,hW⟩:=nm ((w.alloc (.cells #[.slice a1 js.length c1,.slice a2 bs.length c2,.slice a3 hs.length c3] 54)).alloc (.cells #[.int .i64 0,.int .i64 0] 57));have HB0:=Ub hW;have HS0:=Ud hW;have HS1:=Ue hW;have HR0:O (Below W.heap.size W W):=Hi bR;have hx:=HS0.o.below HR0.o HS0.o.lt;have hy:=HS1.o.below HR0.o HS1.o.lt;obtain⟨x0,x1,-⟩:=zc hx
 obtain⟨-,-,x2,-⟩:=zc hx;obtain⟨z0,z1,-⟩:=zc hy;have f0:=hy.free 0;have f1:=hy.free 1;clear hx hy;rw[<-hW] at x0 x1 x2 z0 z1 f0 f1;have HW:=Hi hW;clear hW;go_wp2_with fail;rw[HW.o];clear x0 x1 x2 z0 z1 f0 f1;go_loopw [32] (fun iv wr=>∃k:Nat,k<=bs.length/\iv=.int .i64 k/\(∀(i:Nat) (x:B6),i<k->bs[i]?=some x->BarCode js x 0)/\Below W.heap.size W wr) (fun iv _=>bs.length - (intOf iv).toNat)
 case atStart=>exact⟨0,by omega,rfl,fun i x hi=>by omega,Below.refl _ _⟩
 case round=>
  obtain⟨k,hk,rfl,hall,hb⟩:=hrel;obtain⟨HALL,HB,HBW⟩:=Ib hall hb (HB0.o.trans (hb.mono HB0.o.size));clear hall hb;by_cases hlt:k<bs.length
  .
   obtain⟨f,hfk⟩:∃f,bs[k]?=some f:=⟨bs[k],gE hlt⟩;obtain⟨fb,off,rfl,hfb,d0,d1,d2,d3,d4,d5⟩:=(HF.o.b.below HBW.o).bar hfk;have HFK:=Hi hfk;have q5:((k:Int)<(bs.length:Int)):=by omega
   obtain⟨V,hV⟩:=nm (wr.alloc (.cells #[.int .i64 f.a,.int .i64 f.b,.string f.c,.string f.e,.string f.l,.string f.m] 69));have HBV:O (Below W.heap.size W V):=Hi (by rw[<-hV];exact HB.o.alloc HB.o.size _);have hx:=HS0.o.below HBV.o HS0.o.lt;obtain⟨x0,-⟩:=zc hx;rw[<-hV] at x0;have HV:=Hi hV;clear hfk hV hx;go_wp2_with fail;rw[HV.o];clear x0 d0 d1 d2 d3 d4 d5;go_fit (Qsm a1 c1 js f V ((HG.o.below HB0.o).below HBV.o) ((HF.o.j.below HB0.o).below HBV.o) HZ.o.j (HZ.o.b f (mO HFK.o)));rintro e w1 ⟨cd,rfl,hcd,hb1⟩;obtain⟨HCD,HB1⟩:=Ia hcd (HBV.o.trans (hb1.mono HBV.o.size));clear hcd hb1;by_cases hc:cd=0
   .
    subst hc;go_wp2;go_roundw
    case rel=>
     refine⟨k+1,by omega,by go_num,?_,HB1.o⟩;intro i x hi hx;rcases Nat.lt_or_ge i k with h|h
     . exact HALL.o i x h hx
     .
      obtain rfl:i=k:=by omega
      obtain rfl:=Option.some.inj (HFK.o.symm.trans hx);exact HCD.o
    case measure=>simp[intOf];omega
   .
    have e0:(cd != 0)=true:=by simpa using hc
    have HS4:=Hi (HS1.o.below HB1.o HS1.o.lt);obtain⟨z0,z1,-⟩:=zc HS4.o;have f0:=HS4.o.free 0;have f1:=HS4.o.free 1;go_wp2;refine bodyPost_ret (v:=.agg #[.int .i64 cd,.int .i64 (k:Int)]) (results_cell_row rfl _ _ (w.heap.size+1) 57 #[.int .i64 cd,.int .i64 (k:Int)] (0,0) _ rfl ((HS4.o.set 0 _).set 1 _) underlying57 rfl Tryz.faultInfo) rfl ?_;exact⟨cd,_,rfl,Or.inr (Or.inl ⟨HNM.o,k,f,HFK.o,HALL.o,HCD.o,hc,rfl⟩),((HB0.o.trans (HB1.o.mono HB0.o.size)).setCell (Nat.le_succ _) _).setCell (Nat.le_succ _) _⟩
  .
   have hk':k=bs.length:=by omega
   subst hk';have hx:=HS0.o.below HB.o HS0.o.lt;have hy:=HS1.o.below HB.o HS1.o.lt;obtain⟨x0,x1,x2,-⟩:=zc hx;obtain⟨z0,z1,-⟩:=zc hy;have f0:=hy.free 0;have f1:=hy.free 1;clear hx hy;go_wp2_with fail;clear x0 x1 x2 z0 z1 f0 f1;go_fit (Qsl a1 a2 a3 js.length c1 bs.length c2 c3 hs wr (HF.o.h.below HBW.o) (by omega) (by omega));rintro e w1 ⟨cd,at_,rfl,hcd,hb1⟩;obtain⟨HCD,HB1⟩:=Ia hcd (HB.o.trans (hb1.mono HB.o.size));clear hcd hb1;have hx:=HS0.o.below HB1.o HS0.o.lt;have hy:=HS1.o.below HB1.o HS1.o.lt
   obtain⟨x0,x1,x2,-⟩:=zc hx;obtain⟨z0,z1,-⟩:=zc hy;have f0:=hy.free 0;have f1:=hy.free 1;clear hx hy;have HS4:=Hi (HS1.o.below HB1.o HS1.o.lt);go_wp2;refine bodyPost_ret (v:=.agg #[.int .i64 cd,.int .i64 at_]) (results_cell_row rfl _ _ (w.heap.size+1) 57 #[.int .i64 cd,.int .i64 at_] (0,0) _ rfl ((HS4.o.set 0 _).set 1 _) underlying57 rfl Tryz.faultInfo) rfl ?_
   exact⟨cd,at_,rfl,Or.inr (Or.inr ⟨HNM.o,fun i x hx=>HALL.o i x (gZ hx).1 hx,HCD.o⟩),((HB0.o.trans (HB1.o.mono HB0.o.size)).setCell (Nat.le_succ _) _).setCell (Nat.le_succ _) _⟩
theorem Qa3{P:Program}{fn:Func}{p u:Tmp}{ty:TypeId}(h:fn.results=#[.tmp u,.cell p ty])(tmps:Array Value)(w:World)(g:Nat)(t:TypeId)(cs:Array Value)(fr:Nat × Nat)(d:TypeDesc)
 (hp:tmps.getD p undef=.pointer (some ⟨g,0,none⟩)) (hg:w.heap[g]?=some (.cells cs t fr))
 (hu:P.underlying ty=some d) (hd:(match d with| .struct _| .array _ _=>true|_=>false)=true) (hi:(P.info? ty).map (·.size)=some cs.size):
 (results fn tmps).run P w=.ok (.tuple #[tmps.getD u undef,.agg cs]) w:=by
 have hp':tmps[p]?.getD undef=.pointer (some ⟨g,0,none⟩):=by simpa using hp
 simp[results,h,hp',asAddr,run_loadVar_row w g t ty cs fr d hg hu hd hi]
theorem ref_F(c at_:Int)(w:World):Calls prog 52 #[.int .i64 c,.int .i64 at_] w fun e w'=>e=.returned (.agg #[.int .i64 c,.int .i64 at_])/\Below w.heap.size w w':=by
 go_enter func52,ntmps52;go_wp2;refine bodyPost_ret (results_cell_row rfl _ _ w.heap.size 57 #[.int .i64 c,.int .i64 at_] (0,0) _ rfl (SB.new w _ _) underlying57 rfl Tryz.faultInfo) rfl ?_;exact⟨rfl,bR.alloc lZ _⟩
theorem Qkc(a1 a2 a3:Option Addr)(c1 c2 c3 n m k:Nat)(w:World)(hm:m<=24)(hk:k<=20):
 Calls prog 29 #[.agg #[.slice a1 n c1,.slice a2 m c2,.slice a3 k c3]] w fun e w'=>e=.returned (.int .i64 ((m:Int)+(k:Int)))/\Below w.heap.size w w':=by
 go_enter func29,ntmps29;go_wp2;go_ret;exact⟨rfl,bR.alloc lZ _⟩
theorem Qkd(a1 a2 a3:Option Addr)(c1 c2 c3:Nat)(js:List S2)(bs:List B6)(hs:List H3)(w:World)(hg:Glob w)(hf:FrRow w a1 a2 a3 c1 c2 c3 js bs hs)(hz:FrSized js bs hs):
 Calls prog 28 #[.agg #[.slice a1 js.length c1,.slice a2 bs.length c2,.slice a3 hs.length c3]] w fun e w'=>∃c at_ k,e=.returned (.tuple #[.int .i64 k,.agg #[.int .i64 c,.int .i64 at_]])/\FrameFault js bs hs c at_/\(c≠0->k=0)/\(c=0->k=(bs.length:Int)+(hs.length:Int) - 2*(js.length:Int))/\Below w.heap.size w w':=by
 obtain⟨HG,HF,HZ⟩:=Ib hg hf hz;clear hg hf hz;go_enter func28,ntmps28;obtain⟨W,hW⟩:=nm ((w.alloc (.cells #[.slice a1 js.length c1,.slice a2 bs.length c2,.slice a3 hs.length c3] 54)).alloc (.cells #[.int .i64 0,.int .i64 0] 57));have HB0:=Ub hW;have HS0:=Ud hW;have HS1:=Ue hW;have HW:=Hi hW;clear hW;go_wp2_with fail;rw[HW.o];go_fit (Qkb a1 a2 a3 c1 c2 c3 js bs hs W (HG.o.below HB0.o) (HF.o.below HB0.o) HZ.o);rintro e w1 ⟨c,at_,rfl,hff,hb1⟩;have HFF:=Hi hff;obtain⟨V,hV⟩:=nm (w1.alloc (.cells #[.int .i64 c,.int .i64 at_] 57))
 have HBV:O (Below W.heap.size W V):=Hi (by rw[<-hV];exact hb1.alloc hb1.size _);have hsv:SB V w1.heap.size 57 #[.int .i64 c,.int .i64 at_]:=by rw[<-hV];exact SB.new w1 _ _
 have hs1:=HS1.o.below HBV.o HS1.o.lt;obtain⟨k0,k1,-⟩:=zc hsv;obtain⟨x0,x1,x2,-⟩:=zc (HS0.o.below HBV.o HS0.o.lt);obtain⟨z0,z1,-⟩:=zc hs1;have f0:=hs1.free 0;have f1:=hs1.free 1;rw[<-hV] at k0 k1 x0 x1 x2 z0 z1 f0 f1;obtain⟨HS4,HV⟩:=Ia hs1 hV;have hne:w.heap.size+1≠w1.heap.size:=by have:=HS1.o.lt;have:=hb1.size;omega
 clear hff hV hsv hs1 hb1;by_cases hc:c=0
 .
  subst hc;have hnm:¬Many js.length bs.length hs.length:=by
   rcases HFF.o with ⟨_,h,_⟩|⟨h,_⟩|⟨h,_⟩
   . exact absurd h (by decide)
   . exact h
   . exact h
  have n1:js.length<=10:=Nat.le_of_not_lt fun h=>hnm (.inr (.inl h))
  have n2:bs.length<=24:=Nat.le_of_not_lt fun h=>hnm (.inr (.inr (.inl h)))
  have n3:hs.length<=20:=Nat.le_of_not_lt fun h=>hnm (.inr (.inr (.inr h)))
  clear hnm;go_wp2;rw[HV.o];have HA:O (at_=0):=Hi (by
   rcases HFF.o with ⟨_,h,_⟩|⟨_,k,b,_,_,_,h,_⟩|⟨_,_,h⟩
   . exact absurd h (by decide)
   . exact absurd rfl h
   .
    rcases h with ⟨_,_,_,_,_,h,_⟩|⟨_,_,h⟩
    . exact absurd rfl h
    . exact h)
  refine bodyPost_ret (Qa3 rfl _ _ (w.heap.size+1) 57 #[.int .i64 0,.int .i64 0] (0,0) _ rfl ((HS4.o.set 0 _).set 1 _) underlying57 rfl Tryz.faultInfo) rfl ?_;exact⟨0,0,_,rfl,HA.o ▸ HFF.o,fun h=>absurd rfl h,fun _=>rfl,((HB0.o.trans (HBV.o.mono HB0.o.size)).setCell (Nat.le_succ _) _).setCell (Nat.le_succ _) _⟩
 .
  have e0:(c != 0)=true:=by simpa using hc
  go_wp2;go_region
  all_goals
   go_wp2;rw[HV.o];refine bodyPost_ret (Qa3 rfl _ _ (w.heap.size+1) 57 #[.int .i64 c,.int .i64 at_] (0,0) _ rfl ((HS4.o.set 0 _).set 1 _) underlying57 rfl Tryz.faultInfo) rfl ?_;exact⟨c,at_,0,rfl,HFF.o,fun _=>rfl,fun h=>absurd h hc,(((HB0.o.trans (HBV.o.mono HB0.o.size)).setCell (p:=⟨w.heap.size+1,0,none⟩) (Nat.le_succ _) _).setCell (p:=⟨w.heap.size+1,1,none⟩) (Nat.le_succ _) _).drew⟩
theorem Bag.pair{w:World}{bx bv j k:Nat}{p q:Rat}(hx:RatVal w bx p)(hy:RatVal w bv q)(hp:Fits p j)(hq:Fits q k):
 Bag w w [] [.int bx 0 p.num j,.rat bx p.den j,.int bv 0 q.num k,.rat bv q.den k]:=by
 refine⟨Below.refl _ _,fun n hn=>(by cases hn),fun t ht=>⟨?_,List.not_mem_nil⟩⟩;simp only[List.mem_cons,List.not_mem_nil,or_false] at ht;rcases ht with rfl|rfl|rfl|rfl
 . exact hx.int hp
 . exact hx.rat hp
 . exact hy.int hq
 . exact hy.rat hq
theorem Bag.cmp{w0 w:World}{Z:List Nat}{L:List Thing}{bx ox bv ov K1 K2:Nat}{X Y:Int}(h:Bag w0 w Z L)(hx:.int bx ox X K1∈ L)(hy:.int bv ov Y K2∈ L):
 Calls prog 139 #[.pointer (some ⟨bx,ox,none⟩),.pointer (some ⟨bv,ov,none⟩)] w fun e w'=>e=.returned (.int .i64 (cmpZ X Y))/\Bag w0 w' Z L/\w.heap.size<=w'.heap.size:=by
 obtain⟨⟨a,cap,l,ha,h1⟩,hna⟩:=h.ts _ hx;obtain⟨⟨b,cap',m,hb,h2⟩,hnb⟩:=h.ts _ hy;refine(Qrs bx ox X a cap l bv ov Y b cap' m w ha hb).mono ?_;rintro e w' ⟨rfl,hbl⟩;exact⟨rfl,h.below hbl,hbl.size⟩
theorem Qd4(X Y:Int):cmpZ X Y=0↔X=Y:=by
 unfold cmpZ;by_cases h1:X<Y
 .
  rw[if_pos h1];constructor
  . intro h;omega
  . intro h;omega
 .
  rw[if_neg h1];by_cases h2:X=Y
  . rw[if_pos h2];simp[h2]
  . rw[if_neg h2];simp[h2]
theorem Qre(p q:Rat):p.num*(q.den:Int)=q.num*(p.den:Int)↔p=q:=by
 constructor
 .
  intro h;rw[<-Rat.mkRat_self p,<-Rat.mkRat_self q];exact(Rat.mkRat_eq_iff p.den_nz q.den_nz).2 h
 . rintro rfl
   rfl
theorem Qgc(bx bv j k:Nat)(p q:Rat)(w:World)(hx:RatVal w bx p)(hy:RatVal w bv q)(hp:Fits p j)(hq:Fits q k)(hj:j+k<274877906000):
 Calls prog 61 #[.pointer (some ⟨bx,0,none⟩),.pointer (some ⟨bv,0,none⟩)] w fun e w'=>(∃c,e=.returned (.int .i64 c)/\(c=0↔p=q))/\Below w.heap.size w w':=by
 obtain⟨HB,HQ⟩:=Ia (Bag.pair hx hy hp hq) (Qre p q);clear hx hy hp hq;by_cases hd:(p.den:Int)=(q.den:Int)
 .
  have HCZ:O (cmpZ (p.den:Int) (q.den:Int)=0):=Hi ((Qd4 _ _).2 hd);have HD:=Hi hd;clear hd;go_enter func61,ntmps61;go_wp2_with (first
   |
    (go_at_call 137
     apply cM;apply Bag.den (w0:=w);(focus(repeat(first|exact HB.o|apply Bag.alloc|apply Bag.drew)));(focus(repeat(first|exact mH|apply mT)));rintro e w1 ⟨b1,o1,rfl,hbag,hsz⟩;clear HB;have HB:=Hi hbag;clear hbag
     (try simp only[Qab,World.size_alloc] at hsz))
   |
    (go_at_call 139
     apply cM;apply Bag.cmp (w0:=w);(focus(repeat(first|exact HB.o|apply Bag.alloc|apply Bag.drew)));(focus(repeat(first|exact mH|apply mT)));(focus(repeat(first|exact mH|apply mT)));rintro e w1 ⟨rfl,hbag,hsz⟩;rw[HCZ.o];clear HB;have HB:=Hi hbag
     clear hbag)
   |fail)
  go_region_held3 (fun _=>True) (trivial) (first
   |
    (go_at_call 139
     apply cM;apply Bag.cmp (w0:=w);(focus(repeat(first|exact HB.o|apply Bag.alloc|apply Bag.drew)));(focus(repeat(first|exact mH|apply mT)));(focus(repeat(first|exact mH|apply mT)));rintro e w1 ⟨rfl,hbag,hsz⟩;clear HB;have HB:=Hi hbag;clear hbag
     (try simp only[Qab,World.size_alloc] at hsz))
   )
  go_wp2;go_ret;refine⟨⟨_,rfl,?_⟩,HB.o.base⟩;have hd:=HD.o;have h0:(q.den:Int)≠0:=by have:=q.den_nz;omega
  rw[Qd4,<-HQ.o,hd];exact⟨fun h=>by rw[h],fun h=>Int.eq_of_mul_eq_mul_right h0 h⟩
 .
  obtain⟨cz,hcz⟩:=nm (cmpZ (p.den:Int) (q.den:Int));have hne:(cz == 0)=false:=by
   rw[beq_eq_false_iff_ne];intro h;exact hd ((Qd4 _ _).1 (hcz.trans h))
  have HCZ:=Hi hcz;clear hd hcz;go_enter func61,ntmps61;go_wp2_with (first
   |
    (go_at_call 137
     apply cM;apply Bag.den (w0:=w);(focus(repeat(first|exact HB.o|apply Bag.alloc|apply Bag.drew)));(focus(repeat(first|exact mH|apply mT)));rintro e w1 ⟨b1,o1,rfl,hbag,hsz⟩;clear HB;have HB:=Hi hbag;clear hbag
     (try simp only[Qab,World.size_alloc] at hsz))
   |
    (go_at_call 139
     apply cM;apply Bag.cmp (w0:=w);(focus(repeat(first|exact HB.o|apply Bag.alloc|apply Bag.drew)));(focus(repeat(first|exact mH|apply mT)));(focus(repeat(first|exact mH|apply mT)));rintro e w1 ⟨rfl,hbag,hsz⟩;rw[HCZ.o];clear HB;have HB:=Hi hbag
     clear hbag)
   |fail)
  go_region_held3 (fun _=>True) (trivial) (first
   |
    (go_at_call 136
     apply cM;apply Bag.mul (w0:=w);(focus(repeat(first|exact HB.o|apply Bag.alloc|apply Bag.drew)));(focus(simp only[mem_less,List.mem_cons,List.not_mem_nil,or_false,Qab,World.size_alloc,true_or,or_true,true_and,and_true]<;>omega));(focus(repeat(first|exact mH|apply mT)));(focus(repeat(first|exact mH|apply mT)));omega;rintro e w1 ⟨rfl,hbag,hsz,hlt⟩;clear HB;have HB:=Hi hbag;clear hbag
     (try simp only[Qab,World.size_alloc] at hsz))
   |
    (go_at_call 137
     apply cM;apply Bag.den (w0:=w);(focus(repeat(first|exact HB.o|apply Bag.alloc|apply Bag.drew)));(focus(repeat(first|exact mH|apply mT)));rintro e w1 ⟨b1,o1,rfl,hbag,hsz⟩;clear HB;have HB:=Hi hbag;clear hbag
     (try simp only[Qab,World.size_alloc] at hsz))
   |
    (go_at_call 139
     apply cM;apply Bag.cmp (w0:=w);(focus(repeat(first|exact HB.o|apply Bag.alloc|apply Bag.drew)));(focus(repeat(first|exact mH|apply mT)));(focus(repeat(first|exact mH|apply mT)));rintro e w1 ⟨rfl,hbag,hsz⟩;clear HB;have HB:=Hi hbag;clear hbag
     (try simp only[Qab,World.size_alloc] at hsz))
   )
  all_goals
   go_wp2;go_ret;exact⟨⟨_,rfl,(Qd4 _ _).trans HQ.o⟩,HB.o.base⟩
theorem RBag.cmpT{w0 w:World}{L:List (Nat × Rat × Nat)}{bx bv j k:Nat}{p q:Rat}(h:RBag w0 w L)(hx:(bx,p,j)∈ L)(hy:(bv,q,k)∈ L)(hj:j+k<274877906000)(he:p=q):
 Calls prog 61 #[.pointer (some ⟨bx,0,none⟩),.pointer (some ⟨bv,0,none⟩)] w fun e w'=>e=.returned (.int .i64 0)/\RBag w0 w' L:=by
 have a:=h.ts _ hx;have b:=h.ts _ hy;refine(Qgc bx bv j k p q w a.1 b.1 a.2.1 b.2.1 hj).mono ?_;rintro e w' ⟨⟨c,rfl,hc⟩,hb⟩;exact⟨by rw[hc.2 he],h.below hb⟩
theorem RBag.cmpF{w0 w:World}{L:List (Nat × Rat × Nat)}{bx bv j k:Nat}{p q:Rat}(h:RBag w0 w L)(hx:(bx,p,j)∈ L)(hy:(bv,q,k)∈ L)(hj:j+k<274877906000)(he:¬p=q):
 Calls prog 61 #[.pointer (some ⟨bx,0,none⟩),.pointer (some ⟨bv,0,none⟩)] w fun e w'=>(∃c,e=.returned (.int .i64 c)/\(c == 0)=false)/\RBag w0 w' L:=by
 have a:=h.ts _ hx;have b:=h.ts _ hy;refine(Qgc bx bv j k p q w a.1 b.1 a.2.1 b.2.1 hj).mono ?_;rintro e w' ⟨⟨c,rfl,hc⟩,hb⟩;exact⟨⟨c,rfl,by rw[beq_eq_false_iff_ne];exact fun h=>he (hc.1 h)⟩,h.below hb⟩
theorem Qr1(a1 a2 a3:Option Addr)(c1 c2 c3:Nat)(js:List S2)(bs:List B6)(hs:List H3)(w:World)(hg:Glob w)(hf:FrRow w a1 a2 a3 c1 c2 c3 js bs hs)(hz:FrSized js bs hs)(hm:Many js.length bs.length hs.length):
 Calls prog 27 #[.agg #[.slice a1 js.length c1,.slice a2 bs.length c2,.slice a3 hs.length c3]] w fun e w'=>∃c at_,e=.returned (.agg #[.int .i64 c,.int .i64 at_])/\FrameFault js bs hs c at_/\Below w.heap.size w w':=by
 have HMY:=Hi hm;by_cases h1:js.length<1
 .
  have q1:((js.length:Int) == 0)=true:=by rw[beq_iff_eq];omega
  clear hm;obtain⟨HG,HF,HZ⟩:=Ib hg hf hz;clear hg hf hz;go_enter func27,ntmps27;obtain⟨W,hW⟩:=nm ((w.alloc (.cells #[.slice a1 js.length c1,.slice a2 bs.length c2,.slice a3 hs.length c3] 54)).alloc (.cells #[.int .i64 0,.int .i64 0] 57));have HB0:=Ub hW;have HS0:=Ud hW;have HS1:=Ue hW;have HR0:O (Below W.heap.size W W):=Hi bR;have hx:=HS0.o.below HR0.o HS0.o.lt;have hy:=HS1.o.below HR0.o HS1.o.lt;obtain⟨x0,-⟩:=zc hx
  obtain⟨-,x1,x2,-⟩:=zc hx;obtain⟨z0,z1,-⟩:=zc hy;have f0:=hy.free 0;have f1:=hy.free 1;clear hx hy;rw[<-hW] at x0 x1 x2 z0 z1 f0 f1;have HW:=Hi hW;clear hW;go_wp2_with fail;rw[HW.o];clear x0 x1 x2 z0 z1 f0 f1;go_fit (ref_F 2 0 W);rintro e w9 ⟨rfl,hb9⟩;have HB9:=Hi (HR0.o.trans (hb9.mono HR0.o.size));have HS9:=Hi (HS1.o.below HB9.o HS1.o.lt);obtain⟨z0,z1,-⟩:=zc HS9.o;have f0:=HS9.o.free 0;have f1:=HS9.o.free 1;clear hb9;go_wp2
  refine bodyPost_ret (v:=.agg #[.int .i64 2,.int .i64 0]) (results_cell_row rfl _ _ (w.heap.size+1) 57 #[.int .i64 2,.int .i64 0] (0,0) _ rfl ((HS9.o.set 0 _).set 1 _) underlying57 rfl Tryz.faultInfo) rfl ?_;exact⟨_,_,rfl,Or.inl ⟨HMY.o,rfl,rfl⟩,((HB0.o.trans (HB9.o.mono HB0.o.size)).setCell (Nat.le_succ _) _).setCell (Nat.le_succ _) _⟩
 have q1:((js.length:Int) == 0)=false:=by rw[beq_eq_false_iff_ne];omega
 by_cases h2:10<js.length
 .
  have q2:((10:Int)<(js.length:Int)):=by omega
  clear hm;obtain⟨HG,HF,HZ⟩:=Ib hg hf hz;clear hg hf hz;go_enter func27,ntmps27;obtain⟨W,hW⟩:=nm ((w.alloc (.cells #[.slice a1 js.length c1,.slice a2 bs.length c2,.slice a3 hs.length c3] 54)).alloc (.cells #[.int .i64 0,.int .i64 0] 57));have HB0:=Ub hW;have HS0:=Ud hW;have HS1:=Ue hW;have HR0:O (Below W.heap.size W W):=Hi bR;have hx:=HS0.o.below HR0.o HS0.o.lt;have hy:=HS1.o.below HR0.o HS1.o.lt;obtain⟨x0,-⟩:=zc hx
  obtain⟨-,x1,x2,-⟩:=zc hx;obtain⟨z0,z1,-⟩:=zc hy;have f0:=hy.free 0;have f1:=hy.free 1;clear hx hy;rw[<-hW] at x0 x1 x2 z0 z1 f0 f1;have HW:=Hi hW;clear hW;go_wp2_with fail;rw[HW.o];clear x0 x1 x2 z0 z1 f0 f1;go_fit (ref_F 2 0 W);rintro e w9 ⟨rfl,hb9⟩;have HB9:=Hi (HR0.o.trans (hb9.mono HR0.o.size));have HS9:=Hi (HS1.o.below HB9.o HS1.o.lt);obtain⟨z0,z1,-⟩:=zc HS9.o;have f0:=HS9.o.free 0;have f1:=HS9.o.free 1;clear hb9;go_wp2
  refine bodyPost_ret (v:=.agg #[.int .i64 2,.int .i64 0]) (results_cell_row rfl _ _ (w.heap.size+1) 57 #[.int .i64 2,.int .i64 0] (0,0) _ rfl ((HS9.o.set 0 _).set 1 _) underlying57 rfl Tryz.faultInfo) rfl ?_;exact⟨_,_,rfl,Or.inl ⟨HMY.o,rfl,rfl⟩,((HB0.o.trans (HB9.o.mono HB0.o.size)).setCell (Nat.le_succ _) _).setCell (Nat.le_succ _) _⟩
 have q2:¬((10:Int)<(js.length:Int)):=by omega
 by_cases h3:24<bs.length
 .
  have q3:((24:Int)<(bs.length:Int)):=by omega
  clear hm;obtain⟨HG,HF,HZ⟩:=Ib hg hf hz;clear hg hf hz;go_enter func27,ntmps27;obtain⟨W,hW⟩:=nm ((w.alloc (.cells #[.slice a1 js.length c1,.slice a2 bs.length c2,.slice a3 hs.length c3] 54)).alloc (.cells #[.int .i64 0,.int .i64 0] 57));have HB0:=Ub hW;have HS0:=Ud hW;have HS1:=Ue hW;have HR0:O (Below W.heap.size W W):=Hi bR;have hx:=HS0.o.below HR0.o HS0.o.lt;have hy:=HS1.o.below HR0.o HS1.o.lt;obtain⟨x0,-⟩:=zc hx
  obtain⟨-,x1,x2,-⟩:=zc hx;obtain⟨z0,z1,-⟩:=zc hy;have f0:=hy.free 0;have f1:=hy.free 1;clear hx hy;rw[<-hW] at x0 x1 x2 z0 z1 f0 f1;have HW:=Hi hW;clear hW;go_wp2_with fail;rw[HW.o];clear x0 x1 x2 z0 z1 f0 f1;go_fit (ref_F 2 0 W);rintro e w9 ⟨rfl,hb9⟩;have HB9:=Hi (HR0.o.trans (hb9.mono HR0.o.size));have HS9:=Hi (HS1.o.below HB9.o HS1.o.lt);obtain⟨z0,z1,-⟩:=zc HS9.o;have f0:=HS9.o.free 0;have f1:=HS9.o.free 1;clear hb9;go_wp2
  refine bodyPost_ret (v:=.agg #[.int .i64 2,.int .i64 0]) (results_cell_row rfl _ _ (w.heap.size+1) 57 #[.int .i64 2,.int .i64 0] (0,0) _ rfl ((HS9.o.set 0 _).set 1 _) underlying57 rfl Tryz.faultInfo) rfl ?_;exact⟨_,_,rfl,Or.inl ⟨HMY.o,rfl,rfl⟩,((HB0.o.trans (HB9.o.mono HB0.o.size)).setCell (Nat.le_succ _) _).setCell (Nat.le_succ _) _⟩
 have q3:¬((24:Int)<(bs.length:Int)):=by omega
 have q4:((20:Int)<(hs.length:Int)):=by rcases hm with h|h|h|h<;>omega
 clear hm;obtain⟨HG,HF,HZ⟩:=Ib hg hf hz;clear hg hf hz;go_enter func27,ntmps27;obtain⟨W,hW⟩:=nm ((w.alloc (.cells #[.slice a1 js.length c1,.slice a2 bs.length c2,.slice a3 hs.length c3] 54)).alloc (.cells #[.int .i64 0,.int .i64 0] 57));have HB0:=Ub hW;have HS0:=Ud hW;have HS1:=Ue hW;have HR0:O (Below W.heap.size W W):=Hi bR;have hx:=HS0.o.below HR0.o HS0.o.lt;have hy:=HS1.o.below HR0.o HS1.o.lt;obtain⟨x0,-⟩:=zc hx
 obtain⟨-,x1,x2,-⟩:=zc hx;obtain⟨z0,z1,-⟩:=zc hy;have f0:=hy.free 0;have f1:=hy.free 1;clear hx hy;rw[<-hW] at x0 x1 x2 z0 z1 f0 f1;have HW:=Hi hW;clear hW;go_wp2_with fail;rw[HW.o];clear x0 x1 x2 z0 z1 f0 f1;go_fit (ref_F 2 0 W);rintro e w9 ⟨rfl,hb9⟩;have HB9:=Hi (HR0.o.trans (hb9.mono HR0.o.size));have HS9:=Hi (HS1.o.below HB9.o HS1.o.lt);obtain⟨z0,z1,-⟩:=zc HS9.o;have f0:=HS9.o.free 0;have f1:=HS9.o.free 1;clear hb9;go_wp2
 refine bodyPost_ret (v:=.agg #[.int .i64 2,.int .i64 0]) (results_cell_row rfl _ _ (w.heap.size+1) 57 #[.int .i64 2,.int .i64 0] (0,0) _ rfl ((HS9.o.set 0 _).set 1 _) underlying57 rfl Tryz.faultInfo) rfl ?_;exact⟨_,_,rfl,Or.inl ⟨HMY.o,rfl,rfl⟩,((HB0.o.trans (HB9.o.mono HB0.o.size)).setCell (Nat.le_succ _) _).setCell (Nat.le_succ _) _⟩
end Go.Proofs.YtjgofdclmcpopaaGreatDoor
