/- package rig: Check. -/
import Derived.Test.YtfpcipgoedifaaaGreatDoorK25MapPair
namespace Go.Proofs.YtfpcipgoedifaaaGreatDoor
open Go.RowKit
set_option linter.unusedVariables false
set_option linter.unusedSimpArgs false
def holdC(n:Nat)(j wy:Int)(tw:Bool):Int:=if 0<=j/\j<n then (if wy≠1/\wy≠2 then 3 else if tw=true then 7 else 0) else 4
set_option maxRecDepth 100000 in
set_option maxHeartbeats 2000000 in
theorem Qs2(a:Option Addr)(n cap:Nat)(j wy:Int)(q:ByteArray)(tw:Bool)(w:World):
 Calls Tryz.prog 118 #[.slice a n cap,.agg #[.int .i64 j,.int .i64 wy,.string q],.bool tw] w fun e w'=>e=.returned (.int .i64 (holdC n j wy tw))/\Below w.heap.size w w':=by
 unfold holdC;by_cases h1:IsJ n j
 ·
  rw[if_pos (show 0<=j/\j<(n:Int) from h1)];have H1:=Hi h1;clear h1;by_cases h2:wy=1
  ·
   subst h2;rw[if_neg (by simp)];cases tw with
   |true=>
    rw[if_pos rfl];go_enter Tryz.func118,Tryz.ntmps118;obtain⟨W,hW⟩:=nm (w.alloc (.cells #[.int .i64 j,.int .i64 1,.string q] 45));have HB0:Hid (Below w.heap.size w W):=Hi (by rw[<-hW];exact(Below.refl _ _).alloc lZ _);have hs0:SB W w.heap.size 45 #[.int .i64 j,.int .i64 1,.string q]:=by rw[<-hW];exact SB.new w _ _
    obtain⟨k0,k1,k2,-⟩:=zc hs0;rw[<-hW] at k0 k1 k2;have HW:=Hi hW;clear hW hs0;go_wp2_with fail;go_fit (Qa5 a n cap j _ H1.out);rintro e w1 ⟨rfl,rfl⟩;go_wp2;go_ret;exact⟨rfl,by rw[HW.out];exact HB0.out⟩
   |false=>
    rw[if_neg (by simp)];go_enter Tryz.func118,Tryz.ntmps118;obtain⟨W,hW⟩:=nm (w.alloc (.cells #[.int .i64 j,.int .i64 1,.string q] 45));have HB0:Hid (Below w.heap.size w W):=Hi (by rw[<-hW];exact(Below.refl _ _).alloc lZ _);have hs0:SB W w.heap.size 45 #[.int .i64 j,.int .i64 1,.string q]:=by rw[<-hW];exact SB.new w _ _
    obtain⟨k0,k1,k2,-⟩:=zc hs0;rw[<-hW] at k0 k1 k2;have HW:=Hi hW;clear hW hs0;go_wp2_with fail;go_fit (Qa5 a n cap j _ H1.out);rintro e w1 ⟨rfl,rfl⟩;go_wp2;go_ret;exact⟨rfl,by rw[HW.out];exact HB0.out⟩
  ·
   by_cases h3:wy=2
   ·
    subst h3;rw[if_neg (by simp)];cases tw with
    |true=>
     rw[if_pos rfl];go_enter Tryz.func118,Tryz.ntmps118;obtain⟨W,hW⟩:=nm (w.alloc (.cells #[.int .i64 j,.int .i64 2,.string q] 45));have HB0:Hid (Below w.heap.size w W):=Hi (by rw[<-hW];exact(Below.refl _ _).alloc lZ _);have hs0:SB W w.heap.size 45 #[.int .i64 j,.int .i64 2,.string q]:=by rw[<-hW];exact SB.new w _ _
     obtain⟨k0,k1,k2,-⟩:=zc hs0;rw[<-hW] at k0 k1 k2;have HW:=Hi hW;clear hW hs0;go_wp2_with fail;go_fit (Qa5 a n cap j _ H1.out);rintro e w1 ⟨rfl,rfl⟩;go_wp2;go_ret;exact⟨rfl,by rw[HW.out];exact HB0.out⟩
    |false=>
     rw[if_neg (by simp)];go_enter Tryz.func118,Tryz.ntmps118;obtain⟨W,hW⟩:=nm (w.alloc (.cells #[.int .i64 j,.int .i64 2,.string q] 45));have HB0:Hid (Below w.heap.size w W):=Hi (by rw[<-hW];exact(Below.refl _ _).alloc lZ _);have hs0:SB W w.heap.size 45 #[.int .i64 j,.int .i64 2,.string q]:=by rw[<-hW];exact SB.new w _ _
     obtain⟨k0,k1,k2,-⟩:=zc hs0;rw[<-hW] at k0 k1 k2;have HW:=Hi hW;clear hW hs0;go_wp2_with fail;go_fit (Qa5 a n cap j _ H1.out);rintro e w1 ⟨rfl,rfl⟩;go_wp2;go_ret;exact⟨rfl,by rw[HW.out];exact HB0.out⟩
   ·
    rw[if_pos ⟨h2,h3⟩];have e2:(wy != 1)=true:=by simpa using h2
    have e3:(wy != 2)=true:=by simpa using h3
    clear h2 h3;go_enter Tryz.func118,Tryz.ntmps118;obtain⟨W,hW⟩:=nm (w.alloc (.cells #[.int .i64 j,.int .i64 wy,.string q] 45));have HB0:Hid (Below w.heap.size w W):=Hi (by rw[<-hW];exact(Below.refl _ _).alloc lZ _);have hs0:SB W w.heap.size 45 #[.int .i64 j,.int .i64 wy,.string q]:=by rw[<-hW];exact SB.new w _ _
    obtain⟨k0,k1,k2,-⟩:=zc hs0;rw[<-hW] at k0 k1 k2;have HW:=Hi hW;clear hW hs0;go_wp2_with fail;go_fit (Qa5 a n cap j _ H1.out);rintro e w1 ⟨rfl,rfl⟩;go_wp2;go_ret;exact⟨rfl,by rw[HW.out];exact HB0.out⟩
 ·
  rw[if_neg (show ¬(0<=j/\j<(n:Int)) from h1)];have H1:=Hi h1;clear h1;go_enter Tryz.func118,Tryz.ntmps118;obtain⟨W,hW⟩:=nm (w.alloc (.cells #[.int .i64 j,.int .i64 wy,.string q] 45));have HB0:Hid (Below w.heap.size w W):=Hi (by rw[<-hW];exact(Below.refl _ _).alloc lZ _);have hs0:SB W w.heap.size 45 #[.int .i64 j,.int .i64 wy,.string q]:=by rw[<-hW];exact SB.new w _ _
  obtain⟨k0,k1,k2,-⟩:=zc hs0;rw[<-hW] at k0 k1 k2;have HW:=Hi hW;clear hW hs0;go_wp2_with fail;go_fit (Qed a n cap j _ H1.out);rintro e w1 ⟨rfl,rfl⟩;go_wp2;go_ret;exact⟨rfl,by rw[HW.out];exact HB0.out⟩
def places(hs:List H3):List (Int × Int):=hs.map fun h=>(h.j,h.w)
def holdAt(n:Nat)(hs:List H3)(k:Nat)(h:H3):Int:=holdC n h.j h.w (decide ((h.j,h.w)∈ places (hs.take k)))
def HoldsFault(n m:Nat)(hs:List H3)(c at_:Int):Prop:=
 (∃k h,hs[k]?=some h/\(∀i x,i<k->hs[i]?=some x->holdAt n hs i x=0)/\holdAt n hs k h=c/\c≠0/\at_=m+k)∨
 ((∀i x,hs[i]?=some x->holdAt n hs i x=0)/\c=0/\at_=0)
theorem PairSet.push{es:Array MapEntry}{ps:List (Int × Int)}{p:Int × Int}{b:Nat}(h:PairSet es ps):PairSet (es.push { key:=pairV p,val:=.agg #[],born:=b }) (ps++ [p]):=by
 unfold PairSet at*;rw[Array.toList_push,List.map_append,h,List.map_append];rfl
theorem Qs3{hs:List H3}{k:Nat}{h:H3}(hk:hs[k]?=some h):places (hs.take (k+1))=places (hs.take k)++ [(h.j,h.w)]:=by
 unfold places;rw[List.take_add_one,hk];simp
theorem Tryz.faultInfo:(Tryz.prog.info? 31).map (·.size)=some 2:=by kernel_rfl
theorem Qs4{w:World}{r b:Nat}{o:Obj}(h:b≠r):({ w with heap:=w.heap.setIfInBounds r o }:World).heap[b]?=w.heap[b]?:=by
 simp[Array.getElem?_setIfInBounds,h.symm]
theorem Only.map{w:World}{r:Nat}(o:Obj):Only r w { w with heap:=w.heap.setIfInBounds r o }:=⟨rfl,rfl,rfl,by simp,fun k hk hne=>Qs4 hne⟩
theorem Qs5{w:World}{r:Nat}{o:Obj}(h:r<w.heap.size):({ w with heap:=w.heap.setIfInBounds r o }:World).heap[r]?=some o:=by
 simp[Array.getElem?_setIfInBounds,h]
set_option maxRecDepth 100000 in
set_option maxHeartbeats 4000000 in
theorem Qs6(a1 a2 a3:Option Addr)(n c1 m c2 c3:Nat)(hs:List H3)(w:World)(hh:ARow H3.cells w a3 c3 hs)(hl:hs.length<=20)(hm:m<=24):
 Calls Tryz.prog 83 #[.agg #[.slice a1 n c1,.slice a2 m c2,.slice a3 hs.length c3]] w fun e w'=>∃c at_,e=.returned (.agg #[.int .i64 c,.int .i64 at_])/\HoldsFault n m hs c at_/\Below w.heap.size w w':=by
 have HH:=Hi hh;clear hh;go_enter Tryz.func83,Tryz.ntmps83;obtain⟨W,hW⟩:=nm (((w.alloc (.cells #[.slice a1 n c1,.slice a2 m c2,.slice a3 hs.length c3] 26)).alloc (.cells #[.int .i64 0,.int .i64 0] 31)).alloc (.map #[] 0));have HB0:Hid (Below w.heap.size w W):=Hi (by rw[<-hW];exact(Below.new2 w _ _).alloc (by simp<;>omega) _);have HS0:Hid (SB W w.heap.size 26 #[.slice a1 n c1,.slice a2 m c2,.slice a3 hs.length c3]):=Hi (by rw[<-hW];exact((SB.new w _ _).alloc _).alloc _);have HS1:Hid (SB W (w.heap.size+1) 31 #[.int .i64 0,.int .i64 0]):=Hi (by rw[<-hW];exact(SB.new2 w _ _ _ _).alloc _);have HM0:Hid (W.heap[w.heap.size+2]?=some (.map #[] 0)):=Hi (by
  rw[<-hW];have:=(Go.MapKept.heap_alloc ((w.alloc (.cells #[.slice a1 n c1,.slice a2 m c2,.slice a3 hs.length c3] 26)).alloc (.cells #[.int .i64 0,.int .i64 0] 31)) (.map #[] 0)).1
  simpa using this)
 obtain⟨-,-,k2,-⟩:=zc HS0.out;rw[<-hW] at k2;have HW:=Hi hW;have hmake:∀v:World,(Instr.makeMap 162 none).run Tryz.prog v=.ok (.map (some v.heap.size)) (v.alloc (.map #[] 0)):=fun v=>rfl
 clear hW;go_wp2_with fail;rw[HW.out];clear k2 hmake;obtain⟨r,hr⟩:=nm (w.heap.size+1+1);have hr0:w.heap.size+1<r:=by omega
 have HM1:Hid (W.heap[r]?=some (.map #[] 0)):=Hi (by rw[<-hr];exact HM0.out);rw[hr];clear hr HM0;go_loopw [14] (fun iv wr=>∃(k:Nat) (es:Array MapEntry) (clock:Nat),k<=hs.length/\iv=.int .i64 k/\(∀i x,i<k->hs[i]?=some x->holdAt n hs i x=0)/\PairSet es (places (hs.take k))/\wr.heap[r]?=some (.map es clock)/\Only r W wr) (fun iv _=>hs.length - (intOf iv).toNat)
 case atStart=>exact⟨0,#[],0,by omega,rfl,fun i x hi=>by omega,rfl,HM1.out,Only.refl _ _⟩
 case round=>
  obtain⟨k,es,clock,hk,rfl,hall,hps,hmap,ho⟩:=hrel;have HALL:=Hi hall;have HPS:=Hi hps;have HMAP:=Hi hmap;have HO:=Hi ho;have HBW:Hid (Below w.heap.size w wr):=Hi (HB0.out.trans (ho.below (by omega) HB0.out.size));have hrl:r<wr.heap.size:=by
   rcases Nat.lt_or_ge r wr.heap.size with h|h
   · exact h
   · rw[Array.getElem?_eq_none h] at hmap
     cases hmap
  clear hall hps hmap ho;by_cases hlt:k<hs.length
  ·
   obtain⟨f,hf⟩:∃f,hs[k]?=some f:=⟨hs[k],gE hlt⟩;obtain⟨fb,off,rfl,hfb,d0,d1,d2⟩:=(HH.out.below HBW.out).hold hf;have HFK:=Hi hf;obtain⟨V,hV⟩:=nm ((wr.alloc (.cells #[.int .i64 f.j,.int .i64 f.w,.string f.q] 45)).alloc (.cells #[.int .i64 f.j,.int .i64 f.w] 163));have hbV:Below wr.heap.size wr V:=by rw[<-hV];exact Below.new2 wr _ _
   have hVm:V.heap[r]?=some (.map es clock):=(hbV.block r hrl).trans HMAP.out;have hlook:(Instr.lookup 162 (.map (some r)) (.agg #[.int .i64 f.j,.int .i64 f.w]) true).run Tryz.prog V=.ok (.tuple #[.agg #[],.bool (decide ((f.j,f.w)∈ places (hs.take k)))]) V:=Qpv r clock es _ (f.j,f.w) V hVm HPS.out;obtain⟨tw,htw⟩:=nm (decide ((f.j,f.w)∈ places (hs.take k)));rw[htw,<-hV] at hlook;have HTW:=Hi htw;have HV:=Hi hV;have HBV:=Hi hbV;have q1:((k:Int)<(hs.length:Int)):=by omega
   obtain⟨V3,hV3⟩:=nm (V.alloc (.cells #[] 164));have hb3:Below wr.heap.size wr V3:=by rw[<-hV3];exact hbV.alloc hbV.size _
   have HB3:=Hi hb3;have hs0:=(HS0.out.only HO.out (by omega)).below hb3 (HS0.out.only HO.out (by omega)).lt;obtain⟨k0,k1,-⟩:=zc hs0;rw[<-hV3,<-hV] at k0 k1;have HV3:=Hi hV3;clear hf htw hV hbV hVm hV3 hb3 hs0;go_wp2_with fail;rw[HV.out,HV3.out];clear k0 k1 hlook d0 d1 d2;obtain⟨cd,hcd⟩:=nm (holdC n f.j f.w tw);have HCH:=Hi (Qs2 a1 n c1 f.j f.w f.q tw V3);rw[hcd] at HCH;have HCD:Hid (holdAt n hs k f=cd):=Hi (by unfold holdAt;rw[HTW.out];exact hcd);clear hcd;go_fit HCH.out;rintro e w4 ⟨rfl,hb4⟩;have HB4:=Hi (HB3.out.trans (hb4.mono HB3.out.size));have HB43:=Hi hb4;have HO4:Hid (Only r W w4):=Hi (HO.out.trans (Only.of_below HB4.out));have HM4:Hid (w4.heap[r]?=some (.map es clock)):=Hi ((HB4.out.block r hrl).trans HMAP.out);have hs0:=HS0.out.only HO4.out (by omega)
   have hs1:=HS1.out.only HO4.out (by omega);obtain⟨-,k1,-⟩:=zc hs0;obtain⟨z0,z1,-⟩:=zc hs1;have f0:=hs1.free 0;have f1:=hs1.free 1;have HS4:=Hi hs1;clear hs0 hs1 hb4;by_cases hcd:cd=0
   ·
    subst hcd;have htf:tw=false:=by
     cases tw with
     |false=>rfl
     |true=>
      exfalso
      have h:=HCD.out;unfold holdAt holdC at h;rw[HTW.out] at h
      split at h
      ·
       split at h
       · simp at h
       · simp at h
      · simp at h
    have hnot:(f.j,f.w) ∉ places (hs.take k):=of_decide_eq_false (HTW.out.trans htf);have hupd:(Instr.mapUpdate 162 (.map (some r)) (.agg #[.int .i64 f.j,.int .i64 f.w]) (.agg #[])).run Tryz.prog w4=.ok () { w4 with heap:=w4.heap.setIfInBounds r (.map (es.push { key:=.agg #[.int .i64 f.j,.int .i64 f.w],val:=.agg #[],born:=clock }) (clock+1)) }:=Qpw r clock es _ (f.j,f.w) w4 HM4.out HPS.out hnot;obtain⟨w5,hw5⟩:∃w5,({ w4 with heap:=w4.heap.setIfInBounds r (.map (es.push { key:=.agg #[.int .i64 f.j,.int .i64 f.w],val:=.agg #[],born:=clock }) (clock+1)) }:World)=w5:=⟨_,rfl⟩;have HO5:Hid (Only r W w5):=Hi (by rw[<-hw5];exact HO4.out.trans (Only.map _));have HM5:Hid (w5.heap[r]?=some (.map (es.push { key:=.agg #[.int .i64 f.j,.int .i64 f.w],val:=.agg #[],born:=clock }) (clock+1))):=Hi (by rw[<-hw5];exact Qs5 (by have:=HB4.out.size;omega));rw[hw5] at hupd
    have hv:=(HV.out ▸ SB.new2 wr 45 163 #[.int .i64 f.j,.int .i64 f.w,.string f.q] #[.int .i64 f.j,.int .i64 f.w]:SB V (wr.heap.size+1) 163 #[.int .i64 f.j,.int .i64 f.w]);have hb34:Below V.heap.size V w4:=by
     have h1:Below V.heap.size V V3:=by rw[<-HV3.out];exact(Below.refl _ _).alloc lZ _
     exact h1.trans (HB43.out.mono h1.size)
    have hv4:=hv.below hb34 hv.lt;obtain⟨p0,p1,-⟩:=zc hv4;clear htf hw5 hnot hv hv4 hb34;go_wp2;go_roundw
    case rel=>
     refine⟨k+1,_,_,by omega,by go_num,?_,?_,HM5.out,HO5.out⟩
     ·
      intro i x hi hx;rcases Nat.lt_or_ge i k with h|h
      · exact HALL.out i x h hx
      ·
       obtain rfl:i=k:=by omega
       obtain rfl:=Option.some.inj (HFK.out.symm.trans hx);exact HCD.out
     · rw[Qs3 HFK.out]
       exact HPS.out.push (p:=(f.j,f.w)) (b:=clock)
    case measure=>simp[intOf];omega
   ·
    have e0:(cd != 0)=true:=by simpa using hcd
    go_wp2;have HBF:=Hi (HB0.out.trans (HO4.out.below (by omega) HB0.out.size));refine bodyPost_ret (v:=.agg #[.int .i64 cd,.int .i64 ((m:Int)+(k:Int))]) (results_cell_row rfl _ _ (w.heap.size+1) 31 #[.int .i64 cd,.int .i64 ((m:Int)+(k:Int))] (0,0) _ rfl ((HS4.out.set 0 _).set 1 _) Tryz.underlying31 rfl Tryz.faultInfo) rfl ?_;exact⟨cd,_,rfl,.inl ⟨k,f,HFK.out,HALL.out,HCD.out,hcd,rfl⟩,(HBF.out.setCell (Nat.le_succ _) _).setCell (Nat.le_succ _) _⟩
  ·
   have hk':k=hs.length:=by omega
   subst hk';have hs1:=HS1.out.only HO.out (by omega);obtain⟨z0,z1,-⟩:=zc hs1;have f0:=hs1.free 0;have f1:=hs1.free 1;have HS4:=Hi hs1;clear hs1;go_wp2;refine bodyPost_ret (v:=.agg #[.int .i64 0,.int .i64 0]) (results_cell_row rfl _ _ (w.heap.size+1) 31 #[.int .i64 0,.int .i64 0] (0,0) _ rfl ((HS4.out.set 0 _).set 1 _) Tryz.underlying31 rfl Tryz.faultInfo) rfl ?_;refine⟨0,0,rfl,.inr ⟨fun i x hx=>HALL.out i x (gZ hx).1 hx,rfl,rfl⟩,(HBW.out.setCell (Nat.le_succ _) _).setCell (Nat.le_succ _) _⟩
theorem Qs7(a:Option Addr)(cap:Nat)(js:List S2)(b:B6)(w:World)(hg:Glob w)(hj:ARow S2.cells w a cap js)(zj:∀p,p∈ js->p.x.size<=1048576/\p.y.size<=1048576)(zb:b.c.size<=1048576/\b.e.size<=1048576/\b.l.size<=1048576/\b.m.size<=1048576):
 Calls Tryz.prog 82 #[.slice a js.length cap,.agg #[.int .i64 b.a,.int .i64 b.b,.string b.c,.string b.e,.string b.l,.string b.m]] w fun e w'=>∃c,e=.returned (.int .i64 c)/\BarCode js b c/\Below w.heap.size w w':=by
 by_cases h:IsJ js.length b.a/\IsJ js.length b.b
 ·
  obtain⟨ka,hka⟩:=Int.eq_ofNat_of_zero_le h.1.1;obtain⟨kb,hkb⟩:=Int.eq_ofNat_of_zero_le h.2.1;have la:ka<js.length:=by have:=h.1.2;omega
  have lb:kb<js.length:=by have:=h.2.2;omega
  obtain⟨p,hp⟩:∃p,js[ka]?=some p:=⟨_,gE la⟩;obtain⟨q,hq⟩:∃q,js[kb]?=some q:=⟨_,gE lb⟩;obtain⟨px,hpx⟩:=QOf.ex p.x.data.toList;obtain⟨py,hpy⟩:=QOf.ex p.y.data.toList;obtain⟨qx,hqx⟩:=QOf.ex q.x.data.toList;obtain⟨qy,hqy⟩:=QOf.ex q.y.data.toList;obtain⟨vc,hvc⟩:=QOf.ex b.c.data.toList;obtain⟨vl,hvl⟩:=QOf.ex b.l.data.toList;obtain⟨vm,hvm⟩:=QOf.ex b.m.data.toList;rw[hka,hkb];refine(Qs1 a cap ka kb js p q b.c b.e b.l b.m px py qx qy vc vl vm w hg hj hp hq (zj p (mO hp)) (zj q (mO hq)) ⟨zb.1,zb.2.2.1,zb.2.2.2⟩ hpx hpy hqx hqy hvc hvl hvm).mono ?_;rintro e w' ⟨rfl,hb⟩;exact⟨_,rfl,.inr ⟨h.1,h.2,p,q,by rw[hka];exact hp,by rw[hkb];exact hq,px,py,qx,qy,vc,vl,vm,hpx,hpy,hqx,hqy,hvc,hvl,hvm,rfl⟩,hb⟩
 ·
  refine(Qs0 a js.length cap b.a b.b b.c b.e b.l b.m w h).mono ?_;rintro e w' ⟨rfl,hb⟩;exact⟨_,rfl,.inl ⟨h,rfl⟩,hb⟩
def Many(j b h:Nat):Prop:=j<1∨10<j∨24<b∨20<h
def FrameFault(js:List S2)(bs:List B6)(hs:List H3)(c at_:Int):Prop:=
 (Many js.length bs.length hs.length/\c=2/\at_=0)∨
 (¬Many js.length bs.length hs.length/\∃(k:Nat) (b:B6),bs[k]?=some b/\(∀(i:Nat) (x:B6),i<k->bs[i]?=some x->BarCode js x 0)/\BarCode js b c/\c≠0/\at_=(k:Int))∨
 (¬Many js.length bs.length hs.length/\(∀(i:Nat) (x:B6),bs[i]?=some x->BarCode js x 0)/\HoldsFault js.length bs.length hs c at_)
theorem HoldsFault.inj{n m:Nat}{hs:List H3}{c d x y:Int}(h:HoldsFault n m hs c x)(k:HoldsFault n m hs d y):c=d/\x=y:=by
 rcases h with ⟨i,f,hf,hall,rfl,hc,rfl⟩|⟨hall,rfl,rfl⟩
 ·
  rcases k with ⟨j,g,hg,kall,rfl,kc,rfl⟩|⟨kall,_,_⟩
  ·
   rcases Nat.lt_trichotomy i j with h|rfl|h
   · exact absurd (kall i f h hf) hc
   ·
    rw[hf] at hg;cases hg;exact⟨rfl,rfl⟩
   · exact absurd (hall j g h hg) kc
  · exact absurd (kall i f hf) hc
 ·
  rcases k with ⟨j,g,hg,kall,rfl,kc,rfl⟩|⟨kall,rfl,rfl⟩
  · exact absurd (hall j g hg) kc
  · exact⟨rfl,rfl⟩
theorem FrameFault.inj{js:List S2}{bs:List B6}{hs:List H3}{c d x y:Int}(h:FrameFault js bs hs c x)(k:FrameFault js bs hs d y):c=d/\x=y:=by
 rcases h with ⟨hm,rfl,rfl⟩|⟨hm,i,f,hf,hall,hb,hc,rfl⟩|⟨hm,hall,hh⟩
 ·
  rcases k with ⟨_,rfl,rfl⟩|⟨km,_⟩|⟨km,_⟩
  · exact⟨rfl,rfl⟩
  · exact absurd hm km
  · exact absurd hm km
 ·
  rcases k with ⟨km,_⟩|⟨_,j,g,hg,kall,kb,kc,rfl⟩|⟨_,kall,_⟩
  · exact absurd km hm
  ·
   rcases Nat.lt_trichotomy i j with h|rfl|h
   · exact absurd (hb.inj (kall i f h hf)) hc
   ·
    rw[hf] at hg;cases hg;exact⟨hb.inj kb,rfl⟩
   · exact absurd (kb.inj (hall j g h hg)) kc
  · exact absurd (hb.inj (kall i f hf)) hc
 ·
  rcases k with ⟨km,_⟩|⟨_,j,g,hg,kall,kb,kc,rfl⟩|⟨_,kall,kh⟩
  · exact absurd km hm
  · exact absurd (kb.inj (hall j g hg)) kc
  · exact hh.inj kh
set_option maxRecDepth 100000 in
set_option maxHeartbeats 4000000 in
theorem Qs8(a1 a2 a3:Option Addr)(c1 c2 c3:Nat)(js:List S2)(bs:List B6)(hs:List H3)(w:World)(hg:Glob w)(hf:FrRow w a1 a2 a3 c1 c2 c3 js bs hs)(hz:FrSized js bs hs):
 Calls Tryz.prog 45 #[.agg #[.slice a1 js.length c1,.slice a2 bs.length c2,.slice a3 hs.length c3]] w fun e w'=>∃c at_,e=.returned (.agg #[.int .i64 c,.int .i64 at_])/\FrameFault js bs hs c at_/\Below w.heap.size w w':=by
 by_cases h1:js.length<1
 ·
  have HMY:Hid (Many js.length bs.length hs.length):=Hi (.inl h1);have q1:((js.length:Int)<1):=by omega
  have HG:=Hi hg;have HF:=Hi hf;have HZ:=Hi hz;clear hg hf hz;go_enter Tryz.func45,Tryz.ntmps45;obtain⟨W,hW⟩:=nm ((w.alloc (.cells #[.slice a1 js.length c1,.slice a2 bs.length c2,.slice a3 hs.length c3] 26)).alloc (.cells #[.int .i64 0,.int .i64 0] 31));have HB0:Hid (Below w.heap.size w W):=Hi (by rw[<-hW];exact Below.new2 w _ _);have HS0:Hid (SB W w.heap.size 26 #[.slice a1 js.length c1,.slice a2 bs.length c2,.slice a3 hs.length c3]):=Hi (by rw[<-hW];exact(SB.new w _ _).alloc _);have HS1:Hid (SB W (w.heap.size+1) 31 #[.int .i64 0,.int .i64 0]):=Hi (by rw[<-hW];exact SB.new2 w _ _ _ _);have HR0:Hid (Below W.heap.size W W):=Hi bR;have hx:=HS0.out.below HR0.out HS0.out.lt;have hy:=HS1.out.below HR0.out HS1.out.lt;obtain⟨x0,x1,-⟩:=zc hx
  obtain⟨-,-,x2,-⟩:=zc hx;obtain⟨z0,z1,-⟩:=zc hy;have f0:=hy.free 0;have f1:=hy.free 1;clear hx hy;rw[<-hW] at x0 x1 x2 z0 z1 f0 f1;have HW:=Hi hW;clear hW;go_wp2;refine bodyPost_ret (v:=.agg #[.int .i64 2,.int .i64 0]) (results_cell_row rfl _ _ (w.heap.size+1) 31 #[.int .i64 2,.int .i64 0] (0,0) _ rfl (SB.new2 w _ _ _ _) Tryz.underlying31 rfl Tryz.faultInfo) rfl ?_;exact⟨2,0,rfl,Or.inl ⟨HMY.out,rfl,rfl⟩,Below.new2 w _ _⟩;skip
 by_cases h2:10<js.length
 ·
  have HMY:Hid (Many js.length bs.length hs.length):=Hi (.inr (.inl h2));have q1:¬((js.length:Int)<1):=by omega
  have q2:((10:Int)<(js.length:Int)):=by omega
  have HG:=Hi hg;have HF:=Hi hf;have HZ:=Hi hz;clear hg hf hz;go_enter Tryz.func45,Tryz.ntmps45;obtain⟨W,hW⟩:=nm ((w.alloc (.cells #[.slice a1 js.length c1,.slice a2 bs.length c2,.slice a3 hs.length c3] 26)).alloc (.cells #[.int .i64 0,.int .i64 0] 31));have HB0:Hid (Below w.heap.size w W):=Hi (by rw[<-hW];exact Below.new2 w _ _);have HS0:Hid (SB W w.heap.size 26 #[.slice a1 js.length c1,.slice a2 bs.length c2,.slice a3 hs.length c3]):=Hi (by rw[<-hW];exact(SB.new w _ _).alloc _);have HS1:Hid (SB W (w.heap.size+1) 31 #[.int .i64 0,.int .i64 0]):=Hi (by rw[<-hW];exact SB.new2 w _ _ _ _);have HR0:Hid (Below W.heap.size W W):=Hi bR;have hx:=HS0.out.below HR0.out HS0.out.lt;have hy:=HS1.out.below HR0.out HS1.out.lt;obtain⟨x0,x1,-⟩:=zc hx
  obtain⟨-,-,x2,-⟩:=zc hx;obtain⟨z0,z1,-⟩:=zc hy;have f0:=hy.free 0;have f1:=hy.free 1;clear hx hy;rw[<-hW] at x0 x1 x2 z0 z1 f0 f1;have HW:=Hi hW;clear hW;go_wp2;refine bodyPost_ret (v:=.agg #[.int .i64 2,.int .i64 0]) (results_cell_row rfl _ _ (w.heap.size+1) 31 #[.int .i64 2,.int .i64 0] (0,0) _ rfl (SB.new2 w _ _ _ _) Tryz.underlying31 rfl Tryz.faultInfo) rfl ?_;exact⟨2,0,rfl,Or.inl ⟨HMY.out,rfl,rfl⟩,Below.new2 w _ _⟩;skip
 by_cases h3:24<bs.length
 ·
  have HMY:Hid (Many js.length bs.length hs.length):=Hi (.inr (.inr (.inl h3)));have q1:¬((js.length:Int)<1):=by omega
  have q2:¬((10:Int)<(js.length:Int)):=by omega
  have q3:((24:Int)<(bs.length:Int)):=by omega
  have HG:=Hi hg;have HF:=Hi hf;have HZ:=Hi hz;clear hg hf hz;go_enter Tryz.func45,Tryz.ntmps45;obtain⟨W,hW⟩:=nm ((w.alloc (.cells #[.slice a1 js.length c1,.slice a2 bs.length c2,.slice a3 hs.length c3] 26)).alloc (.cells #[.int .i64 0,.int .i64 0] 31));have HB0:Hid (Below w.heap.size w W):=Hi (by rw[<-hW];exact Below.new2 w _ _);have HS0:Hid (SB W w.heap.size 26 #[.slice a1 js.length c1,.slice a2 bs.length c2,.slice a3 hs.length c3]):=Hi (by rw[<-hW];exact(SB.new w _ _).alloc _);have HS1:Hid (SB W (w.heap.size+1) 31 #[.int .i64 0,.int .i64 0]):=Hi (by rw[<-hW];exact SB.new2 w _ _ _ _);have HR0:Hid (Below W.heap.size W W):=Hi bR;have hx:=HS0.out.below HR0.out HS0.out.lt;have hy:=HS1.out.below HR0.out HS1.out.lt;obtain⟨x0,x1,-⟩:=zc hx
  obtain⟨-,-,x2,-⟩:=zc hx;obtain⟨z0,z1,-⟩:=zc hy;have f0:=hy.free 0;have f1:=hy.free 1;clear hx hy;rw[<-hW] at x0 x1 x2 z0 z1 f0 f1;have HW:=Hi hW;clear hW;go_wp2;refine bodyPost_ret (v:=.agg #[.int .i64 2,.int .i64 0]) (results_cell_row rfl _ _ (w.heap.size+1) 31 #[.int .i64 2,.int .i64 0] (0,0) _ rfl (SB.new2 w _ _ _ _) Tryz.underlying31 rfl Tryz.faultInfo) rfl ?_;exact⟨2,0,rfl,Or.inl ⟨HMY.out,rfl,rfl⟩,Below.new2 w _ _⟩;skip
 by_cases h4:20<hs.length
 ·
  have HMY:Hid (Many js.length bs.length hs.length):=Hi (.inr (.inr (.inr h4)));have q1:¬((js.length:Int)<1):=by omega
  have q2:¬((10:Int)<(js.length:Int)):=by omega
  have q3:¬((24:Int)<(bs.length:Int)):=by omega
  have q4:((20:Int)<(hs.length:Int)):=by omega
  have HG:=Hi hg;have HF:=Hi hf;have HZ:=Hi hz;clear hg hf hz;go_enter Tryz.func45,Tryz.ntmps45;obtain⟨W,hW⟩:=nm ((w.alloc (.cells #[.slice a1 js.length c1,.slice a2 bs.length c2,.slice a3 hs.length c3] 26)).alloc (.cells #[.int .i64 0,.int .i64 0] 31));have HB0:Hid (Below w.heap.size w W):=Hi (by rw[<-hW];exact Below.new2 w _ _);have HS0:Hid (SB W w.heap.size 26 #[.slice a1 js.length c1,.slice a2 bs.length c2,.slice a3 hs.length c3]):=Hi (by rw[<-hW];exact(SB.new w _ _).alloc _);have HS1:Hid (SB W (w.heap.size+1) 31 #[.int .i64 0,.int .i64 0]):=Hi (by rw[<-hW];exact SB.new2 w _ _ _ _);have HR0:Hid (Below W.heap.size W W):=Hi bR;have hx:=HS0.out.below HR0.out HS0.out.lt;have hy:=HS1.out.below HR0.out HS1.out.lt;obtain⟨x0,x1,-⟩:=zc hx
  obtain⟨-,-,x2,-⟩:=zc hx;obtain⟨z0,z1,-⟩:=zc hy;have f0:=hy.free 0;have f1:=hy.free 1;clear hx hy;rw[<-hW] at x0 x1 x2 z0 z1 f0 f1;have HW:=Hi hW;clear hW;go_wp2;refine bodyPost_ret (v:=.agg #[.int .i64 2,.int .i64 0]) (results_cell_row rfl _ _ (w.heap.size+1) 31 #[.int .i64 2,.int .i64 0] (0,0) _ rfl (SB.new2 w _ _ _ _) Tryz.underlying31 rfl Tryz.faultInfo) rfl ?_;exact⟨2,0,rfl,Or.inl ⟨HMY.out,rfl,rfl⟩,Below.new2 w _ _⟩;skip
 have HNM:Hid (¬Many js.length bs.length hs.length):=Hi (by rintro(h|h|h|h)<;>omega);have q1:¬((js.length:Int)<1):=by omega
 have q2:¬((10:Int)<(js.length:Int)):=by omega
 have q3:¬((24:Int)<(bs.length:Int)):=by omega
 have q4:¬((20:Int)<(hs.length:Int)):=by omega
 have HG:=Hi hg;have HF:=Hi hf;have HZ:=Hi hz;clear hg hf hz;go_enter Tryz.func45,Tryz.ntmps45;obtain⟨W,hW⟩:=nm ((w.alloc (.cells #[.slice a1 js.length c1,.slice a2 bs.length c2,.slice a3 hs.length c3] 26)).alloc (.cells #[.int .i64 0,.int .i64 0] 31));have HB0:Hid (Below w.heap.size w W):=Hi (by rw[<-hW];exact Below.new2 w _ _);have HS0:Hid (SB W w.heap.size 26 #[.slice a1 js.length c1,.slice a2 bs.length c2,.slice a3 hs.length c3]):=Hi (by rw[<-hW];exact(SB.new w _ _).alloc _);have HS1:Hid (SB W (w.heap.size+1) 31 #[.int .i64 0,.int .i64 0]):=Hi (by rw[<-hW];exact SB.new2 w _ _ _ _);have HR0:Hid (Below W.heap.size W W):=Hi bR;have hx:=HS0.out.below HR0.out HS0.out.lt;have hy:=HS1.out.below HR0.out HS1.out.lt;obtain⟨x0,x1,-⟩:=zc hx
 obtain⟨-,-,x2,-⟩:=zc hx;obtain⟨z0,z1,-⟩:=zc hy;have f0:=hy.free 0;have f1:=hy.free 1;clear hx hy;rw[<-hW] at x0 x1 x2 z0 z1 f0 f1;have HW:=Hi hW;clear hW;go_wp2_with fail;rw[HW.out];clear x0 x1 x2 z0 z1 f0 f1;go_loopw [32] (fun iv wr=>∃k:Nat,k<=bs.length/\iv=.int .i64 k/\(∀(i:Nat) (x:B6),i<k->bs[i]?=some x->BarCode js x 0)/\Below W.heap.size W wr) (fun iv _=>bs.length - (intOf iv).toNat)
 case atStart=>exact⟨0,by omega,rfl,fun i x hi=>by omega,Below.refl _ _⟩
 case round=>
  obtain⟨k,hk,rfl,hall,hb⟩:=hrel;have HALL:=Hi hall;have HB:=Hi hb;have HBW:=Hi (HB0.out.trans (hb.mono HB0.out.size));clear hall hb;by_cases hlt:k<bs.length
  ·
   obtain⟨f,hfk⟩:∃f,bs[k]?=some f:=⟨bs[k],gE hlt⟩;obtain⟨fb,off,rfl,hfb,d0,d1,d2,d3,d4,d5⟩:=(HF.out.b.below HBW.out).bar hfk;have HFK:=Hi hfk;have q5:((k:Int)<(bs.length:Int)):=by omega
   obtain⟨V,hV⟩:=nm (wr.alloc (.cells #[.int .i64 f.a,.int .i64 f.b,.string f.c,.string f.e,.string f.l,.string f.m] 47));have HBV:Hid (Below W.heap.size W V):=Hi (by rw[<-hV];exact HB.out.alloc HB.out.size _);have hx:=HS0.out.below HBV.out HS0.out.lt;obtain⟨x0,-⟩:=zc hx;rw[<-hV] at x0;have HV:=Hi hV;clear hfk hV hx;go_wp2_with fail;rw[HV.out];clear x0 d0 d1 d2 d3 d4 d5;go_fit (Qs7 a1 c1 js f V ((HG.out.below HB0.out).below HBV.out) ((HF.out.j.below HB0.out).below HBV.out) HZ.out.j (HZ.out.b f (mO HFK.out)));rintro e w1 ⟨cd,rfl,hcd,hb1⟩;have HCD:=Hi hcd;have HB1:=Hi (HBV.out.trans (hb1.mono HBV.out.size));clear hcd hb1;by_cases hc:cd=0
   ·
    subst hc;go_wp2;go_roundw
    case rel=>
     refine⟨k+1,by omega,by go_num,?_,HB1.out⟩;intro i x hi hx;rcases Nat.lt_or_ge i k with h|h
     · exact HALL.out i x h hx
     ·
      obtain rfl:i=k:=by omega
      obtain rfl:=Option.some.inj (HFK.out.symm.trans hx);exact HCD.out
    case measure=>simp[intOf];omega
   ·
    have e0:(cd != 0)=true:=by simpa using hc
    have HS4:=Hi (HS1.out.below HB1.out HS1.out.lt);obtain⟨z0,z1,-⟩:=zc HS4.out;have f0:=HS4.out.free 0;have f1:=HS4.out.free 1;go_wp2;refine bodyPost_ret (v:=.agg #[.int .i64 cd,.int .i64 (k:Int)]) (results_cell_row rfl _ _ (w.heap.size+1) 31 #[.int .i64 cd,.int .i64 (k:Int)] (0,0) _ rfl ((HS4.out.set 0 _).set 1 _) Tryz.underlying31 rfl Tryz.faultInfo) rfl ?_;exact⟨cd,_,rfl,Or.inr (Or.inl ⟨HNM.out,k,f,HFK.out,HALL.out,HCD.out,hc,rfl⟩),((HB0.out.trans (HB1.out.mono HB0.out.size)).setCell (Nat.le_succ _) _).setCell (Nat.le_succ _) _⟩
  ·
   have hk':k=bs.length:=by omega
   subst hk';have hx:=HS0.out.below HB.out HS0.out.lt;have hy:=HS1.out.below HB.out HS1.out.lt;obtain⟨x0,x1,x2,-⟩:=zc hx;obtain⟨z0,z1,-⟩:=zc hy;have f0:=hy.free 0;have f1:=hy.free 1;clear hx hy;go_wp2_with fail;clear x0 x1 x2 z0 z1 f0 f1;go_fit (Qs6 a1 a2 a3 js.length c1 bs.length c2 c3 hs wr (HF.out.h.below HBW.out) (by omega) (by omega));rintro e w1 ⟨cd,at_,rfl,hcd,hb1⟩;have HCD:=Hi hcd;have HB1:=Hi (HB.out.trans (hb1.mono HB.out.size));clear hcd hb1;have hx:=HS0.out.below HB1.out HS0.out.lt;have hy:=HS1.out.below HB1.out HS1.out.lt
   obtain⟨x0,x1,x2,-⟩:=zc hx;obtain⟨z0,z1,-⟩:=zc hy;have f0:=hy.free 0;have f1:=hy.free 1;clear hx hy;have HS4:=Hi (HS1.out.below HB1.out HS1.out.lt);go_wp2;refine bodyPost_ret (v:=.agg #[.int .i64 cd,.int .i64 at_]) (results_cell_row rfl _ _ (w.heap.size+1) 31 #[.int .i64 cd,.int .i64 at_] (0,0) _ rfl ((HS4.out.set 0 _).set 1 _) Tryz.underlying31 rfl Tryz.faultInfo) rfl ?_
   exact⟨cd,at_,rfl,Or.inr (Or.inr ⟨HNM.out,fun i x hx=>HALL.out i x (gZ hx).1 hx,HCD.out⟩),((HB0.out.trans (HB1.out.mono HB0.out.size)).setCell (Nat.le_succ _) _).setCell (Nat.le_succ _) _⟩
end Go.Proofs.YtfpcipgoedifaaaGreatDoor
