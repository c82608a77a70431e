/- rafterref's CheckFrame. -/
import Derived.Test.YtfpcipgoedifaaaGreatDoorK26RigD
namespace Go.Proofs.YtfpcipgoedifaaaGreatDoor
open Go.RowKit
set_option linter.unusedVariables false
set_option linter.unusedSimpArgs false
theorem ref_F(c at_:Int)(w:World):Calls Tryz.prog 20 #[.int .i64 c,.int .i64 at_] w fun e w'=>e=.returned (.agg #[.int .i64 c,.int .i64 at_])/\Below w.heap.size w w':=by
 go_enter Tryz.func20,Tryz.ntmps20;go_wp2;refine bodyPost_ret (results_cell_row rfl _ _ w.heap.size 31 #[.int .i64 c,.int .i64 at_] (0,0) _ rfl (SB.new w _ _) Tryz.underlying31 rfl Tryz.faultInfo) rfl ?_;exact⟨rfl,bR.alloc lZ _⟩
theorem Bag.pair{w:World}{bx bv j k:Nat}{p q:Rat}(hx:RatVal w bx p)(hy:RatVal w bv q)(hp:Fits p j)(hq:Fits q k):
 Bag w w [] [.int bx 0 p.num j,.rat bx p.den j,.int bv 0 q.num k,.rat bv q.den k]:=by
 refine⟨Below.refl _ _,fun n hn=>(by cases hn),fun t ht=>⟨?_,List.not_mem_nil⟩⟩;simp only[List.mem_cons,List.not_mem_nil,or_false] at ht;rcases ht with rfl|rfl|rfl|rfl
 · exact hx.int hp
 · exact hx.rat hp
 · exact hy.int hq
 · exact hy.rat hq
theorem Bag.cmp{w0 w:World}{Z:List Nat}{L:List Thing}{bx ox bv ov K1 K2:Nat}{X Y:Int}(h:Bag w0 w Z L)(hx:.int bx ox X K1∈ L)(hy:.int bv ov Y K2∈ L):
 Calls Tryz.prog 38 #[.pointer (some ⟨bx,ox,none⟩),.pointer (some ⟨bv,ov,none⟩)] w fun e w'=>e=.returned (.int .i64 (cmpZ X Y))/\Bag w0 w' Z L/\w.heap.size<=w'.heap.size:=by
 obtain⟨⟨a,cap,l,ha,h1⟩,hna⟩:=h.ts _ hx;obtain⟨⟨b,cap',m,hb,h2⟩,hnb⟩:=h.ts _ hy;refine(Qr8 bx ox X a cap l bv ov Y b cap' m w ha hb).mono ?_;rintro e w' ⟨rfl,hbl⟩;exact⟨rfl,h.below hbl,hbl.size⟩
theorem Qfy(X Y:Int):cmpZ X Y=0↔X=Y:=by
 unfold cmpZ;by_cases h1:X<Y
 ·
  rw[if_pos h1];constructor
  · intro h;omega
  · intro h;omega
 ·
  rw[if_neg h1];by_cases h2:X=Y
  · rw[if_pos h2];simp[h2]
  · rw[if_neg h2];simp[h2]
theorem Qrt(X Y:Int){d:Int}(hd:0<d):cmpZ (X*d) (Y*d)=cmpZ X Y:=by
 unfold cmpZ;by_cases h1:X<Y
 · rw[if_pos h1,if_pos (Int.mul_lt_mul_of_pos_right h1 hd)]
 ·
  have h2:¬X*d<Y*d:=fun h=>h1 (Int.lt_of_mul_lt_mul_right h (Int.le_of_lt hd))
  rw[if_neg h1,if_neg h2];by_cases h3:X=Y
  · rw[if_pos h3,if_pos (by rw[h3])]
  · rw[if_neg h3,if_neg (fun h=>h3 (Int.eq_of_mul_eq_mul_right (by omega) h))]
theorem Qjw(p q:Rat):p.num*(q.den:Int)=q.num*(p.den:Int)↔p=q:=by
 constructor
 ·
  intro h;rw[<-Rat.mkRat_self p,<-Rat.mkRat_self q];exact(Rat.mkRat_eq_iff p.den_nz q.den_nz).2 h
 · rintro rfl
   rfl
set_option maxRecDepth 100000 in
set_option maxHeartbeats 4000000 in
theorem Qjx(bx bv j k:Nat)(p q:Rat)(w:World)(hx:RatVal w bx p)(hy:RatVal w bv q)(hp:Fits p j)(hq:Fits q k)(hj:j+k<274877906000):
 Calls Tryz.prog 11 #[.pointer (some ⟨bx,0,none⟩),.pointer (some ⟨bv,0,none⟩)] w fun e w'=>e=.returned (.int .i64 (cmpZ (p.num*(q.den:Int)) (q.num*(p.den:Int))))/\Below w.heap.size w w':=by
 have HB:=Hi (Bag.pair hx hy hp hq);clear hx hy hp hq;by_cases hd:(p.den:Int)=(q.den:Int)
 ·
  have HCZ:Hid (cmpZ (p.den:Int) (q.den:Int)=0):=Hi ((Qfy _ _).2 hd);have HD:=Hi hd;clear hd;go_enter Tryz.func11,Tryz.ntmps11;go_wp2_with (first
   |
    (go_at_call 37
     apply cM;apply Bag.den (w0:=w);(focus(repeat(first|exact HB.out|apply Bag.alloc|apply Bag.drew)));(focus(repeat(first|exact List.Mem.head _|apply List.Mem.tail)));rintro e w1 ⟨b1,o1,rfl,hbag,hsz⟩;clear HB;have HB:=Hi hbag;clear hbag
     (try simp only[Qac,World.size_alloc] at hsz))
   |
    (go_at_call 38
     apply cM;apply Bag.cmp (w0:=w);(focus(repeat(first|exact HB.out|apply Bag.alloc|apply Bag.drew)));(focus(repeat(first|exact List.Mem.head _|apply List.Mem.tail)));(focus(repeat(first|exact List.Mem.head _|apply List.Mem.tail)));rintro e w1 ⟨rfl,hbag,hsz⟩;rw[HCZ.out];clear HB;have HB:=Hi hbag
     clear hbag)
   |fail)
  go_region_held3 (fun _=>True) (trivial) (first
   |
    (go_at_call 38
     apply cM;apply Bag.cmp (w0:=w);(focus(repeat(first|exact HB.out|apply Bag.alloc|apply Bag.drew)));(focus(repeat(first|exact List.Mem.head _|apply List.Mem.tail)));(focus(repeat(first|exact List.Mem.head _|apply List.Mem.tail)));rintro e w1 ⟨rfl,hbag,hsz⟩;clear HB;have HB:=Hi hbag;clear hbag
     (try simp only[Qac,World.size_alloc] at hsz))
   )
  go_wp2;go_ret;refine⟨?_,HB.out.base⟩;have hd:=HD.out;rw[hd,Qrt _ _ (show (0:Int)<(q.den:Int) by have:=q.den_nz;omega)];rfl
 ·
  obtain⟨cz,hcz⟩:=nm (cmpZ (p.den:Int) (q.den:Int));have hne:(cz == 0)=false:=by
   rw[beq_eq_false_iff_ne];intro h;exact hd ((Qfy _ _).1 (hcz.trans h))
  have HCZ:=Hi hcz;clear hd hcz;go_enter Tryz.func11,Tryz.ntmps11;go_wp2_with (first
   |
    (go_at_call 37
     apply cM;apply Bag.den (w0:=w);(focus(repeat(first|exact HB.out|apply Bag.alloc|apply Bag.drew)));(focus(repeat(first|exact List.Mem.head _|apply List.Mem.tail)));rintro e w1 ⟨b1,o1,rfl,hbag,hsz⟩;clear HB;have HB:=Hi hbag;clear hbag
     (try simp only[Qac,World.size_alloc] at hsz))
   |
    (go_at_call 38
     apply cM;apply Bag.cmp (w0:=w);(focus(repeat(first|exact HB.out|apply Bag.alloc|apply Bag.drew)));(focus(repeat(first|exact List.Mem.head _|apply List.Mem.tail)));(focus(repeat(first|exact List.Mem.head _|apply List.Mem.tail)));rintro e w1 ⟨rfl,hbag,hsz⟩;rw[HCZ.out];clear HB;have HB:=Hi hbag
     clear hbag)
   |fail)
  go_region_held3 (fun _=>True) (trivial) (first
   |
    (go_at_call 39
     apply cM;apply Bag.mul (w0:=w);(focus(repeat(first|exact HB.out|apply Bag.alloc|apply Bag.drew)));(focus(simp only[mem_less,List.mem_cons,List.not_mem_nil,or_false,Qac,World.size_alloc,true_or,or_true,true_and,and_true]<;>omega));(focus(repeat(first|exact List.Mem.head _|apply List.Mem.tail)));(focus(repeat(first|exact List.Mem.head _|apply List.Mem.tail)));omega;rintro e w1 ⟨rfl,hbag,hsz,hlt⟩;clear HB;have HB:=Hi hbag;clear hbag
     (try simp only[Qac,World.size_alloc] at hsz))
   |
    (go_at_call 37
     apply cM;apply Bag.den (w0:=w);(focus(repeat(first|exact HB.out|apply Bag.alloc|apply Bag.drew)));(focus(repeat(first|exact List.Mem.head _|apply List.Mem.tail)));rintro e w1 ⟨b1,o1,rfl,hbag,hsz⟩;clear HB;have HB:=Hi hbag;clear hbag
     (try simp only[Qac,World.size_alloc] at hsz))
   |
    (go_at_call 38
     apply cM;apply Bag.cmp (w0:=w);(focus(repeat(first|exact HB.out|apply Bag.alloc|apply Bag.drew)));(focus(repeat(first|exact List.Mem.head _|apply List.Mem.tail)));(focus(repeat(first|exact List.Mem.head _|apply List.Mem.tail)));rintro e w1 ⟨rfl,hbag,hsz⟩;clear HB;have HB:=Hi hbag;clear hbag
     (try simp only[Qac,World.size_alloc] at hsz))
   )
  all_goals
   go_wp2;go_ret;exact⟨rfl,HB.out.base⟩
theorem Qjy(bx bv j k:Nat)(p q:Rat)(w:World)(hx:RatVal w bx p)(hy:RatVal w bv q)(hp:Fits p j)(hq:Fits q k)(hj:j+k<274877906000):
 Calls Tryz.prog 11 #[.pointer (some ⟨bx,0,none⟩),.pointer (some ⟨bv,0,none⟩)] w fun e w'=>(∃c,e=.returned (.int .i64 c)/\(c=0↔p=q))/\Below w.heap.size w w':=
 (Qjx bx bv j k p q w hx hy hp hq hj).mono fun e w' h=>⟨⟨_,h.1,(Qfy _ _).trans (Qjw p q)⟩,h.2⟩
theorem RBag.cmpT{w0 w:World}{L:List (Nat × Rat × Nat)}{bx bv j k:Nat}{p q:Rat}(h:RBag w0 w L)(hx:(bx,p,j)∈ L)(hy:(bv,q,k)∈ L)(hj:j+k<274877906000)(he:p=q):
 Calls Tryz.prog 11 #[.pointer (some ⟨bx,0,none⟩),.pointer (some ⟨bv,0,none⟩)] w fun e w'=>e=.returned (.int .i64 0)/\RBag w0 w' L:=by
 have a:=h.ts _ hx;have b:=h.ts _ hy;refine(Qjy bx bv j k p q w a.1 b.1 a.2.1 b.2.1 hj).mono ?_;rintro e w' ⟨⟨c,rfl,hc⟩,hb⟩;exact⟨by rw[hc.2 he],h.below hb⟩
theorem RBag.cmpF{w0 w:World}{L:List (Nat × Rat × Nat)}{bx bv j k:Nat}{p q:Rat}(h:RBag w0 w L)(hx:(bx,p,j)∈ L)(hy:(bv,q,k)∈ L)(hj:j+k<274877906000)(he:¬p=q):
 Calls Tryz.prog 11 #[.pointer (some ⟨bx,0,none⟩),.pointer (some ⟨bv,0,none⟩)] w fun e w'=>(∃c,e=.returned (.int .i64 c)/\(c == 0)=false)/\RBag w0 w' L:=by
 have a:=h.ts _ hx;have b:=h.ts _ hy;refine(Qjy bx bv j k p q w a.1 b.1 a.2.1 b.2.1 hj).mono ?_;rintro e w' ⟨⟨c,rfl,hc⟩,hb⟩;exact⟨⟨c,rfl,by rw[beq_eq_false_iff_ne];exact fun h=>he (hc.1 h)⟩,h.below hb⟩
set_option maxRecDepth 100000 in
set_option maxHeartbeats 4000000 in
theorem Qsh(a1 a2 a3:Option Addr)(c1 c2 c3:Nat)(js:List S2)(bs:List B6)(hs:List H3)(w:World)(hg:Glob w)(hf:FrRow w a1 a2 a3 c1 c2 c3 js bs hs)(hz:FrSized js bs hs)(hm:Many js.length bs.length hs.length):
 Calls Tryz.prog 5 #[.agg #[.slice a1 js.length c1,.slice a2 bs.length c2,.slice a3 hs.length c3]] w fun e w'=>∃c at_,e=.returned (.agg #[.int .i64 c,.int .i64 at_])/\FrameFault js bs hs c at_/\Below w.heap.size w w':=by
 have HMY:=Hi hm;by_cases h1:js.length<1
 ·
  have q1:((js.length:Int) == 0)=true:=by rw[beq_iff_eq];omega
  clear hm;have HG:=Hi hg;have HF:=Hi hf;have HZ:=Hi hz;clear hg hf hz;go_enter Tryz.func5,Tryz.ntmps5;obtain⟨W,hW⟩:=nm ((w.alloc (.cells #[.slice a1 js.length c1,.slice a2 bs.length c2,.slice a3 hs.length c3] 26)).alloc (.cells #[.int .i64 0,.int .i64 0] 31));have HB0:Hid (Below w.heap.size w W):=Hi (by rw[<-hW];exact Below.new2 w _ _);have HS0:Hid (SB W w.heap.size 26 #[.slice a1 js.length c1,.slice a2 bs.length c2,.slice a3 hs.length c3]):=Hi (by rw[<-hW];exact(SB.new w _ _).alloc _);have HS1:Hid (SB W (w.heap.size+1) 31 #[.int .i64 0,.int .i64 0]):=Hi (by rw[<-hW];exact SB.new2 w _ _ _ _);have HR0:Hid (Below W.heap.size W W):=Hi bR;have hx:=HS0.out.below HR0.out HS0.out.lt;have hy:=HS1.out.below HR0.out HS1.out.lt;obtain⟨x0,x1,-⟩:=zc hx
  obtain⟨-,-,x2,-⟩:=zc hx;obtain⟨z0,z1,-⟩:=zc hy;have f0:=hy.free 0;have f1:=hy.free 1;clear hx hy;rw[<-hW] at x0 x1 x2 z0 z1 f0 f1;have HW:=Hi hW;clear hW;go_wp2_with fail;rw[HW.out];clear x0 x1 x2 z0 z1 f0 f1;go_fit (ref_F 2 0 W);rintro e w9 ⟨rfl,hb9⟩;have HB9:=Hi (HR0.out.trans (hb9.mono HR0.out.size));have HS9:=Hi (HS1.out.below HB9.out HS1.out.lt);obtain⟨z0,z1,-⟩:=zc HS9.out;have f0:=HS9.out.free 0;have f1:=HS9.out.free 1;clear hb9;go_wp2
  refine bodyPost_ret (v:=.agg #[.int .i64 2,.int .i64 0]) (results_cell_row rfl _ _ (w.heap.size+1) 31 #[.int .i64 2,.int .i64 0] (0,0) _ rfl ((HS9.out.set 0 _).set 1 _) Tryz.underlying31 rfl Tryz.faultInfo) rfl ?_;exact⟨_,_,rfl,Or.inl ⟨HMY.out,rfl,rfl⟩,((HB0.out.trans (HB9.out.mono HB0.out.size)).setCell (Nat.le_succ _) _).setCell (Nat.le_succ _) _⟩;skip
 have q1:((js.length:Int) == 0)=false:=by rw[beq_eq_false_iff_ne];omega
 by_cases h2:10<js.length
 ·
  have q2:((10:Int)<(js.length:Int)):=by omega
  clear hm;have HG:=Hi hg;have HF:=Hi hf;have HZ:=Hi hz;clear hg hf hz;go_enter Tryz.func5,Tryz.ntmps5;obtain⟨W,hW⟩:=nm ((w.alloc (.cells #[.slice a1 js.length c1,.slice a2 bs.length c2,.slice a3 hs.length c3] 26)).alloc (.cells #[.int .i64 0,.int .i64 0] 31));have HB0:Hid (Below w.heap.size w W):=Hi (by rw[<-hW];exact Below.new2 w _ _);have HS0:Hid (SB W w.heap.size 26 #[.slice a1 js.length c1,.slice a2 bs.length c2,.slice a3 hs.length c3]):=Hi (by rw[<-hW];exact(SB.new w _ _).alloc _);have HS1:Hid (SB W (w.heap.size+1) 31 #[.int .i64 0,.int .i64 0]):=Hi (by rw[<-hW];exact SB.new2 w _ _ _ _);have HR0:Hid (Below W.heap.size W W):=Hi bR;have hx:=HS0.out.below HR0.out HS0.out.lt;have hy:=HS1.out.below HR0.out HS1.out.lt;obtain⟨x0,x1,-⟩:=zc hx
  obtain⟨-,-,x2,-⟩:=zc hx;obtain⟨z0,z1,-⟩:=zc hy;have f0:=hy.free 0;have f1:=hy.free 1;clear hx hy;rw[<-hW] at x0 x1 x2 z0 z1 f0 f1;have HW:=Hi hW;clear hW;go_wp2_with fail;rw[HW.out];clear x0 x1 x2 z0 z1 f0 f1;go_fit (ref_F 2 0 W);rintro e w9 ⟨rfl,hb9⟩;have HB9:=Hi (HR0.out.trans (hb9.mono HR0.out.size));have HS9:=Hi (HS1.out.below HB9.out HS1.out.lt);obtain⟨z0,z1,-⟩:=zc HS9.out;have f0:=HS9.out.free 0;have f1:=HS9.out.free 1;clear hb9;go_wp2
  refine bodyPost_ret (v:=.agg #[.int .i64 2,.int .i64 0]) (results_cell_row rfl _ _ (w.heap.size+1) 31 #[.int .i64 2,.int .i64 0] (0,0) _ rfl ((HS9.out.set 0 _).set 1 _) Tryz.underlying31 rfl Tryz.faultInfo) rfl ?_;exact⟨_,_,rfl,Or.inl ⟨HMY.out,rfl,rfl⟩,((HB0.out.trans (HB9.out.mono HB0.out.size)).setCell (Nat.le_succ _) _).setCell (Nat.le_succ _) _⟩;skip
 have q2:¬((10:Int)<(js.length:Int)):=by omega
 by_cases h3:24<bs.length
 ·
  have q3:((24:Int)<(bs.length:Int)):=by omega
  clear hm;have HG:=Hi hg;have HF:=Hi hf;have HZ:=Hi hz;clear hg hf hz;go_enter Tryz.func5,Tryz.ntmps5;obtain⟨W,hW⟩:=nm ((w.alloc (.cells #[.slice a1 js.length c1,.slice a2 bs.length c2,.slice a3 hs.length c3] 26)).alloc (.cells #[.int .i64 0,.int .i64 0] 31));have HB0:Hid (Below w.heap.size w W):=Hi (by rw[<-hW];exact Below.new2 w _ _);have HS0:Hid (SB W w.heap.size 26 #[.slice a1 js.length c1,.slice a2 bs.length c2,.slice a3 hs.length c3]):=Hi (by rw[<-hW];exact(SB.new w _ _).alloc _);have HS1:Hid (SB W (w.heap.size+1) 31 #[.int .i64 0,.int .i64 0]):=Hi (by rw[<-hW];exact SB.new2 w _ _ _ _);have HR0:Hid (Below W.heap.size W W):=Hi bR;have hx:=HS0.out.below HR0.out HS0.out.lt;have hy:=HS1.out.below HR0.out HS1.out.lt;obtain⟨x0,x1,-⟩:=zc hx
  obtain⟨-,-,x2,-⟩:=zc hx;obtain⟨z0,z1,-⟩:=zc hy;have f0:=hy.free 0;have f1:=hy.free 1;clear hx hy;rw[<-hW] at x0 x1 x2 z0 z1 f0 f1;have HW:=Hi hW;clear hW;go_wp2_with fail;rw[HW.out];clear x0 x1 x2 z0 z1 f0 f1;go_fit (ref_F 2 0 W);rintro e w9 ⟨rfl,hb9⟩;have HB9:=Hi (HR0.out.trans (hb9.mono HR0.out.size));have HS9:=Hi (HS1.out.below HB9.out HS1.out.lt);obtain⟨z0,z1,-⟩:=zc HS9.out;have f0:=HS9.out.free 0;have f1:=HS9.out.free 1;clear hb9;go_wp2
  refine bodyPost_ret (v:=.agg #[.int .i64 2,.int .i64 0]) (results_cell_row rfl _ _ (w.heap.size+1) 31 #[.int .i64 2,.int .i64 0] (0,0) _ rfl ((HS9.out.set 0 _).set 1 _) Tryz.underlying31 rfl Tryz.faultInfo) rfl ?_;exact⟨_,_,rfl,Or.inl ⟨HMY.out,rfl,rfl⟩,((HB0.out.trans (HB9.out.mono HB0.out.size)).setCell (Nat.le_succ _) _).setCell (Nat.le_succ _) _⟩;skip
 have q3:¬((24:Int)<(bs.length:Int)):=by omega
 have q4:((20:Int)<(hs.length:Int)):=by rcases hm with h|h|h|h<;>omega
 clear hm;have HG:=Hi hg;have HF:=Hi hf;have HZ:=Hi hz;clear hg hf hz;go_enter Tryz.func5,Tryz.ntmps5;obtain⟨W,hW⟩:=nm ((w.alloc (.cells #[.slice a1 js.length c1,.slice a2 bs.length c2,.slice a3 hs.length c3] 26)).alloc (.cells #[.int .i64 0,.int .i64 0] 31));have HB0:Hid (Below w.heap.size w W):=Hi (by rw[<-hW];exact Below.new2 w _ _);have HS0:Hid (SB W w.heap.size 26 #[.slice a1 js.length c1,.slice a2 bs.length c2,.slice a3 hs.length c3]):=Hi (by rw[<-hW];exact(SB.new w _ _).alloc _);have HS1:Hid (SB W (w.heap.size+1) 31 #[.int .i64 0,.int .i64 0]):=Hi (by rw[<-hW];exact SB.new2 w _ _ _ _);have HR0:Hid (Below W.heap.size W W):=Hi bR;have hx:=HS0.out.below HR0.out HS0.out.lt;have hy:=HS1.out.below HR0.out HS1.out.lt;obtain⟨x0,x1,-⟩:=zc hx
 obtain⟨-,-,x2,-⟩:=zc hx;obtain⟨z0,z1,-⟩:=zc hy;have f0:=hy.free 0;have f1:=hy.free 1;clear hx hy;rw[<-hW] at x0 x1 x2 z0 z1 f0 f1;have HW:=Hi hW;clear hW;go_wp2_with fail;rw[HW.out];clear x0 x1 x2 z0 z1 f0 f1;go_fit (ref_F 2 0 W);rintro e w9 ⟨rfl,hb9⟩;have HB9:=Hi (HR0.out.trans (hb9.mono HR0.out.size));have HS9:=Hi (HS1.out.below HB9.out HS1.out.lt);obtain⟨z0,z1,-⟩:=zc HS9.out;have f0:=HS9.out.free 0;have f1:=HS9.out.free 1;clear hb9;go_wp2
 refine bodyPost_ret (v:=.agg #[.int .i64 2,.int .i64 0]) (results_cell_row rfl _ _ (w.heap.size+1) 31 #[.int .i64 2,.int .i64 0] (0,0) _ rfl ((HS9.out.set 0 _).set 1 _) Tryz.underlying31 rfl Tryz.faultInfo) rfl ?_;exact⟨_,_,rfl,Or.inl ⟨HMY.out,rfl,rfl⟩,((HB0.out.trans (HB9.out.mono HB0.out.size)).setCell (Nat.le_succ _) _).setCell (Nat.le_succ _) _⟩;skip
end Go.Proofs.YtfpcipgoedifaaaGreatDoor
