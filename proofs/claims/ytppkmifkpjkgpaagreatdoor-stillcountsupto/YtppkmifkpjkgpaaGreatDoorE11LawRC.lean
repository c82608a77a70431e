import Derived.Test.YtppkmifkpjkgpaaGreatDoorE10RatCmp
namespace Go.Proofs.YtppkmifkpjkgpaaGreatDoor
open Go.RowKit
open Go.Proofs.Tryz
set_option linter.unusedSimpArgs false
set_option linter.unusedVariables false
set_option maxHeartbeats 8000000
set_option maxRecDepth 1000000
theorem RBag.cmpT{w0 w:Vz}{L:List (Nat × Rat × Nat)}{bx d j k:Nat}{p q:Rat}(h:RBag w0 w L)(f:(bx,p,j)∈ L)(g:(d,q,k)∈ L)(i:j+k<274877906000)(l:p=q):
 Calls prog 34 #[.pointer (some ⟨bx,0,none⟩),.pointer (some ⟨d,0,none⟩)] w fun e w'=>e=.returned (.int .i64 0)/\RBag w0 w' L:=by
 have a:=h.ts _ f;have b:=h.ts _ g;refine(Qkq bx d j k p q w a.1 b.1 a.2.1 b.2.1 i).mono ?_;rintro e w' ⟨⟨c,rfl,m⟩,n⟩;exact⟨by rw[m.2 l],h.below n⟩
theorem RBag.cmpF{w0 w:Vz}{L:List (Nat × Rat × Nat)}{bx d j k:Nat}{p q:Rat}(h:RBag w0 w L)(f:(bx,p,j)∈ L)(g:(d,q,k)∈ L)(i:j+k<274877906000)(l:¬p=q):
 Calls prog 34 #[.pointer (some ⟨bx,0,none⟩),.pointer (some ⟨d,0,none⟩)] w fun e w'=>(∃c,e=.returned (.int .i64 c)/\(c == 0)=false)/\RBag w0 w' L:=by
 have a:=h.ts _ f;have b:=h.ts _ g;refine(Qkq bx d j k p q w a.1 b.1 a.2.1 b.2.1 i).mono ?_;rintro e w' ⟨⟨c,rfl,m⟩,n⟩;exact⟨⟨c,rfl,by rw[beq_eq_false_iff_ne];exact fun h=>l (m.1 h)⟩,h.below n⟩
theorem Qtv(A B C:Vx)(c1 c2 c3:Nat)(m:List S2)(r:List B6)(hs:List H3)(w:Vz)(u:Glob w)(x:FrRow w A B C c1 c2 c3 m r hs)(y:FrSized m r hs)(D:Many m.length r.length hs.length):
 Calls prog 7 #[.agg #[.slice A m.length c1,.slice B r.length c2,.slice C hs.length c3]] w fun e w'=>∃c E,e=.returned (.agg #[.int .i64 c,.int .i64 E])/\FrameFault m r hs c E/\Below w.heap.size w w':=by
 have t:=Hi D;by_cases M:m.length<1
 .
  have J:((m.length:Int) == 0)=true:=by rw[beq_iff_eq];omega
  clear D;obtain⟨F,G,H⟩:=Ib u x y;clear u x y;go_enter func7,ntmps7;obtain⟨W,f⟩:=nm ((w.alloc (.cells #[.slice A m.length c1,.slice B r.length c2,.slice C hs.length c3] 26)).alloc (.cells #[.int .i64 0,.int .i64 0] 31));have g:=Ub f;have i:=Ud f;have a:=Ue f;have b:O (Bl W W):=Hi bR;have n:=i.o.below b.o i.o.lt;have l:=a.o.below b.o a.o.lt;obtain⟨s,x1,-⟩:=zc n
  obtain⟨-,-,x2,-⟩:=zc n;obtain⟨p,q,-⟩:=zc l;have f0:=l.free 0;have f1:=l.free 1;clear n l;rw[<-f] at s x1 x2 p q f0 f1;have z:=Hi f;clear f;go_wp2_with fail;rw[z.o];clear s x1 x2 p q f0 f1;go_fit (ref_F 2 0 W);rintro e I ⟨rfl,j⟩;have k:=Hi (b.o.trans (j.mono b.o.size));have d:=Hi (a.o.below k.o a.o.lt);obtain⟨p,q,-⟩:=zc d.o;have f0:=d.o.free 0;have f1:=d.o.free 1;clear j;go_wp2
  refine bodyPost_ret (v:=.agg #[.int .i64 2,.int .i64 0]) (results_cell_row rfl _ _ (w.heap.size+1) 31 #[.int .i64 2,.int .i64 0] (0,0) _ rfl ((d.o.set 0 _).set 1 _) underlying31 rfl Tryz.faultInfo) rfl ?_;exact⟨_,_,rfl,Or.inl ⟨t.o,rfl,rfl⟩,((g.o.trans (k.o.mono g.o.size)).setCell (Nat.le_succ _) _).setCell (Nat.le_succ _) _⟩
 have J:((m.length:Int) == 0)=false:=by rw[beq_eq_false_iff_ne];omega
 by_cases N:10<m.length
 .
  have K:((10:Int)<(m.length:Int)):=by omega
  clear D;obtain⟨F,G,H⟩:=Ib u x y;clear u x y;go_enter func7,ntmps7;obtain⟨W,f⟩:=nm ((w.alloc (.cells #[.slice A m.length c1,.slice B r.length c2,.slice C hs.length c3] 26)).alloc (.cells #[.int .i64 0,.int .i64 0] 31));have g:=Ub f;have i:=Ud f;have a:=Ue f;have b:O (Bl W W):=Hi bR;have n:=i.o.below b.o i.o.lt;have l:=a.o.below b.o a.o.lt;obtain⟨s,x1,-⟩:=zc n
  obtain⟨-,-,x2,-⟩:=zc n;obtain⟨p,q,-⟩:=zc l;have f0:=l.free 0;have f1:=l.free 1;clear n l;rw[<-f] at s x1 x2 p q f0 f1;have z:=Hi f;clear f;go_wp2_with fail;rw[z.o];clear s x1 x2 p q f0 f1;go_fit (ref_F 2 0 W);rintro e I ⟨rfl,j⟩;have k:=Hi (b.o.trans (j.mono b.o.size));have d:=Hi (a.o.below k.o a.o.lt);obtain⟨p,q,-⟩:=zc d.o;have f0:=d.o.free 0;have f1:=d.o.free 1;clear j;go_wp2
  refine bodyPost_ret (v:=.agg #[.int .i64 2,.int .i64 0]) (results_cell_row rfl _ _ (w.heap.size+1) 31 #[.int .i64 2,.int .i64 0] (0,0) _ rfl ((d.o.set 0 _).set 1 _) underlying31 rfl Tryz.faultInfo) rfl ?_;exact⟨_,_,rfl,Or.inl ⟨t.o,rfl,rfl⟩,((g.o.trans (k.o.mono g.o.size)).setCell (Nat.le_succ _) _).setCell (Nat.le_succ _) _⟩
 have K:¬((10:Int)<(m.length:Int)):=by omega
 by_cases P:24<r.length
 .
  have L:((24:Int)<(r.length:Int)):=by omega
  clear D;obtain⟨F,G,H⟩:=Ib u x y;clear u x y;go_enter func7,ntmps7;obtain⟨W,f⟩:=nm ((w.alloc (.cells #[.slice A m.length c1,.slice B r.length c2,.slice C hs.length c3] 26)).alloc (.cells #[.int .i64 0,.int .i64 0] 31));have g:=Ub f;have i:=Ud f;have a:=Ue f;have b:O (Bl W W):=Hi bR;have n:=i.o.below b.o i.o.lt;have l:=a.o.below b.o a.o.lt;obtain⟨s,x1,-⟩:=zc n
  obtain⟨-,-,x2,-⟩:=zc n;obtain⟨p,q,-⟩:=zc l;have f0:=l.free 0;have f1:=l.free 1;clear n l;rw[<-f] at s x1 x2 p q f0 f1;have z:=Hi f;clear f;go_wp2_with fail;rw[z.o];clear s x1 x2 p q f0 f1;go_fit (ref_F 2 0 W);rintro e I ⟨rfl,j⟩;have k:=Hi (b.o.trans (j.mono b.o.size));have d:=Hi (a.o.below k.o a.o.lt);obtain⟨p,q,-⟩:=zc d.o;have f0:=d.o.free 0;have f1:=d.o.free 1;clear j;go_wp2
  refine bodyPost_ret (v:=.agg #[.int .i64 2,.int .i64 0]) (results_cell_row rfl _ _ (w.heap.size+1) 31 #[.int .i64 2,.int .i64 0] (0,0) _ rfl ((d.o.set 0 _).set 1 _) underlying31 rfl Tryz.faultInfo) rfl ?_;exact⟨_,_,rfl,Or.inl ⟨t.o,rfl,rfl⟩,((g.o.trans (k.o.mono g.o.size)).setCell (Nat.le_succ _) _).setCell (Nat.le_succ _) _⟩
 have L:¬((24:Int)<(r.length:Int)):=by omega
 have Q:((20:Int)<(hs.length:Int)):=by rcases D with h|h|h|h<;>omega
 clear D;obtain⟨F,G,H⟩:=Ib u x y;clear u x y;go_enter func7,ntmps7;obtain⟨W,f⟩:=nm ((w.alloc (.cells #[.slice A m.length c1,.slice B r.length c2,.slice C hs.length c3] 26)).alloc (.cells #[.int .i64 0,.int .i64 0] 31));have g:=Ub f;have i:=Ud f;have a:=Ue f;have b:O (Bl W W):=Hi bR;have n:=i.o.below b.o i.o.lt;have l:=a.o.below b.o a.o.lt;obtain⟨s,x1,-⟩:=zc n
 obtain⟨-,-,x2,-⟩:=zc n;obtain⟨p,q,-⟩:=zc l;have f0:=l.free 0;have f1:=l.free 1;clear n l;rw[<-f] at s x1 x2 p q f0 f1;have z:=Hi f;clear f;go_wp2_with fail;rw[z.o];clear s x1 x2 p q f0 f1;go_fit (ref_F 2 0 W);rintro e I ⟨rfl,j⟩;have k:=Hi (b.o.trans (j.mono b.o.size));have d:=Hi (a.o.below k.o a.o.lt);obtain⟨p,q,-⟩:=zc d.o;have f0:=d.o.free 0;have f1:=d.o.free 1;clear j;go_wp2
 refine bodyPost_ret (v:=.agg #[.int .i64 2,.int .i64 0]) (results_cell_row rfl _ _ (w.heap.size+1) 31 #[.int .i64 2,.int .i64 0] (0,0) _ rfl ((d.o.set 0 _).set 1 _) underlying31 rfl Tryz.faultInfo) rfl ?_;exact⟨_,_,rfl,Or.inl ⟨t.o,rfl,rfl⟩,((g.o.trans (k.o.mono g.o.size)).setCell (Nat.le_succ _) _).setCell (Nat.le_succ _) _⟩
theorem Qtw{hs:List H3}{m i:Nat}{o:H3}(h:hs[i]?=some o)(a:i<m):(o.j,o.w)∈ places (hs.take m):=by
 unfold places;exact List.mem_map.2 ⟨o,mO (i:=i) (by rw[List.getElem?_take_of_lt a];exact h),rfl⟩
theorem Qtx{hs:List H3}{m:Nat}{h:H3}(c:∀(t:Nat) (x:H3),t<m->hs[t]?=some x->¬(x.j=h.j/\x.w=h.w)):(h.j,h.w) ∉ places (hs.take m):=by
 intro b;unfold places at b;obtain⟨x,d,e⟩:=List.mem_map.1 b;obtain⟨t,a⟩:=List.getElem?_of_mem d;have hl:=(gZ a).1;rw[List.length_take] at hl;rw[List.getElem?_take_of_lt (by omega)] at a;simp only[Prod.mk.injEq] at e;exact c t x (by omega) a e
theorem Qaj{X Y:Vz}{g h:Nat}{t:Vr}{a b c d:Value}(k:SB X g t #[a,b])(l:SB X h t #[c,d])(e:Bl X Y):Y.cell? ⟨g,0,none⟩=some a/\Y.cell? ⟨g,1,none⟩=some b/\Y.cell? ⟨h,0,none⟩=some c/\Y.cell? ⟨h,1,none⟩=some d:=
 ⟨(k.below e k.lt).cell 0,(k.below e k.lt).cell 1,(l.below e l.lt).cell 0,(l.below e l.lt).cell 1⟩
theorem Qen{X Y:Vz}{g:Nat}{t:Vr}{a b c d e f:Value}(k:SB X g t #[a,b,c,d,e,f])(h:Bl X Y):Y.cell? ⟨g,2,none⟩=some c/\Y.cell? ⟨g,4,none⟩=some e/\Y.cell? ⟨g,5,none⟩=some f:=
 ⟨(k.below h k.lt).cell 2,(k.below h k.lt).cell 4,(k.below h k.lt).cell 5⟩
theorem Qty(a1 a2 a3:Vx)(c1 c2 c3:Nat)(A:List S2)(K:List B6)(hs:List H3)(w:Vz)(hg:Glob w)(hf:FrRow w a1 a2 a3 c1 c2 c3 A K hs)(hz:FrSized A K hs)(hm:¬Many A.length K.length hs.length):
 Calls prog 7 #[.agg #[.slice a1 A.length c1,.slice a2 K.length c2,.slice a3 hs.length c3]] w fun e w'=>∃c a6,e=.returned (.agg #[.int .i64 c,.int .i64 a6])/\FrameFault A K hs c a6/\Below w.heap.size w w':=by
 have n0:=Nat.le_of_not_lt fun h=>hm (.inl h)
 have n1:=Nat.le_of_not_lt fun h=>hm (.inr (.inl h))
 have n2:=Nat.le_of_not_lt fun h=>hm (.inr (.inr (.inl h)))
 have n3:=Nat.le_of_not_lt fun h=>hm (.inr (.inr (.inr h)))
 have Y:=Hi hm;have q1:((A.length:Int) == 0)=false:=by rw[beq_eq_false_iff_ne];omega
 have q2:¬((10:Int)<(A.length:Int)):=by omega
 have q3:¬((24:Int)<(K.length:Int)):=by omega
 have q4:¬((20:Int)<(hs.length:Int)):=by omega
 clear hm;obtain⟨HG,HF,HZ⟩:=Ib hg hf hz;clear hg hf hz;go_enter func7,ntmps7;obtain⟨W,hW⟩:=nm ((w.alloc (.cells #[.slice a1 A.length c1,.slice a2 K.length c2,.slice a3 hs.length c3] 26)).alloc (.cells #[.int .i64 0,.int .i64 0] 31));have z:=Ub hW;have M:=Ud hW;have I:=Ue hW;have a7:O (Bl W W):=Hi bR;have F:=M.o.below a7.o M.o.lt;have hy:=I.o.below a7.o I.o.lt;obtain⟨x0,x1,-⟩:=zc F
 obtain⟨-,-,x2,-⟩:=zc F;obtain⟨z0,z1,-⟩:=zc hy;have f0:=hy.free 0;have f1:=hy.free 1;clear F hy;rw[<-hW] at x0 x1 x2 z0 z1 f0 f1;have HW:=Hi hW;clear hW;go_wp2_with fail;rw[HW.o];clear x0 x1 x2 z0 z1 f0 f1 q1 q2 q3 q4;go_loopw [38] (fun iv wr=>∃k:Nat,k<=K.length/\iv=.int .i64 k/\(∀(i:Nat) (x:B6),i<k->K[i]?=some x->BarCode A x 0)/\Below W.heap.size W wr) (fun iv _=>K.length - (intOf iv).toNat)
 case atStart=>exact⟨0,by omega,rfl,fun i x hi=>by omega,Below.refl _ _⟩
 case round=>
  obtain⟨k,hk,rfl,al,hb⟩:=hrel;obtain⟨J,HB,b3⟩:=Ib al hb (z.o.trans (hb.mono z.o.size));clear al hb;by_cases b4:k<K.length
  .
   obtain⟨f,am⟩:∃f,K[k]?=some f:=⟨K[k],gE b4⟩;obtain⟨fb,b5,rfl,b6,d0,d1,d2,d3,d4,d5⟩:=(HF.o.b.below b3.o).bar am;have ad:=Hi am;have q5:((k:Int)<(K.length:Int)):=by omega
   obtain⟨V,hV⟩:=nm (wr.alloc (.cells #[.int .i64 f.a,.int .i64 f.b,.string f.c,.string f.e,.string f.l,.string f.m] 80));have C:O (Bl W V):=Hi (by rw[<-hV];exact HB.o.alloc HB.o.size _);have T:=Uc hV;have HV:=Hi hV;clear am hV;by_cases gg:f.a<0∨f.b<0∨(A.length:Int)<=f.a∨(A.length:Int)<=f.b
   .
    have b7:O (¬(IsJ A.length f.a/\IsJ A.length f.b)):=Hi (fun h=>by unfold IsJ at h;omega);rcases(show f.a<0∨¬f.a<0/\f.b<0∨¬f.a<0/\¬f.b<0/\(A.length:Int)<=f.a∨¬f.a<0/\¬f.b<0/\¬(A.length:Int)<=f.a/\(A.length:Int)<=f.b by omega) with g1|⟨g1,g2⟩|⟨g1,g2,g3⟩|⟨g1,g2,g3,g4⟩
    all_goals
     clear gg;go_wp2_with fail;rw[HV.o];clear d0 d1 d2 d3 d4 d5;go_fit (ref_F 4 (k:Int) V);rintro e w9 ⟨rfl,G⟩;have H:=Hi (C.o.trans (G.mono C.o.size));have r:=Hi (I.o.below H.o I.o.lt);obtain⟨z0,z1,-⟩:=zc r.o;have f0:=r.o.free 0;have f1:=r.o.free 1;clear G;go_wp2;refine bodyPost_ret (v:=.agg #[.int .i64 4,.int .i64 (k:Int)]) (results_cell_row rfl _ _ (w.heap.size+1) 31 #[.int .i64 4,.int .i64 (k:Int)] (0,0) _ rfl ((r.o.set 0 _).set 1 _) underlying31 rfl Tryz.faultInfo) rfl ?_;exact⟨_,_,rfl,Or.inr (Or.inl ⟨Y.o,k,f,ad.o,J.o,Or.inl ⟨b7.o,rfl⟩,by decide,rfl⟩),((z.o.trans (H.o.mono z.o.size)).setCell (Nat.le_succ _) _).setCell (Nat.le_succ _) _⟩
   obtain⟨g1,g2,g3,g4⟩:¬f.a<0/\¬f.b<0/\¬(A.length:Int)<=f.a/\¬(A.length:Int)<=f.b:=by omega
   clear gg;have ah:IsJ A.length f.a:=⟨by omega,by omega⟩;have a8:IsJ A.length f.b:=⟨by omega,by omega⟩;obtain⟨an,ao⟩:=Ia ah a8;clear ah a8;obtain⟨ka,a9⟩:=Int.eq_ofNat_of_zero_le an.o.1;obtain⟨kb,ba⟩:=Int.eq_ofNat_of_zero_le ao.o.1;obtain⟨p,hp⟩:∃p,A[ka]?=some p:=⟨_,gE (by have:=an.o.2;omega)⟩;obtain⟨q,u⟩:∃q,A[kb]?=some q:=⟨_,gE (by have:=ao.o.2;omega)⟩;obtain⟨ap,aq,HP,HQ⟩:=Ic a9 ba hp u;clear a9 ba hp u;go_wp2_with fail;rw[HV.o,ap.o,aq.o];clear d0 d1 d2 d3 d4 d5;obtain⟨jb,jo,ah,cj,d0,d1⟩:=((HF.o.j.below z.o).below C.o).spot HP.o;obtain⟨ck,cl,bb,cg,d2,d3⟩:=((HF.o.j.below z.o).below C.o).spot HQ.o;subst ah;cases bb;have F:=M.o.below C.o M.o.lt
   obtain⟨x0,-⟩:=zc F;have y0:V.cell? ⟨wr.heap.size,0,none⟩=some (.int .i64 (ka:Int)):=by rw[<-ap.o];exact T.o.cell 0
   have y1:V.cell? ⟨wr.heap.size,1,none⟩=some (.int .i64 (kb:Int)):=by rw[<-aq.o];exact T.o.cell 1
   have i1:((0:Int)<=(ka:Int)):=by omega
   have i2:((0:Int)<=(kb:Int)):=by omega
   have i3:((ka:Int)<(A.length:Int)):=by have:=(gZ HP.o).1;omega
   have i4:((kb:Int)<(A.length:Int)):=by have:=(gZ HQ.o).1;omega
   have l0:=M.o.lt;have l1:=C.o.size;have l2:=T.o.lt;have m1:V.heap.size≠w.heap.size:=by omega
   have m2:V.heap.size≠wr.heap.size:=by omega
   have m3:V.heap.size≠jb:=by omega
   have m4:V.heap.size+1≠w.heap.size:=by omega
   have m5:V.heap.size+1≠wr.heap.size:=by omega
   have m6:V.heap.size+1≠jb:=by omega
   clear F;go_cut [6,7] (fun s6 s7 wx=>∃g6 g7:Nat,s6=.pointer (some ⟨g6,0,none⟩)/\s7=.pointer (some ⟨g7,0,none⟩)/\SB wx g6 56 #[.string p.x,.string p.y]/\SB wx g7 56 #[.string q.x,.string q.y]/\Below V.heap.size V wx)
   case first=>
    go_region_held3 (fun v=>v.cell? ⟨w.heap.size,0,none⟩=some (.slice (some ⟨jb,jo,none⟩) A.length c1)/\v.cell? ⟨wr.heap.size,0,none⟩=some (.int .i64 (ka:Int))/\v.cell? ⟨wr.heap.size,1,none⟩=some (.int .i64 (kb:Int))/\v.cell? ⟨jb,jo+ka*2,none⟩=some (.string p.x)/\v.cell? ⟨jb,jo+ka*2+1,none⟩=some (.string p.y)/\v.cell? ⟨jb,jo+kb*2,none⟩=some (.string q.x)/\v.cell? ⟨jb,jo+kb*2+1,none⟩=some (.string q.y)) ((first|(simp [*];done)|go_keep)) (fail)
    all_goals
     go_wp2_with fail;go_meet
     case rel=>
      first
       |exact⟨_,_,rfl,rfl,SB.drew ((SB.new V _ _).alloc _),SB.drew (SB.new2 V _ _ _ _),(Below.new2 V _ _).drew⟩
       |exact⟨_,_,rfl,rfl,SB.drew (SB.new2 V _ _ _ _),SB.drew ((SB.new V _ _).alloc _),(Below.new2 V _ _).drew⟩
   case rest=>
    obtain⟨g6,g7,rfl,rfl,bc,bd,ar⟩:=hcut;obtain⟨wx,rfl⟩:∃wx,wx=wc:=⟨wc,rfl⟩;obtain⟨D,E,be,au⟩:=Ic bc bd (T.o.below ar T.o.lt) (C.o.trans (ar.mono C.o.size));have g:=Hi (RBag.start ((HG.o.below z.o).below au.o).most);obtain⟨px,bf⟩:=QOf.ex p.x.data.toList;obtain⟨py,bg⟩:=QOf.ex p.y.data.toList;obtain⟨qx,bh⟩:=QOf.ex q.x.data.toList;obtain⟨qy,bi⟩:=QOf.ex q.y.data.toList;obtain⟨vc,bj⟩:=QOf.ex f.c.data.toList;obtain⟨vl,bk⟩:=QOf.ex f.l.data.toList;obtain⟨vm,bl⟩:=QOf.ex f.m.data.toList;obtain⟨Q1,Q2,Q3,Q4,Q5,Q6,Q7,Z1,Z2⟩:=Ih bf bg bh bi bj bk bl (HZ.o.j p (mO HP.o)) (HZ.o.j q (mO HQ.o));have Z3:=Hi (HZ.o.b f (mO ad.o))
    have bm:O (∀c,c=(if px=qx/\py=qy then 5 else if sgn3 vc.num<=0∨0<sgn3 vl.num∨sgn3 vm.num<0 then 5 else 0)->BarCode A f c):=Hi (fun c hc=>.inr ⟨an.o,ao.o,p,q,by rw[ap.o];exact HP.o,by rw[aq.o];exact HQ.o,px,py,qx,qy,vc,vl,vm,Q1.o,Q2.o,Q3.o,Q4.o,Q5.o,Q6.o,Q7.o,hc⟩);clear bc bd ar bf bg bh bi bj bk bl x0 y0 y1 d0 d1 d2 d3 i1 i2 i3 i4 l0 l1 l2 m1 m2 m3 m4 m5 m6;obtain⟨N,P,Q,R⟩:=Qaj D.o E.o g.o.base;go_wp2_with fail;go_cut [94] (fun s wy=>s=.bool (decide (px=qx/\py=qy))/\Below wx.heap.size wx wy)
    case first=>
     by_cases S:px=qx
     .
      by_cases e2:py=qy
      .
       obtain⟨ae,av,af⟩:=Ib S e2 (decide_eq_true (show px=qx/\py=qy from ⟨S,e2⟩));clear S e2;go_region_held3 (fun v=>v.cell? ⟨g6,0,none⟩=some (.string p.x)/\v.cell? ⟨g6,1,none⟩=some (.string p.y)/\v.cell? ⟨g7,0,none⟩=some (.string q.x)/\v.cell? ⟨g7,1,none⟩=some (.string q.y)) ((first|(simp [*];done)|go_keep)) (first
        |
         (go_at_call_of 33 (Value.string p.x)
          apply cM;apply RBag.of (w0:=wx) (n:=1048576);(focus(first|exact g.o|exact g.o.drew));exact Z1.o.1;decide;rintro e L ⟨qq,u,bq,rfl,d⟩;obtain rfl:=Q1.o.inj u;clear g;have g:=Hi d;clear u d;obtain⟨N,P,Q,R⟩:=Qaj D.o E.o g.o.base
          skip)
        |
         (go_at_call_of 33 (Value.string p.y)
          apply cM;apply RBag.of (w0:=wx) (n:=1048576);(focus(first|exact g.o|exact g.o.drew));exact Z1.o.2;decide;rintro e L ⟨qq,u,bq,rfl,d⟩;obtain rfl:=Q2.o.inj u;clear g;have g:=Hi d;clear u d;obtain⟨N,P,Q,R⟩:=Qaj D.o E.o g.o.base
          skip)
        |
         (go_at_call_of 33 (Value.string q.x)
          apply cM;apply RBag.of (w0:=wx) (n:=1048576);(focus(first|exact g.o|exact g.o.drew));exact Z2.o.1;decide;rintro e L ⟨qq,u,bq,rfl,d⟩;obtain rfl:=Q3.o.inj u;clear g;have g:=Hi d;clear u d;obtain⟨N,P,Q,R⟩:=Qaj D.o E.o g.o.base
          skip)
        |
         (go_at_call_of 33 (Value.string q.y)
          apply cM;apply RBag.of (w0:=wx) (n:=1048576);(focus(first|exact g.o|exact g.o.drew));exact Z2.o.2;decide;rintro e L ⟨qq,u,bq,rfl,d⟩;obtain rfl:=Q4.o.inj u;clear g;have g:=Hi d;clear u d;obtain⟨N,P,Q,R⟩:=Qaj D.o E.o g.o.base
          skip)
        |
         (go_at_call 34
          apply cM;apply RBag.cmpT (w0:=wx);(focus(first|exact g.o|exact g.o.drew));(repeat(first|exact mH|apply mT));decide;exact ae.o;rintro e L ⟨rfl,d⟩;clear g;have g:=Hi d;clear d;obtain⟨N,P,Q,R⟩:=Qaj D.o E.o g.o.base
          skip)
        |
         (go_at_call 34
          apply cM;apply RBag.cmpT (w0:=wx);(focus(first|exact g.o|exact g.o.drew));(repeat(first|exact mH|apply mT));decide;exact av.o;rintro e L ⟨rfl,d⟩;clear g;have g:=Hi d;clear d;obtain⟨N,P,Q,R⟩:=Qaj D.o E.o g.o.base
          skip)
        )
       all_goals
        go_wp2_with fail;go_meet
        case rel=>exact⟨by simp[af.o, *],g.o.base⟩
        skip
      .
       obtain⟨ae,av,af⟩:=Ib S e2 (decide_eq_false (show ¬(px=qx/\py=qy) from fun h=>e2 h.2));clear S e2;go_region_held3 (fun v=>v.cell? ⟨g6,0,none⟩=some (.string p.x)/\v.cell? ⟨g6,1,none⟩=some (.string p.y)/\v.cell? ⟨g7,0,none⟩=some (.string q.x)/\v.cell? ⟨g7,1,none⟩=some (.string q.y)) ((first|(simp [*];done)|go_keep)) (first
        |
         (go_at_call_of 33 (Value.string p.x)
          apply cM;apply RBag.of (w0:=wx) (n:=1048576);(focus(first|exact g.o|exact g.o.drew));exact Z1.o.1;decide;rintro e L ⟨qq,u,bq,rfl,d⟩;obtain rfl:=Q1.o.inj u;clear g;have g:=Hi d;clear u d;obtain⟨N,P,Q,R⟩:=Qaj D.o E.o g.o.base
          skip)
        |
         (go_at_call_of 33 (Value.string p.y)
          apply cM;apply RBag.of (w0:=wx) (n:=1048576);(focus(first|exact g.o|exact g.o.drew));exact Z1.o.2;decide;rintro e L ⟨qq,u,bq,rfl,d⟩;obtain rfl:=Q2.o.inj u;clear g;have g:=Hi d;clear u d;obtain⟨N,P,Q,R⟩:=Qaj D.o E.o g.o.base
          skip)
        |
         (go_at_call_of 33 (Value.string q.x)
          apply cM;apply RBag.of (w0:=wx) (n:=1048576);(focus(first|exact g.o|exact g.o.drew));exact Z2.o.1;decide;rintro e L ⟨qq,u,bq,rfl,d⟩;obtain rfl:=Q3.o.inj u;clear g;have g:=Hi d;clear u d;obtain⟨N,P,Q,R⟩:=Qaj D.o E.o g.o.base
          skip)
        |
         (go_at_call_of 33 (Value.string q.y)
          apply cM;apply RBag.of (w0:=wx) (n:=1048576);(focus(first|exact g.o|exact g.o.drew));exact Z2.o.2;decide;rintro e L ⟨qq,u,bq,rfl,d⟩;obtain rfl:=Q4.o.inj u;clear g;have g:=Hi d;clear u d;obtain⟨N,P,Q,R⟩:=Qaj D.o E.o g.o.base
          skip)
        |
         (go_at_call 34
          apply cM;apply RBag.cmpT (w0:=wx);(focus(first|exact g.o|exact g.o.drew));(repeat(first|exact mH|apply mT));decide;exact ae.o;rintro e L ⟨rfl,d⟩;clear g;have g:=Hi d;clear d;obtain⟨N,P,Q,R⟩:=Qaj D.o E.o g.o.base
          skip)
        |
         (go_at_call 34
          apply cM;apply RBag.cmpF (w0:=wx);(focus(first|exact g.o|exact g.o.drew));(repeat(first|exact mH|apply mT));decide;exact av.o;rintro e L ⟨⟨cc,rfl,b8⟩,d⟩;clear g;have g:=Hi d;clear d;obtain⟨N,P,Q,R⟩:=Qaj D.o E.o g.o.base
          skip)
        )
       all_goals
        go_wp2_with fail;go_meet
        case rel=>exact⟨by simp[af.o, *],g.o.base⟩
        skip
     .
      obtain⟨ae,af⟩:=Ia S (decide_eq_false (show ¬(px=qx/\py=qy) from fun h=>S h.1));clear S
      first
       |(
        go_region_with (first
         |
          (go_at_call_of 33 (Value.string p.x)
           apply cM;apply RBag.of (w0:=wx) (n:=1048576);(focus(first|exact g.o|exact g.o.drew));exact Z1.o.1;decide;rintro e L ⟨qq,u,bq,rfl,d⟩;obtain rfl:=Q1.o.inj u;clear g;have g:=Hi d;clear u d;obtain⟨N,P,Q,R⟩:=Qaj D.o E.o g.o.base
           skip)
         |
          (go_at_call_of 33 (Value.string p.y)
           apply cM;apply RBag.of (w0:=wx) (n:=1048576);(focus(first|exact g.o|exact g.o.drew));exact Z1.o.2;decide;rintro e L ⟨qq,u,bq,rfl,d⟩;obtain rfl:=Q2.o.inj u;clear g;have g:=Hi d;clear u d;obtain⟨N,P,Q,R⟩:=Qaj D.o E.o g.o.base
           skip)
         |
          (go_at_call_of 33 (Value.string q.x)
           apply cM;apply RBag.of (w0:=wx) (n:=1048576);(focus(first|exact g.o|exact g.o.drew));exact Z2.o.1;decide;rintro e L ⟨qq,u,bq,rfl,d⟩;obtain rfl:=Q3.o.inj u;clear g;have g:=Hi d;clear u d;obtain⟨N,P,Q,R⟩:=Qaj D.o E.o g.o.base
           skip)
         |
          (go_at_call_of 33 (Value.string q.y)
           apply cM;apply RBag.of (w0:=wx) (n:=1048576);(focus(first|exact g.o|exact g.o.drew));exact Z2.o.2;decide;rintro e L ⟨qq,u,bq,rfl,d⟩;obtain rfl:=Q4.o.inj u;clear g;have g:=Hi d;clear u d;obtain⟨N,P,Q,R⟩:=Qaj D.o E.o g.o.base
           skip)
         |
          (go_at_call 34
           apply cM;apply RBag.cmpF (w0:=wx);(focus(first|exact g.o|exact g.o.drew));(repeat(first|exact mH|apply mT));decide;exact ae.o;rintro e L ⟨⟨cc,rfl,b8⟩,d⟩;clear g;have g:=Hi d;clear d;obtain⟨N,P,Q,R⟩:=Qaj D.o E.o g.o.base
           skip)
         ))
       |fail
      all_goals
       go_wp2_with fail;go_meet
       case rel=>exact⟨by simp[af.o, *],g.o.base⟩
       skip
    case rest=>
     obtain⟨rfl,aw⟩:=hcut;obtain⟨Z,ai⟩:=Ia (au.o.trans (aw.mono au.o.size)) (be.o.below aw be.o.lt);clear aw N P Q R;by_cases S:px=qx/\py=qy
     .
      have aa:=Hi (bm.o 5 (by rw[if_pos S]));rw[decide_eq_true S];clear S;go_wp2_with fail;go_fit (ref_F 5 (k:Int) wc);rintro e w9 ⟨rfl,G⟩;have H:=Hi (Z.o.trans (G.mono Z.o.size));have r:=Hi (I.o.below H.o I.o.lt);obtain⟨z0,z1,-⟩:=zc r.o;have f0:=r.o.free 0;have f1:=r.o.free 1;clear G;go_wp2;refine bodyPost_ret (v:=.agg #[.int .i64 5,.int .i64 (k:Int)]) (results_cell_row rfl _ _ (w.heap.size+1) 31 #[.int .i64 5,.int .i64 (k:Int)] (0,0) _ rfl ((r.o.set 0 _).set 1 _) underlying31 rfl Tryz.faultInfo) rfl ?_;exact⟨_,_,rfl,Or.inr (Or.inl ⟨Y.o,k,f,ad.o,J.o,aa.o,by decide,rfl⟩),((z.o.trans (H.o.mono z.o.size)).setCell (Nat.le_succ _) _).setCell (Nat.le_succ _) _⟩
     .
      rw[decide_eq_false S];obtain⟨sc,ax⟩:=nm (sgn3 vc.num);obtain⟨sl,ay⟩:=nm (sgn3 vl.num);obtain⟨sm,az⟩:=nm (sgn3 vm.num);obtain⟨a0,SC,SL,SM⟩:=Ic (fun c hc=>bm.o c (by rw[if_neg S,ax,ay,az];exact hc)) ax ay az;clear ax ay az S;have B:=Hi (RBag.start ((HG.o.below z.o).below Z.o).most);obtain⟨r4,r5,r6⟩:=Qen ai.o B.o.base;have gg:sc<=0/\O (BarCode A f 5)∨¬sc<=0/\0<sl/\O (BarCode A f 5)∨¬sc<=0/\¬0<sl/\sm<0/\O (BarCode A f 5)∨¬sc<=0/\¬0<sl/\¬sm<0/\O (BarCode A f 0):=by
       have y:=fun h=>Hi (a0.o 5 (by rw[if_pos h]))
       by_cases s1:sc<=0
       . exact .inl ⟨s1,y (.inl s1)⟩
       by_cases s2:0<sl
       . exact .inr (.inl ⟨s1,s2,y (.inr (.inl s2))⟩)
       by_cases s3:sm<0
       . exact .inr (.inr (.inl ⟨s1,s2,s3,y (.inr (.inr s3))⟩))
       exact .inr (.inr (.inr ⟨s1,s2,s3,Hi (a0.o 0 (by rw[if_neg (by omega)]))⟩))
      clear a0;rcases gg with ⟨s1,aa⟩|⟨s1,s2,aa⟩|⟨s1,s2,s3,aa⟩|⟨s1,s2,s3,aa⟩
      all_goals
       go_wp2_with (first
        |
         (go_at_call_of 33 (Value.string f.c)
          apply cM;apply RBag.of (w0:=wc) (n:=1048576);(focus(first|exact B.o|exact B.o.drew));exact Z3.o.1;decide;rintro e L ⟨qq,u,bq,rfl,d⟩;obtain rfl:=Q5.o.inj u;clear B;have B:=Hi d;clear u d;obtain⟨r4,r5,r6⟩:=Qen ai.o B.o.base
          skip)
        |
         (go_at_call_of 33 (Value.string f.l)
          apply cM;apply RBag.of (w0:=wc) (n:=1048576);(focus(first|exact B.o|exact B.o.drew));exact Z3.o.2.2.1;decide;rintro e L ⟨qq,u,bq,rfl,d⟩;obtain rfl:=Q6.o.inj u;clear B;have B:=Hi d;clear u d;obtain⟨r4,r5,r6⟩:=Qen ai.o B.o.base
          skip)
        |
         (go_at_call_of 33 (Value.string f.m)
          apply cM;apply RBag.of (w0:=wc) (n:=1048576);(focus(first|exact B.o|exact B.o.drew));exact Z3.o.2.2.2;decide;rintro e L ⟨qq,u,bq,rfl,d⟩;obtain rfl:=Q7.o.inj u;clear B;have B:=Hi d;clear u d;obtain⟨r4,r5,r6⟩:=Qen ai.o B.o.base
          skip)
        |
         (go_at_call 35
          apply cM;apply RBag.sign (w0:=wc);(focus(first|exact B.o|exact B.o.drew));(repeat(first|exact mH|apply mT));rintro e L ⟨rfl,rfl⟩
          (first|rw[SC.o]|rw[SL.o]|rw[SM.o]))
        |fail)
       first
        |(
         have HN:=Hi (Z.o.trans (B.o.base.mono Z.o.size));go_fit (ref_F 5 (k:Int) _);rintro e w9 ⟨rfl,G⟩;have H:=Hi (HN.o.trans (G.mono HN.o.size));have r:=Hi (I.o.below H.o I.o.lt);obtain⟨z0,z1,-⟩:=zc r.o;have f0:=r.o.free 0;have f1:=r.o.free 1;clear G;go_wp2;refine bodyPost_ret (v:=.agg #[.int .i64 5,.int .i64 (k:Int)]) (results_cell_row rfl _ _ (w.heap.size+1) 31 #[.int .i64 5,.int .i64 (k:Int)] (0,0) _ rfl ((r.o.set 0 _).set 1 _) underlying31 rfl Tryz.faultInfo) rfl ?_;exact⟨_,_,rfl,Or.inr (Or.inl ⟨Y.o,k,f,ad.o,J.o,aa.o,by decide,rfl⟩),((z.o.trans (H.o.mono z.o.size)).setCell (Nat.le_succ _) _).setCell (Nat.le_succ _) _⟩
         skip)
        |(
         go_roundw
         case rel=>
          refine⟨k+1,by omega,by go_num,?_,Z.o.trans (B.o.base.mono Z.o.size)⟩;intro i x hi F;rcases Nat.lt_or_ge i k with h|h
          . exact J.o i x h F
          .
           obtain rfl:i=k:=by omega
           obtain rfl:=Option.some.inj (ad.o.symm.trans F);exact aa.o
         case measure=>simp[intOf];omega)
  .
   have b9:k=K.length:=by omega
   subst b9;have F:=M.o.below HB.o M.o.lt;obtain⟨-,-,x2,-⟩:=zc F;clear F;go_wp2_with fail;clear x2;obtain⟨wq,rfl⟩:∃wq,wq=wr:=⟨wr,rfl⟩;go_loopw [122] (fun iv wr=>∃m:Nat,m<=hs.length/\iv=.int .i64 m/\(∀(i:Nat) (x:H3),i<m->hs[i]?=some x->holdAt A.length hs i x=0)/\Below W.heap.size W wr) (fun iv _=>hs.length - (intOf iv).toNat)
   case atStart=>exact⟨0,by omega,rfl,fun i x hi=>by omega,HB.o⟩
   case round=>
    obtain⟨m,hm,rfl,bn,hb⟩:=hrel;obtain⟨ag,HC,bo⟩:=Ib bn hb (z.o.trans (hb.mono z.o.size));clear bn hb;by_cases ca:m<hs.length
    .
     obtain⟨h,a4⟩:∃h,hs[m]?=some h:=⟨hs[m],gE ca⟩;obtain⟨fb,b5,bp,b6,d0,d1,d2⟩:=(HF.o.h.below bo.o).hold a4;obtain⟨cm,aj⟩:=Ia bp a4;have q5:((m:Int)<(hs.length:Int)):=by omega
     subst bp;obtain⟨V,hV⟩:=nm (wr.alloc (.cells #[.int .i64 h.j,.int .i64 h.w,.string h.q] 83));have C:O (Bl W V):=Hi (by rw[<-hV];exact HC.o.alloc HC.o.size _);have T:=Uc hV;have F:=M.o.below C.o M.o.lt;obtain⟨-,x1,x2,-⟩:=zc F;rw[<-hV] at x1 x2;have HV:=Hi hV;clear a4 hV F;by_cases gg:h.j<0∨(A.length:Int)<=h.j
     .
      have ab:O (holdAt A.length hs m h=4):=Hi (by unfold holdAt holdC;rw[if_neg (by omega)]);rcases(show h.j<0∨¬h.j<0/\(A.length:Int)<=h.j by omega) with g1|⟨g1,g2⟩
      all_goals
       clear gg;go_wp2_with fail;rw[HV.o];clear x1 x2 d0 d1 d2;go_fit (ref_F 4 ((K.length:Int)+(m:Int)) V);rintro e w9 ⟨rfl,G⟩;have H:=Hi (C.o.trans (G.mono C.o.size));have r:=Hi (I.o.below H.o I.o.lt);obtain⟨z0,z1,-⟩:=zc r.o;have f0:=r.o.free 0;have f1:=r.o.free 1;clear G;go_wp2;refine bodyPost_ret (v:=.agg #[.int .i64 4,.int .i64 ((K.length:Int)+(m:Int))]) (results_cell_row rfl _ _ (w.heap.size+1) 31 #[.int .i64 4,.int .i64 ((K.length:Int)+(m:Int))] (0,0) _ rfl ((r.o.set 0 _).set 1 _) underlying31 rfl Tryz.faultInfo) rfl ?_
       exact⟨_,_,rfl,Or.inr (Or.inr ⟨Y.o,fun i x F=>J.o i x (gZ F).1 F,Or.inl ⟨m,h,aj.o,ag.o,ab.o,by decide,rfl⟩⟩),((z.o.trans (H.o.mono z.o.size)).setCell (Nat.le_succ _) _).setCell (Nat.le_succ _) _⟩
     obtain⟨g1,g2⟩:¬h.j<0/\¬(A.length:Int)<=h.j:=by omega
     clear gg;have q6:((m:Int)<=(c3:Int)):=by have:=HF.o.h.fit;omega
     by_cases g3:h.w=1∨h.w=2
     .
      have br:O (∀tw,holdAt A.length hs m h=holdC A.length h.j h.w tw->tw=decide ((h.j,h.w)∈ places (hs.take m))->holdAt A.length hs m h=if tw=true then 7 else 0):=Hi (fun tw e et=>by rw[e];unfold holdC;rw[if_pos (by omega),if_neg (by omega)]);have gg:(h.w != 1)=false∨(h.w != 1)=true/\(h.w != 2)=false:=by
       by_cases g4:h.w=1
       . exact .inl (by rw[bne_eq_false_iff_eq];exact g4)
       . exact .inr ⟨by rw[bne_iff_ne];exact g4,by rw[bne_eq_false_iff_eq];omega⟩
      rcases gg with S|⟨S,e2⟩
      all_goals
       clear g3;go_wp2_with fail;rw[HV.o];clear x1 x2 d0 d1 d2;obtain⟨wv,rfl⟩:∃wv,wv=wr:=⟨wr,rfl⟩;go_loopw [158] (fun iv wr=>∃i:Nat,i<=m/\iv=.int .i64 i/\(∀(t:Nat) (x:H3),t<i->hs[t]?=some x->¬(x.j=h.j/\x.w=h.w))/\Below V.heap.size V wr) (fun iv _=>m - (intOf iv).toNat)
       case atStart=>exact⟨0,by omega,rfl,fun t x ht=>by omega,Below.refl _ _⟩
       case round=>
        obtain⟨i,hi,rfl,bt,hb⟩:=hrel;obtain⟨bu,HD,bv⟩:=Ib bt hb (C.o.trans (hb.mono C.o.size));clear bt hb;by_cases cb:i<m
        .
         obtain⟨o,a5⟩:∃o,hs[i]?=some o:=⟨hs[i],gE (by omega)⟩;obtain⟨cn,ch,bw,ci,d0,d1,d2⟩:=((HF.o.h.below z.o).below bv.o).hold a5;cases bw;have bx:=Hi a5;obtain⟨U,hU⟩:=nm (wr.alloc (.cells #[.int .i64 o.j,.int .i64 o.w,.string o.q] 83));have ak:Bl V U:=by rw[<-hU];exact HD.o.alloc HD.o.size _
         obtain⟨bz,b0⟩:=Ia (C.o.trans (ak.mono C.o.size)) ak;obtain⟨v0,v1,-⟩:=zc (T.o.below ak T.o.lt);rw[<-hU] at v0 v1;have HU:=Hi hU;have q7:((i:Int)<(m:Int)):=by omega
         clear a5 hU ak;by_cases e3:o.j=h.j/\o.w=h.w
         .
          have b1:(o.j == h.j)=true:=by rw[beq_iff_eq];exact e3.1
          have b2:(o.w == h.w)=true:=by rw[beq_iff_eq];exact e3.2
          have ab:O (holdAt A.length hs m h=7):=Hi (by
           have X:(h.j,h.w)∈ places (hs.take m):=by
            rw[<-e3.1,<-e3.2];exact Qtw bx.o cb
           rw[br.o true (by unfold holdAt;rw[decide_eq_true X]) (decide_eq_true X).symm,if_pos rfl])
          clear e3;go_wp2_with fail;rw[HU.o];clear v0 v1 d0 d1 d2;go_fit (ref_F 7 ((K.length:Int)+(m:Int)) U);rintro e w9 ⟨rfl,G⟩;have H:=Hi (bz.o.trans (G.mono bz.o.size));have r:=Hi (I.o.below H.o I.o.lt);obtain⟨z0,z1,-⟩:=zc r.o;have f0:=r.o.free 0;have f1:=r.o.free 1;clear G;go_wp2;refine bodyPost_ret (v:=.agg #[.int .i64 7,.int .i64 ((K.length:Int)+(m:Int))]) (results_cell_row rfl _ _ (w.heap.size+1) 31 #[.int .i64 7,.int .i64 ((K.length:Int)+(m:Int))] (0,0) _ rfl ((r.o.set 0 _).set 1 _) underlying31 rfl Tryz.faultInfo) rfl ?_
          exact⟨_,_,rfl,Or.inr (Or.inr ⟨Y.o,fun i x F=>J.o i x (gZ F).1 F,Or.inl ⟨m,h,aj.o,ag.o,ab.o,by decide,rfl⟩⟩),((z.o.trans (H.o.mono z.o.size)).setCell (Nat.le_succ _) _).setCell (Nat.le_succ _) _⟩
         .
          have cd:=Hi e3;have gg:(o.j == h.j)=false∨(o.j == h.j)=true/\(o.w == h.w)=false:=by
           by_cases e4:o.j=h.j
           . exact .inr ⟨by rw[beq_iff_eq];exact e4,by rw[beq_eq_false_iff_ne];exact fun h=>e3 ⟨e4,h⟩⟩
           . exact .inl (by rw[beq_eq_false_iff_ne];exact e4)
          clear e3;rcases gg with b1|⟨b1,b2⟩
          all_goals
           go_wp2;go_roundw
           case rel=>
            refine⟨i+1,by omega,by go_num,?_,by rw[HU.o];exact b0.o⟩;intro t x ht F;rcases Nat.lt_or_ge t i with h'|h'
            . exact bu.o t x h' F
            .
             obtain rfl:t=i:=by omega
             obtain rfl:=Option.some.inj (bx.o.symm.trans F);exact cd.o
           case measure=>simp[intOf];omega
           skip
        .
         have ce:i=m:=by omega
         subst ce;have ab:O (holdAt A.length hs i h=0):=Hi (by
          have X:=Qtx bu.o
          rw[br.o false (by unfold holdAt;rw[decide_eq_false X]) (decide_eq_false X).symm,if_neg (by simp)])
         go_wp2;go_roundw
         case rel=>
          refine⟨i+1,by omega,by go_num,?_,bv.o⟩;intro t x ht F;rcases Nat.lt_or_ge t i with h'|h'
          . exact ag.o t x h' F
          .
           obtain rfl:t=i:=by omega
           obtain rfl:=Option.some.inj (aj.o.symm.trans F);exact ab.o
         case measure=>simp[intOf];omega
       skip
     .
      have ab:O (holdAt A.length hs m h=3):=Hi (by unfold holdAt holdC;rw[if_pos (by omega),if_pos (by omega)]);have S:(h.w != 1)=true:=by rw[bne_iff_ne];omega
      have e2:(h.w != 2)=true:=by rw[bne_iff_ne];omega
      clear g3;go_wp2_with fail;rw[HV.o];clear x1 x2 d0 d1 d2;go_fit (ref_F 3 ((K.length:Int)+(m:Int)) V);rintro e w9 ⟨rfl,G⟩;have H:=Hi (C.o.trans (G.mono C.o.size));have r:=Hi (I.o.below H.o I.o.lt);obtain⟨z0,z1,-⟩:=zc r.o;have f0:=r.o.free 0;have f1:=r.o.free 1;clear G;go_wp2;refine bodyPost_ret (v:=.agg #[.int .i64 3,.int .i64 ((K.length:Int)+(m:Int))]) (results_cell_row rfl _ _ (w.heap.size+1) 31 #[.int .i64 3,.int .i64 ((K.length:Int)+(m:Int))] (0,0) _ rfl ((r.o.set 0 _).set 1 _) underlying31 rfl Tryz.faultInfo) rfl ?_
      exact⟨_,_,rfl,Or.inr (Or.inr ⟨Y.o,fun i x F=>J.o i x (gZ F).1 F,Or.inl ⟨m,h,aj.o,ag.o,ab.o,by decide,rfl⟩⟩),((z.o.trans (H.o.mono z.o.size)).setCell (Nat.le_succ _) _).setCell (Nat.le_succ _) _⟩
    .
     have cf:m=hs.length:=by omega
     subst cf;have r:=Hi (I.o.below HC.o I.o.lt);obtain⟨z0,z1,-⟩:=zc r.o;have f0:=r.o.free 0;have f1:=r.o.free 1;go_wp2;refine bodyPost_ret (v:=.agg #[.int .i64 0,.int .i64 0]) (results_cell_row rfl _ _ (w.heap.size+1) 31 #[.int .i64 0,.int .i64 0] (0,0) _ rfl ((r.o.set 0 _).set 1 _) underlying31 rfl Tryz.faultInfo) rfl ?_;exact⟨0,0,rfl,Or.inr (Or.inr ⟨Y.o,fun i x F=>J.o i x (gZ F).1 F,Or.inr ⟨fun i x F=>ag.o i x (gZ F).1 F,rfl,rfl⟩⟩),(bo.o.setCell (Nat.le_succ _) _).setCell (Nat.le_succ _) _⟩
   skip
theorem Qtz(f g h:Vx)(c1 c2 c3:Nat)(a:List S2)(b:List B6)(hs:List H3)(w:Vz)(i:Glob w)(j:FrRow w f g h c1 c2 c3 a b hs)(k:FrSized a b hs):
 Calls prog 7 #[.agg #[.slice f a.length c1,.slice g b.length c2,.slice h hs.length c3]] w fun e w'=>∃c d,e=.returned (.agg #[.int .i64 c,.int .i64 d])/\FrameFault a b hs c d/\Below w.heap.size w w':=by
 by_cases l:Many a.length b.length hs.length
 . exact Qtv f g h c1 c2 c3 a b hs w i j k l
 . exact Qty f g h c1 c2 c3 a b hs w i j k l
theorem Glob.stay:Stay Glob:=⟨fun _ _ a h=>h.below a⟩
theorem Lent.stay(a b c:Nat)(d:List S2)(e:List B6)(hs:List H3):Stay (fun w=>Lent w a b c d e hs):=⟨fun _ _ f h=>h.below f⟩
theorem FrRow.stay(a b c:Vx)(c1 c2 c3:Nat)(d:List S2)(e:List B6)(hs:List H3):Stay (fun w=>FrRow w a b c c1 c2 c3 d e hs):=⟨fun _ _ f h=>h.below f⟩
end Go.Proofs.YtppkmifkpjkgpaaGreatDoor
