import Derived.Test.YtkkadnoecklepaaGreatDoorG19GivH
namespace Go.Proofs.YtkkadnoecklepaaGreatDoor
open Go.RowKit
open Go.Proofs.Tryz
set_option linter.unusedSimpArgs false
set_option linter.unusedVariables false
set_option maxHeartbeats 8000000
set_option maxRecDepth 1000000
theorem Qh8(a:Vy)(W:Nat):NoU64 (a.map (slRow W)).toArray:=fun i n=>by
 rw[List.getElem?_toArray,List.getElem?_map];cases a[i]?<;>simp[slRow]
theorem GA.only{u c:Vz}{B G W K g j:Nat}{d k:Vy}{M:Nat->Nat->Rat}(h:GA u B G W K d M)(a:Only g u c)(hs:SB u g 98 (k.map (slRow j)).toArray)(l:g<B):GA c B G W K d M:=by
 refine⟨⟨Below.refl _ _,h.gm.o.only a (by have:=h.gm.lo;omega),fun r e f=>?_,h.gm.nd,h.gm.ne,h.gm.lo,h.gm.los⟩,Nat.lt_of_lt_of_le h.hi a.size⟩;obtain⟨us,b,m⟩:=h.gm.row r e f;exact⟨us,⟨b.blk.only a (by have:=h.gm.los r e f;omega),fun t i=>⟨(b.ts t i).1.only a hs (Qh8 _ _),(b.ts t i).2⟩⟩,m⟩
theorem FB.only{q:Rat}{k:Nat}{u c:Vz}{b g f:Nat}{i:Vy}(h:FB q k u b)(d:Only g u c)(hs:SB u g 98 (i.map (slRow f)).toArray)(a:b≠g):FB q k c b:=by
 obtain⟨x,y,z,j,e⟩:=h;exact⟨x,y,z,j.only d a,e.1.only d hs (Qh8 _ _),e.2⟩
def BlkF(B N:Nat):Fact:=fun v u=>∃(G:Nat) (gs:Vy),v=.slice (some ⟨G,0,none⟩) N N/\gs.length=N/\GK u B G N gs (fun _=>1) (fun _ _=>0)
theorem BlkF.stays(B N:Nat):Stays (BlkF B N):=fun _ _ _ a ⟨G,b,e,c,d⟩=>⟨G,b,e,c,d.below a⟩
theorem Qoq(N B:Nat)(w:Vz)(i:N<=1000)(hB:B<=w.heap.size):Calls prog 160 #[.int .i64 N,.int .i64 N] w (Makes w (BlkF B N)):=by
 refine(Qda N N w i i).mono ?_;rintro e v ⟨⟨G,k,rfl,f,j,b,a,h⟩,l⟩;refine⟨_,rfl,l,G,k,rfl,f,b,fun r g d=>⟨_,(a r g d).1,by simp,fun c t m=>?_⟩,h,fun r g d=>by have:=(a r g d).2;omega,by omega,fun r g d=>by have:=(a r g d).2;omega⟩;obtain⟨_,rfl⟩:=List.mem_replicate.1 (mO m);exact⟨by simp[FE.zero],by simp[FE.zero]⟩
def MatF(B n W K:Nat)(M:Nat->Nat->Rat):Fact:=fun v u=>∃(G:Nat) (gs:Vy),v=.slice (some ⟨G,0,none⟩) n n/\gs.length=n/\GA u B G W K gs M
theorem MatF.stays(B n W K:Nat)(M:Nat->Nat->Rat):Stays (MatF B n W K M):=fun _ _ _ a ⟨G,b,e,c,d⟩=>⟨G,b,e,c,d.below a⟩
theorem GA.low{u:Vz}{B B' G W K:Nat}{a:Vy}{M:Nat->Nat->Rat}(h:GA u B G W K a M)(hB:B'<=B):GA u B' G W K a M:=⟨⟨h.gm.base,h.gm.o,h.gm.row,h.gm.nd,h.gm.ne,Nat.le_trans hB h.gm.lo,fun r g b=>Nat.le_trans hB (h.gm.los r g b)⟩,h.hi⟩
section
variable {a1 a2 a3:Vx} {c1 c2 c3:Nat} {js:List S2} {bs:List B6} {hs:List H3} {vb:List (Nat × Nat × Rat × Rat)} {vh:Vy}
theorem of_f(N W B:Nat)(w:Vz)(f:Glob w)(g:FrRow w a1 a2 a3 c1 c2 c3 js bs hs)(a:FrV 1048576 js bs hs vb vh)(q:2*js.length=N)(hW:bs.length+hs.length=W)(hB:B<=w.heap.size):
 Calls prog 98 #[.agg #[.slice a1 js.length c1,.slice a2 bs.length c2,.slice a3 hs.length c3]] w (Makes w (MatF B N W 8388611 (balM vb bs.length vh))):=by
 refine(Qg9 a1 a2 a3 c1 c2 c3 1048576 8388611 js bs hs vb vh w f g a.j a.b a.h a.lb a.lh a.vb a.vh a.n (by decide)).mono ?_;rintro e w2 ⟨i,k,l,m,o,p,rfl,d,c⟩;obtain rfl:i=N:=by omega
 obtain rfl:k=W:=by omega
 exact⟨_,rfl,c.base,l,m,rfl,d,c.toGM.ga.low (by omega)⟩
end
theorem Qor{B n W V K:Nat}{M:Nat->Nat->Rat}{v:Value}{w:Vz}(B':Nat)(h:MatF B n W K M v w)(hl:n<=1000)(hW:W<=1000)(hV:V<=W)(c:0<K)(hB:B'<=w.heap.size):Calls prog 168 #[v,.int .i64 V] w (Makes w (MatF B' V n K (turnV V M n 0))):=by
 obtain⟨G,i,rfl,d,f⟩:=h;refine(Qon G B W V K n i M w f d hl hW hV c).mono ?_;rintro e k ⟨j,g,rfl,a,b⟩;exact⟨_,rfl,b.base,j,g,rfl,a,b.ga.low hB⟩
theorem Qos(a1 a2 a3:Vx)(c1 c2 c3 N KT:Nat)(js:List S2)(bs:List B6)(hs:List H3)(vb:List (Nat × Nat × Rat × Rat))(vh:Vy)(F:Vec)(w:Vz)(hg:Glob w)(hf:FrRow w a1 a2 a3 c1 c2 c3 js bs hs)(hv:FrV 1048576 js bs hs vb vh)(hc:∀(i:Nat) (b:B6),bs[i]?=some b->QOf b.c.data.toList (F i)/\b.c.size<=1048576)(hN:2*js.length=N)(d:KT=1+24*20971528):
 Calls prog 114 #[.agg #[.slice a1 js.length c1,.slice a2 bs.length c2,.slice a3 hs.length c3]] w (Makes w (MatF w.heap.size N N KT (Giv.stf bs.length (balM vb bs.length vh) F))):=by
 obtain⟨V,hV⟩:=nm (w.alloc (.cells #[.slice a1 js.length c1,.slice a2 bs.length c2,.slice a3 hs.length c3] 26));have b5:Bl w V:=by rw[<-hV];exact(Below.refl _ _).alloc lZ _
 have b6:SB V w.heap.size 26 #[.slice a1 js.length c1,.slice a2 bs.length c2,.slice a3 hs.length c3]:=by rw[<-hV];exact SB.new w _ _
 obtain⟨bj,HG,HF,HV,HC,b7,b8,HN,HK⟩:=Ih b6 hg hf hv hc b5 hV hN d;have n1:=hv.j;have n2:=hv.b;have n3:=hv.h;have eu:N<=20:=by omega
 clear b5 hV b6 hg hf hv d hc hN;go_enter func114,ntmps114;go_wp2_with fail;rw[b8.o];obtain⟨Y,hY⟩:=nm V.drew;have bk:Bl V Y:=by rw[<-hY];exact(Below.refl _ _).drew
 have S:=bj.o.below bk bj.o.lt;obtain⟨A,B,C⟩:=Ib (S.cell 0) (S.cell 1) (S.cell 2);simp only[List.getElem?_toArray,List.getElem?_cons_zero,List.getElem?_cons_succ] at A B C;obtain⟨n,bl,bm⟩:=Ib S.lt S (b7.o.trans (bk.mono b7.o.size));obtain⟨W,al⟩:=nm w.heap.size;have b9:O (∀u,Calls prog 107 #[.agg #[.slice a1 js.length c1,.slice a2 bs.length c2,.slice a3 hs.length c3]] u (Makes u (Is (.int .i64 N)))):=Hi (fun u=>(Qcm a1 a2 a3 c1 c2 c3 js.length bs.length hs.length u n1).mono (fun e w' h=>⟨_,h.1,h.2,by have:=HN.o;show _=_;rw[show 2*(js.length:Int)=(N:Int) by omega]⟩));obtain⟨am,bn⟩:=Ia hY al;have dv:O (W<=Y.heap.size):=Hi (by rw[<-al];exact bm.o.size);rw[al] at A B C n bl ⊢;clear hY bk S al b8 bj;refine RegG.bg 5 (fun j=>some (9+j)) ?_;rw[am.o]
 refine RegG.pu (c:=?_) [] (fun w a=>?_) ?_;rotate_left
 .
  intro K d;obtain⟨e0,e1,Z⟩:=Jb a n.o A.o B.o C.o;go_simp;exact d
 refine RegG.ca (φ:=Is (.int .i64 N)) [0] ((fun _ _ _ _ h=>h)) (fun w a=>?_) ?_
 .
  intro K d;go_simp;exact Makes.use (b9.o w) d
 refine RegG.pu (c:=?_) [] (fun w a=>?_) ?_;rotate_left
 .
  intro K d;obtain⟨e0,e1,Z⟩:=Jb a n.o A.o B.o C.o;go_simp;exact d
 refine RegG.ca (φ:=Is (.int .i64 N)) [2] ((fun _ _ _ _ h=>h)) (fun w a=>?_) ?_
 .
  intro K d;go_simp;exact Makes.use (b9.o w) d
 refine RegG.ca (φ:=BlkF W N) [1,3] (BlkF.stays _ _) (fun w a=>?_) ?_
 .
  intro K d;go_simp;exact Makes.use (Qoq N W w (by omega) (Nat.le_trans dv.o a.size)) d
 refine RegG.last (by simp only[List.nil_append,List.cons_append,List.length_append,List.length_cons,List.length_nil,Nat.reduceAdd]) (by rfl) (by rfl) (by kernel_rfl) (fun x2 a=>?_);simp only[FinG,List.nil_append,List.cons_append,Qad,Act.put,List.setIfInBounds_toArray,List.set_cons_zero,List.set_cons_succ,Nat.reduceAdd,Nat.reduceBEq,cond_true,cond_false];intro v4 h4 K d;obtain⟨L,dw,rfl,aq,ar⟩:=h4;obtain⟨cb,au,cc⟩:=Ib a ar aq;clear ar aq a;go_simp;refine d _ _ ?_;clear d;go_wp2_with fail;obtain⟨Y2,bp⟩:=nm x2.drew;have hz2:Bl x2 Y2:=by rw[<-bp];exact(Below.refl _ _).drew
 have T:Bl Y Y2:=cb.o.trans (hz2.mono cb.o.size);have p:=Hi (bm.o.trans (T.mono bm.o.size));have P:=bl.o.below T bl.o.lt;obtain⟨cd,cf,cg,aa⟩:=Ic (ce T n.o A.o) (ce T n.o B.o) (ce T n.o C.o) (au.o.below hz2);clear am A B C n au;have am:=Hi bp;have A:=cd;have B:=cf;have C:=cg;obtain⟨n,av⟩:=Ia P.lt P;have ch:O (W≠L):=Hi (fun e=>by
  have h1:=aa.o.o;have h2:=P;rw[e] at h2;unfold SB at h1 h2;rw[h1] at h2;have h3:=Option.some.inj h2;injection h3 with _ h4
  exact absurd h4 (by decide))
 have dy:O (L<Y2.heap.size):=Hi aa.o.o.lt;obtain⟨BT,bq⟩:=nm Y2.heap.size;have aw:=Hi bq;have ci:O (BT<=Y2.heap.size):=Hi (Nat.le_of_eq bq.symm);have cj:O (bs.length<=bs.length+hs.length/\bs.length+hs.length<=1000):=Hi (by omega);clear cd cf cg bp hz2 T P bq;refine RegG.bg 8 (fun j=>some (14+j)) ?_;rw[am.o];refine RegG.pu (c:=?_) [] (fun w a=>?_) ?_;rotate_left
 .
  intro K d;obtain⟨e0,e1,Z⟩:=Jb a n.o A.o B.o C.o;go_simp;exact d
 refine RegG.ca (φ:=MatF BT N (bs.length+hs.length) 8388611 (balM vb bs.length vh)) [0] (MatF.stays _ _ _ _ _) (fun w a=>?_) ?_
 .
  intro K d;go_simp;exact Makes.use (of_f N _ BT w (HG.o.below (p.o.trans (a.mono p.o.size))) (HF.o.below (p.o.trans (a.mono p.o.size))) HV.o HN.o rfl (Nat.le_trans ci.o a.size)) d
 refine RegG.pu (c:=?_) [] (fun w a=>?_) ?_;rotate_left
 .
  intro K d;go_simp;exact d
 refine RegG.pu (c:=?_) [2] (fun w a=>?_) ?_;rotate_left
 .
  intro K d;obtain⟨e0,e1,Z⟩:=Jb a n.o A.o B.o C.o;go_simp;exact d
 refine RegG.pu (c:=?_) [3] (fun w a=>?_) ?_;rotate_left
 .
  intro K d;go_simp;exact d
 refine RegG.ca (φ:=MatF BT bs.length N 8388611 (turnV bs.length (balM vb bs.length vh) N 0)) [1,4] (MatF.stays _ _ _ _ _) (fun w a=>?_) ?_
 .
  intro v1 h1 K d;go_simp;exact Makes.use (Qor BT h1 (by omega) cj.o.2 cj.o.1 (by decide) (by rw[<-aw.o];exact a.size)) d
 refine RegG.ca (φ:=Is (.int .i64 (bs.length:Nat))) [5] (fun _ _ _ _ h=>h) (fun w a=>?_) ?_
 .
  intro v5 h5 K d;obtain⟨G5,g5,rfl,_,_⟩:=h5;go_simp;exact d _ _ bR rfl
 refine RegG.pu (c:=?_) [] (fun w a=>?_) ?_;rotate_left
 .
  intro K d;go_simp;exact d
 refine RegG.fi (fun x3 a=>?_);intro v1 _ v5 h5;obtain⟨GT,gt,rfl,ay,ck⟩:=h5;obtain⟨ev,cl,cm,cn,cp,dz⟩:=Ie a ck ay (aa.o.below a) (av.o.below a av.o.lt) (p.o.trans (a.mono p.o.size));have cq:O (L<BT):=Hi (by rw[<-aw.o];exact dy.o);clear ck ay a;obtain⟨m,br⟩:=nm (balM vb bs.length vh);have ea:=Hi br;rw[br] at cl ⊢;clear br;go_wp2_with fail;go_loopw [21] (fun iv wr=>∃(k:Nat) (gs:Vy),k<=bs.length/\iv=.int .i64 k/\gs.length=N/\GK wr W L N gs (fun _=>1+k*20971528) (stfTo m F k 0)/\GA wr BT GT N 8388611 gt (turnV bs.length m N 0)/\SB wr W 26 #[.slice a1 js.length c1,.slice a2 bs.length c2,.slice a3 hs.length c3]/\Below w.heap.size w wr) (fun iv _=>bs.length - (intOf iv).toNat)
 case atStart=>exact⟨0,dw,by omega,rfl,cc.o,cn.o.mono (fun r=>by omega) (fun r c _ _=>by simp[stfTo,dot];grind),cl.o,cp.o,dz.o⟩
 case round=>
  obtain⟨k,gs,hk,rfl,ab,D,ad,ae,af⟩:=hrel;obtain⟨f,cr,G,E,HB⟩:=Id D ab ad ae af;clear D ab ad ae af;by_cases cs:k<bs.length
  .
   obtain⟨b,bt⟩:∃b,bs[k]?=some b:=⟨bs[k],gE cs⟩;obtain⟨gk,D⟩:∃g,gt[k]?=some g:=⟨gt[k]'(by have:=cm.o;omega),gE _⟩;have s0:=G.o.gm.cell D;obtain⟨bb,bo,rfl,ew,d0,d1,d2,d3,d4,d5⟩:=(HF.o.b.below HB.o).bar bt;have x1:=E.o.cell 1;simp only[List.getElem?_toArray,List.getElem?_cons_zero,List.getElem?_cons_succ] at x1;have ct:=Hi (HC.o k b bt);have cu:=Hi (FF.of (K:=4194305) (HG.o.below HB.o) ct.o.1 ct.o.2 (by decide) (by decide));have q1:((k:Int)<(bs.length:Int)):=by omega
   have cw:=Hi D;clear bt D;go_wp2_with fail;refine Makes.use cu.o ?_;intro v6 w6 a h6;obtain⟨x6,y6,z6,rfl⟩:=h6.parts;have cy:=Hi h6;obtain⟨⟨nx,ax,lx,cx,bx,mx,dx,ex,_⟩,_,_⟩:=h6;simp only[Value.agg.injEq,Array.mk.injEq,List.cons.injEq,and_true] at ex;obtain⟨rfl,rfl,rfl⟩:=ex;obtain⟨X6,an⟩:∃X,w6.alloc (.cells #[.bool nx,.slice ax lx cx,.slice bx mx dx] 107)=X:=⟨_,rfl⟩;have bu:Bl w6 X6:=by rw[<-an];exact(Below.refl _ _).alloc lZ _
   have ag:Bl wr X6:=a.trans (bu.mono a.size);have cz:O (FB (F k) 4194305 X6 w6.heap.size):=Hi ⟨_,_,_,by rw[<-an];exact SB.new w6 _ _,cy.o.below bu⟩;obtain⟨c4,c5,c6,eb⟩:=Ic (f.o.below ag) (G.o.below ag) (E.o.below ag E.o.lt) (HB.o.trans (ag.mono HB.o.size));have c7:O (L<w6.heap.size):=Hi (Nat.lt_of_lt_of_le f.o.o.lt a.size);have c8:=Hi an;obtain⟨C6,bv⟩:=nm w6.heap.size;rw[bv] at cz c7;have c9:=Hi bv;clear a an bu ag bv d0 d1 d2 d3 d4 d5 s0 x1 cu f G E HB cy;go_wp2_with fail;rw[c8.o]
   try simp only[c9.o]
   go_loopw [35] (fun jv wi=>∃(j:Nat) (gs:Vy),j<=N/\jv=.int .i64 j/\gs.length=N/\GK wi W L N gs (fun r=>if r<j then 1+(k+1)*20971528 else 1+k*20971528) (stfTo m F k j)/\GA wi BT GT N 8388611 gt (turnV bs.length m N 0)/\SB wi W 26 #[.slice a1 js.length c1,.slice (some ⟨bb,bo,none⟩) bs.length c2,.slice a3 hs.length c3]/\FB (F k) 4194305 wi C6/\Below w.heap.size w wi) (fun jv _=>N - (intOf jv).toNat)
   case atStart=>exact⟨0,gs,by omega,rfl,cr.o,c4.o.mono (fun r=>by simp) (fun _ _ _ _=>rfl),c5.o,c6.o,cz.o,eb.o⟩
   case round=>
    obtain⟨j,H,hj,rfl,ab,D,ad,ae,da,af⟩:=hrel;obtain⟨f,s,G,E,az,HB⟩:=Ie D ab ad ae da af;clear D ab ad ae da af;by_cases ec:j<N
    .
     obtain⟨us,bw,bz,ah⟩:=G.o.gm.row k gk cw.o;obtain⟨e,he⟩:∃e,us[j]?=some e:=⟨us[j]'(by omega),gE _⟩;obtain⟨rb,ro,ed,ey,d0,d1,d2⟩:=bw.row.at he;cases ed;simp only[Nat.zero_add] at d0 d1 d2;have b0:∀v,v<N->turnV bs.length m N 0 k v=m v k:=fun v hv=>by unfold turnV;rw[if_pos ⟨cs,.inl hv⟩]
     have db:FF (m j k) 8388611 (.agg #[e.x,e.y,e.z]) wr:=by
      have h1:=ah j e he;rw[<-b0 j ec,<-h1.1];exact FF.mono (bw.row.get he) h1.2
     have ao:=Hi db;obtain⟨⟨ee,ef,eg,eh,ei,ej,ek,ex,_⟩,_,_⟩:=db;simp only[Value.agg.injEq,Array.mk.injEq,List.cons.injEq,and_true] at ex;rw[ex.1] at d0;rw[ex.2.1] at d1;rw[ex.2.2] at d2;rw[ex.1,ex.2.1,ex.2.2] at ao;obtain⟨X8,ap⟩:∃X,wr.alloc (.cells #[.bool ee,.slice ef eg eh,.slice ei ej ek] 107)=X:=⟨_,rfl⟩;have I:Bl wr X8:=by rw[<-ap];exact(Below.refl _ _).alloc lZ _
     have b1:O (FB (m j k) 8388611 X8 wr.heap.size):=Hi ⟨_,_,_,by rw[<-ap];exact SB.new wr _ _,ao.o.below I⟩;have dc:=Hi ((ao.o.below I).isZero);have dd:=f.o.o.lt;obtain⟨a0,a4,ai,a5,de,df⟩:=Ie (f.o.below I) (G.o.below I) (E.o.below I E.o.lt) (az.o.below I) (HB.o.trans (I.mono HB.o.size)) ap;obtain⟨P8,U⟩:=nm wr.heap.size;have a6:=Hi U;have ez:O (P8≠L):=Hi (by rw[<-U];omega);rw[U] at b1;have em:=Hi b0;have q2:((j:Int)<(N:Int)):=by omega
     clear bw bz ah he ap I ex dd b0 U;go_wp2_with fail;rw[df.o];refine Makes.use dc.o ?_;intro v9 w9 a h9;obtain rfl:v9=.bool (decide (m j k=0)):=h9;obtain⟨aj,ak,Q,R,a7,b2⟩:=Ie (a0.o.below a) (a4.o.below a) (ai.o.below a ai.o.lt) (a5.o.below a) (b1.o.below a) (de.o.trans (a.mono de.o.size));clear a d0 d1 d2 f G E az HB a0 a4 ai a5 b1 dc ao;by_cases h0:m j k=0
     .
      rw[decide_eq_true h0];have HE:O (GK w9 W L N H (fun r=>if r<j+1 then 1+(k+1)*20971528 else 1+k*20971528) (stfTo m F k (j+1))):=Hi (aj.o.mono (fun r=>by split<;>split<;>omega) (fun r c hr hc=>by
       unfold stfTo;by_cases e:r=j
       .
        subst e;rw[if_neg (by omega),if_pos (by omega),h0];grind
       .
        by_cases Z:r<j
        . rw[if_pos Z,if_pos (by omega)]
        . rw[if_neg Z,if_neg (by omega)]))
      clear h0;go_wp2;go_roundw
      case rel=>exact⟨j+1,H,by omega,by go_num,s.o,HE.o,ak.o,Q.o,R.o,b2.o⟩
      case measure=>simp[intOf];omega
     .
      rw[decide_eq_false h0];clear h0;go_wp2_with fail;obtain⟨Y9,b3⟩:=nm w9.drew;have J:Bl w9 Y9:=by rw[<-b3];exact(Below.refl _ _).drew
      obtain⟨gr,dg⟩:∃g,H[j]?=some g:=⟨H[j]'(by have:=s.o;omega),gE _⟩;have a8:=aj.o.below J;have a9:=ak.o.below J;obtain⟨p1,p2,p3,ps,pf⟩:=a7.o.below J;obtain⟨r1,r2,r3,rs,rf⟩:=R.o.below J;obtain⟨P0,P1,P2,R1,R2,R3⟩:=Ie (ps.cell 0) (ps.cell 1) (ps.cell 2) (rs.cell 0) (rs.cell 1) (rs.cell 2);simp only[List.getElem?_toArray,List.getElem?_cons_zero,List.getElem?_cons_succ] at P0 P1 P2 R1 R2 R3;obtain⟨dh,PF,en,b4,l,ba,bc,di,bd⟩:=Ih (And.intro ps.lt rs.lt) pf rf dg a8 a9 (Q.o.below J Q.o.lt) (R.o.below J) (b2.o.trans (J.mono b2.o.size));have dj:=Hi b3;obtain⟨KR,dk⟩:=nm (1+k*20971528+8388611+(4194305+8388611)+1);have dl:O (KR<=1+(k+1)*20971528/\KR<68719476000):=Hi (by
       have:k*20971528<=24*20971528:=Nat.mul_le_mul_right _ (by omega);rw[Nat.succ_mul]
       omega)
      have dm:=Hi dk;clear b3 J dg a8 a9 ps pf rs rf dk aj ak Q R a7;have eo:O (∀u,Below Y9.heap.size Y9 u->∀v,FF (-(F k*m j k)) (4194305+8388611) v u->Calls prog 169 #[.slice (some ⟨gr,0,none⟩) N N,.slice (some ⟨gk,0,none⟩) N N,v] u (Makes u (LessF Y9.heap.size N KR (fun c=>stfTo m F k (j+1) j c)))):=Hi (fun u a v hv=>by
       obtain⟨ts,t1,t2,t3⟩:=(l.o.below a).row j gr b4.o;obtain⟨ss,s1,s2,s3⟩:=(ba.o.below a).gm.row k gk cw.o;have hl:=Qop (x:=stfTo m F k j j) t1 t2 (k1:=1+k*20971528) (fun c t ht=>by have:=t3 c t ht;rw[if_neg (by omega)] at this;exact this) s1 s2 (k2:=8388611) (fun t ht=>by obtain⟨i,hi⟩:=List.getElem?_of_mem ht;exact(s3 i t hi).2) hv (by omega) dm.o dl.o.2;refine hl.mono ?_;rintro e w' ⟨v',he,ep,g,us,eq,hg,hq,bz,ah⟩;refine⟨v',he,ep,g,us,eq,Nat.le_trans a.size hg,hq,bz,fun c t ht=>⟨(ah c t ht).1.trans ?_,(ah c t ht).2⟩⟩;have hc:c<N:=by have:=(gZ ht).1;omega
       obtain⟨e',dn⟩:∃e',ss[c]?=some e':=⟨ss[c]'(by omega),gE _⟩
       show stfTo m F k j j c - qAt ss c* -(F k*m j k)=stfTo m F k (j+1) j c
       rw[Qbb dn,(s3 c e' dn).1,em.o c hc];unfold stfTo;rw[if_neg (by omega),if_pos (by omega)]
       grind)
      simp only[a6.o];refine RegG.bg 13 (fun j=>some (43+j)) ?_;rw[dj.o];refine RegG.pu (c:=?_) [] (fun w a=>?_) ?_;rotate_left
      .
       intro K d;go_simp;exact d
      refine RegG.pu (c:=?_) [] (fun w a=>?_) ?_;rotate_left
      .
       intro K d;go_simp;exact d
      refine RegG.pu (c:=?_) [] (fun w a=>?_) ?_;rotate_left
      .
       intro K d;go_simp;exact d
      refine RegG.pu (c:=?_) [] (fun w a=>?_) ?_;rotate_left
      .
       intro K d;go_simp;exact d
      refine RegG.pu (c:=?_) [2,3] (fun w a=>?_) ?_;rotate_left
      .
       intro K d;go_simp;exact d
      refine RegG.pu (c:=?_) [4] (fun w a=>?_) ?_;rotate_left
      .
       intro K d;have e0:=(l.o.below a).cell b4.o;go_simp;exact d
      refine RegG.pu (c:=?_) [] (fun w a=>?_) ?_;rotate_left
      .
       intro K d;go_simp;exact d
      refine RegG.pu (c:=?_) [] (fun w a=>?_) ?_;rotate_left
      .
       intro K d;obtain⟨e0,e1,Z⟩:=Jb a dh.o.2 R1.o R2.o R3.o;go_simp;exact d
      refine RegG.pu (c:=?_) [] (fun w a=>?_) ?_;rotate_left
      .
       intro K d;obtain⟨e0,e1,Z⟩:=Jb a dh.o.1 P0.o P1.o P2.o;go_simp;exact d
      refine RegG.ca (φ:=FF (F k*m j k) (4194305+8388611)) [7,8] (FF.stays _ _) (fun w a=>?_) ?_
      .
       intro K d;go_simp;exact Makes.use (FF.times (en.o.below a) (PF.o.below a) (by decide)) d
      refine RegG.ca (φ:=FF (-(F k*m j k)) (4194305+8388611)) [9] (FF.stays _ _) (fun w a=>?_) ?_
      .
       intro v9 h9;intro K d;go_simp;exact Makes.use (FF.neg h9) d
      refine RegG.ca (φ:=LessF Y9.heap.size N KR (fun c=>stfTo m F k (j+1) j c)) [5,6,10] (LessF.stays _ _ _ _) (fun w a=>?_) ?_
      .
       intro dp er;intro K d;go_simp;exact Makes.use (eo.o w a dp er) d
      refine RegG.pu (c:=?_) [0,1] (fun w a=>?_) ?_;rotate_left
      .
       intro K d;go_simp;exact d
      refine RegG.last (by simp only[List.nil_append,List.cons_append,List.length_append,List.length_cons,List.length_nil,Nat.reduceAdd]) (by rfl) (by rfl) (by kernel_rfl) (fun x4 a=>?_);simp only[FinG,List.nil_append,List.cons_append,Qad,Act.put,List.setIfInBounds_toArray,List.set_cons_zero,List.set_cons_succ,Nat.reduceAdd,Nat.reduceBEq,cond_true,cond_false];intro v9 _ dp _ e3 es K d;obtain⟨gn,un,rfl,et,dq,dr,ds⟩:=es;have M:=l.o.below a;have c0:=M.cell b4.o;have f0:=M.o.free j;have ho:Only L x4 (x4.setCell ⟨L,j,none⟩ (slRow N gn)):=(Only.refl L x4).setCell j _;have be:=M.repl (r:=j) (by have:=s.o;omega) (fun i g hi=>by
       obtain⟨_,q,_⟩:=l.o.row i g hi;have:=q.blk.lt
       omega) (by have:=l.o.o.lt;omega) (by have:=l.o.o.lt;have:=l.o.lo;omega) dq dr ds
      have dt:O (GK (x4.setCell ⟨L,j,none⟩ (slRow N gn)) W L N (H.set j gn) (fun r=>if r<j+1 then 1+(k+1)*20971528 else 1+k*20971528) (stfTo m F k (j+1))):=Hi (be.mono (fun r=>by
       have:=dl.o.1
       split
       . rw[if_pos (by omega)];exact this
       .
        split
        . rw[if_pos (by omega)];exact Nat.le_refl _
        . split<;>omega) (fun r c hr hc=>by
       by_cases e:r=j
       . rw[if_pos e,e]
       .
        rw[if_neg e];unfold stfTo;by_cases Z:r<j
        . rw[if_pos Z,if_pos (by omega)]
        . rw[if_neg Z,if_neg (by omega)]))
      obtain⟨bf,bh,bi,du⟩:=Ic ((ba.o.below a).only ho M.o cq.o) ((bc.o.below a bc.o.lt).only ho (ch.o)) ((di.o.below a).only ho M.o (by have:=c7.o;omega)) (Only.fresh (bd.o.trans (a.mono bd.o.size)) ho (by rw[bn.o];exact M.lo));unfold slRow at dt bf bh bi du ⊢;clear dq dr ds M ho be a et;go_simp;refine d _ _ ?_;clear d c0 f0;have U:=a6.o;subst U;go_wp2;go_roundw
      case rel=>exact⟨j+1,H.set j gn,by omega,by go_num,by rw[List.length_set];exact s.o,dt.o,bf.o,bh.o,bi.o,du.o⟩
      case measure=>simp[intOf];omega
    .
     obtain rfl:j=N:=by omega
     have HE:O (GK wr W L j H (fun _=>1+(k+1)*20971528) (stfTo m F (k+1) 0)):=Hi (f.o.mono (fun r=>by split<;>omega) (fun r c hr hc=>by
      have:=s.o;unfold stfTo;rw[if_pos (by omega),if_neg (by omega),Rat.add_zero]
      rfl))
     go_wp2;go_roundw
     case rel=>exact⟨k+1,H,by omega,by go_num,s.o,HE.o,G.o,E.o,HB.o⟩
     case measure=>simp[intOf];omega
  .
   obtain rfl:k=bs.length:=by omega
   go_wp2;go_ret;refine⟨_,rfl,HB.o,L,gs,rfl,cr.o,⟨⟨Below.refl _ _,f.o.o,fun r g hr=>?_,f.o.nd,f.o.ne,by rw[bn.o];exact f.o.lo,fun r g hr=>by rw[bn.o];exact f.o.los r g hr⟩,f.o.o.lt⟩⟩;obtain⟨us,h1,h2,h3⟩:=f.o.row r g hr;refine⟨us,h1,h2,fun c t ht=>⟨(h3 c t ht).1.trans ?_,Nat.le_trans (h3 c t ht).2 ?_⟩⟩
   .
    unfold stfTo Giv.stf;rw[if_neg (by omega),Rat.add_zero]
    first|rfl|rw[ea.o]
   .
    rw[HK.o];have:bs.length*20971528<=24*20971528:=Nat.mul_le_mul_right _ n2;omega
def RowF(B n K:Nat)(x:Vec):Fact:=fun v w=>∃(g:Nat) (us:List FE),v=.slice (some ⟨g,0,none⟩) n n/\B<=g/\RB w g n K x us
theorem RowF.stays(B n K:Nat)(x:Vec):Stays (RowF B n K x):=fun _ _ _ a ⟨g,us,e,b,c⟩=>⟨g,us,e,b,c.below a⟩
def FreeF(B:Nat)(l:Vy):Fact:=fun v w=>IG w B v l
theorem FreeF.stays(B:Nat)(l:Vy):Stays (FreeF B l):=fun _ _ _ a h=>Grow.below h a
structure GivV (w:Vz) (a1 a2 a3:Vx) (c1 c2 c3 N:Nat) (js:List S2) (bs:List B6) (hs:List H3) (vb:List (Nat × Nat × Rat × Rat)) (vh:Vy) (cv ev bv:Vec):Prop where
 gl:Glob w
 fr:FrRow w a1 a2 a3 c1 c2 c3 js bs hs
 fv:FrV 1048576 js bs hs vb vh
 ce:∀(i:Nat) (b:B6),bs[i]?=some b->QOf b.c.data.toList (cv i)/\QOf b.e.data.toList (ev i)/\b.c.size<=1048576/\b.e.size<=1048576
 by_:∀(i:Nat) (h:H3),hs[i]?=some h->QOf h.q.data.toList (bv i)/\h.q.size<=1048576
 n:2*js.length=N
section
variable {w w':Vz} {a1 a2 a3:Vx} {c1 c2 c3 N:Nat} {js:List S2} {bs:List B6} {hs:List H3} {vb:List (Nat × Nat × Rat × Rat)} {vh:Vy} {cv ev bv:Vec}
theorem GivV.below(h:GivV w a1 a2 a3 c1 c2 c3 N js bs hs vb vh cv ev bv)(a:Bl w w'):GivV w' a1 a2 a3 c1 c2 c3 N js bs hs vb vh cv ev bv:=⟨h.gl.below a,h.fr.below a,h.fv,h.ce,h.by_,h.n⟩
theorem GivV.held(h:GivV w a1 a2 a3 c1 c2 c3 N js bs hs vb vh cv ev bv)(B:Nat)(hB:B<=w.heap.size):Calls prog 110 #[.agg #[.slice a1 js.length c1,.slice a2 bs.length c2,.slice a3 hs.length c3]] w (Makes w (RowF B N 4194305 (hldM vh bv hs.length))):=
 (Qoi a1 a2 a3 c1 c2 c3 bs.length N js hs vh bv w h.gl h.fr.h h.fv.j h.fv.h h.fv.lh h.fv.vh h.by_ h.n).mono fun e w' ⟨g,us,a,b,c,d⟩=>⟨_,a,d,g,us,rfl,Nat.le_trans hB b,c⟩
theorem GivV.free(h:GivV w a1 a2 a3 c1 c2 c3 N js bs hs vb vh cv ev bv)(B:Nat)(hB:B<=w.heap.size):Calls prog 111 #[.agg #[.slice a1 js.length c1,.slice a2 bs.length c2,.slice a3 hs.length c3]] w (Makes w (FreeF B (Giv.frs (freeW vh) N))):=
 (Qoh a1 a2 a3 c1 c2 c3 bs.length N js hs vh w h.fr.h h.fv.j h.fv.h h.fv.lh h.fv.vh h.n).mono fun e w' ⟨v,a,b,c⟩=>⟨_,a,c,Grow.mono b hB⟩
theorem GivV.pulls(h:GivV w a1 a2 a3 c1 c2 c3 N js bs hs vb vh cv ev bv)(B:Nat)(hB:B<=w.heap.size){a c d:Nat}{x:Vec}{v:Value}{B':Nat}(o:RowF B' N a x v w)(p:c=2*(8388611+(2*a+1))+1)(f:a<=1000000000)(k:d=4194305+(c+4194305+1)):Calls prog 54 #[.agg #[.slice a1 js.length c1,.slice a2 bs.length c2,.slice a3 hs.length c3],v] w (Makes w (RowF B bs.length d (fun i=>cv i*(stretchV vb x i - ev i)))):=by
 obtain⟨g,us,rfl,_,q⟩:=o;exact(Qok a1 a2 a3 c1 c2 c3 hs.length g N a c d js bs hs vb x cv ev us w h.gl h.fr.j h.fr.b h.fv.j h.fv.b h.fv.lb h.fv.vb h.ce q h.n p f k).mono fun e w' ⟨r,l,s,t,m,u⟩=>⟨_,s,u,r,l,rfl,Nat.le_trans hB t,m⟩
theorem GivV.putBy(h:GivV w a1 a2 a3 c1 c2 c3 N js bs hs vb vh cv ev bv)(B:Nat)(hB:B<=w.heap.size){a b:Nat}{t:Vec}{v:Value}{B':Nat}(i:RowF B' bs.length a t v w)(j:b=24*(8388611+a+1)+1)(c:a<=2500000000):Calls prog 55 #[.agg #[.slice a1 js.length c1,.slice a2 bs.length c2,.slice a3 hs.length c3],v] w (Makes w (RowF B N b (Giv.putF bs.length (balM vb bs.length vh) t))):=by
 obtain⟨g,us,rfl,_,k⟩:=i;exact(Qom a1 a2 a3 c1 c2 c3 g N a b js bs hs vb vh t us w h.gl h.fr h.fv k h.n j c).mono fun e w' ⟨l,d,m,o,f,p⟩=>⟨_,m,p,l,d,rfl,Nat.le_trans hB o,f⟩
theorem GivV.stiff(h:GivV w a1 a2 a3 c1 c2 c3 N js bs hs vb vh cv ev bv){a:Nat}(d:a=1+24*20971528):Calls prog 114 #[.agg #[.slice a1 js.length c1,.slice a2 bs.length c2,.slice a3 hs.length c3]] w (Makes w (MatF w.heap.size N N a (Giv.stf bs.length (balM vb bs.length vh) cv))):=
 Qos a1 a2 a3 c1 c2 c3 N a js bs hs vb vh cv w h.gl h.fr h.fv (fun i b c=>⟨(h.ce i b c).1,(h.ce i b c).2.2.1⟩) h.n d
end
theorem Qot{B W K n m ca:Nat}{M:Nat->Nat->Rat}{v:Value}{d:Vx}{a:Vy}{w:Vz}(h:MatF B m W K M v w)(l:CRow w d (a.map (fun n:Nat=>Value.int .i64 n)))(o:a.length=n)(f:∀r,r∈ a->r<m/\r<W)(hl:n<=1000)(g:0<K):Calls prog 113 #[v,.slice d n ca] w (Makes w (MatF w.heap.size n n K (partV a n M n 0))):=by
 obtain⟨G,p,rfl,i,j⟩:=h;refine(Qoo G B W K n m p M d ca a w j i l o f hl g).mono ?_;rintro e w' ⟨q,k,rfl,b,c⟩;exact⟨_,rfl,c.base,q,k,rfl,b,c.ga⟩
def sumV(at_:Vy)(p a:Vec):Vec:=fun i=>p (at_.getD i 0) - a (at_.getD i 0)
def setRows(at_:Vy)(n:Nat)(M:Nat->Nat->Rat):List Vec:=(List.range n).map (partV at_ n M n 0)
def setSums(at_:Vy)(n:Nat)(p a:Vec):List Rat:=(List.range n).map (sumV at_ p a)
def RowZ(B n K:Nat):Fact:=fun v w=>∃g:Nat,v=.slice (some ⟨g,0,none⟩) n n/\B<=g/\RB w g n K (fun _=>0) (List.replicate n FE.zero)
theorem RowZ.stays(B n K:Nat):Stays (RowZ B n K):=fun _ _ _ a ⟨g,e,b,c⟩=>⟨g,e,b,c.below a⟩
theorem Qou{w:Vz}{q:Rat}(h:FracV w (.agg #[.bool false,.slice none 0 0,.slice none 0 0]) q):q=0:=by
 obtain⟨neg,a,n,c,b,m,d,e,f⟩:=h;simp only[Value.agg.injEq,Array.mk.injEq,List.cons.injEq,Value.bool.injEq,Value.slice.injEq,and_true] at e;obtain⟨rfl,⟨rfl,rfl,rfl⟩,rfl,rfl,rfl⟩:=e;have:=f.top.zero_iff.2 rfl;exact Rat.num_eq_zero.1 (by omega)
theorem RB.alias{w:Vz}{g n N K K':Nat}{p:Vec}{j:List FE}(e:RB w g n K (fun _=>0) (List.replicate n FE.zero))(a:RB w g N K' p j):n=N/\∀r,r<N->p r=0:=by
 have f:=e.blk.blk;have b:=a.blk.blk;unfold SB at f b;rw[f] at b;have l:=Option.some.inj b;injection l with m _
 have hl:=congrArg Array.size m;rw[List.size_toArray,List.size_toArray,Qas (c:=FE.cells) (sz:=3) (fun _=>rfl),Qas (c:=FE.cells) (sz:=3) (fun _=>rfl),List.length_replicate,a.len] at hl;have d:n=N:=by omega
 refine⟨d,fun r o=>?_⟩;obtain⟨t,h⟩:=a.get o;obtain⟨q,c1,c2⟩:=a.cells h;obtain⟨d0,d1,d2⟩:=e.cells (k:=r) (t:=FE.zero) (by rw[List.getElem?_replicate,if_pos (by omega)]);have s:=Option.some.inj (q.symm.trans d0);have x1:=Option.some.inj (c1.symm.trans d1);have x2:=Option.some.inj (c2.symm.trans d2);have i:=a.fe h;rw[s,x1,x2] at i;exact Qou i.1
theorem Qh9{fr:Nat->Bool}{N:Nat}(h:(Giv.frs fr N).length=N):Giv.frs fr N=List.range N:=by
 have a:(Giv.frs fr N).Sublist (List.range N):=List.filter_sublist;exact a.eq_of_length (by rw[h,List.length_range])
theorem RB.noInt{w:Vz}{g n K i:Nat}{x:Vec}{us:List FE}{k:IntKind}{z:Int}(h:RB w g n K x us)(f:w.cell? ⟨g,i,none⟩=some (.int k z)):False:=by
 rw[h.blk.blk.cell,List.getElem?_toArray] at f;obtain⟨t,l,j⟩:=List.mem_flatMap.1 (mO f);obtain⟨neg,a,n',c,b,m,d,e,_⟩:=(h.blk.ts t l).1;simp only[Value.agg.injEq,Array.mk.injEq,List.cons.injEq,and_true] at e;simp only[FE.cells,e.1,e.2.1,e.2.2,List.mem_cons,List.not_mem_nil,or_false] at j;rcases j with h|h|h<;>cases h
theorem CRow.ints{w i:Vz}{a:Vx}{l:Vy}{g n K:Nat}{x:Vec}{us:List FE}(h:CRow w a (l.map (fun n:Nat=>Value.int .i64 n)))(q:RB w g n K x us)(k:Only g w i):CRow i a (l.map (fun n:Nat=>Value.int .i64 n)):=⟨fun j u c=>by
 obtain⟨b,d,e,o,p⟩:=h.cell j u c;have f:b≠g:=fun e=>by
  subst e;rw[List.getElem?_map] at c;obtain⟨m,_,rfl⟩:=Option.map_eq_some_iff.1 c;exact q.noInt p
 refine⟨b,d,e,Nat.lt_of_lt_of_le o k.size,?_⟩;rw[<-p]
 exact World.cell?_of_block (k.block b o f)⟩
theorem Qfh{w:Vz}{b i:Nat}{t:Vr}{C:Vw}{v:Value}(h:SB w b t C)(c:C[i]?=some v):w.setCell ⟨b,i,none⟩ v=w:=by
 have hC:C.setIfInBounds i v=C:=by
  apply Array.ext_getElem?;intro j;rw[Array.getElem?_setIfInBounds]
  split
  . next e=>subst e;rw[c];split<;>simp_all
  . rfl
 have a:(w.setCell ⟨b,i,none⟩ v).heap=w.heap:=by
  apply Array.ext_getElem?;intro k;by_cases e:k=b
  .
   subst e;have:=h.set i v;rw[hC] at this;exact this.trans h.symm
  . exact Below.heap_setCell w ⟨b,i,none⟩ v k e
 cases w;simp only[World.setCell] at a ⊢;rw[a]
theorem RB.len_eq{w:Vz}{g n N K K':Nat}{x y:Vec}{us vs:List FE}(b:RB w g n K x us)(d:RB w g N K' y vs):n=N:=by
 have e:=b.blk.blk;have a:=d.blk.blk;unfold SB at e a;rw[e] at a;have f:=Option.some.inj a;injection f with h _
 have hl:=congrArg Array.size h;rw[List.size_toArray,List.size_toArray,Qas (c:=FE.cells) (sz:=3) (fun _=>rfl),Qas (c:=FE.cells) (sz:=3) (fun _=>rfl),b.len,d.len] at hl;omega
theorem RB.again{w:Vz}{g n K k:Nat}{x:Vec}{us:List FE}{t:FE}(h:RB w g n K x us)(c:us[k]?=some t):((w.setCell ⟨g,k*3,none⟩ t.x).setCell ⟨g,k*3+1,none⟩ t.y).setCell ⟨g,k*3+2,none⟩ t.z=w:=by
 obtain⟨b,c1,c2⟩:=h.cells c;have a:=h.blk.blk;rw[a.cell] at b c1 c2;rw[Qfh a b,Qfh a c1,Qfh a c2]
def motTo(at_:Vy)(y h0:Vec):Nat->Vec
 |0=>h0
 |i+1=>fun r=>if r=at_.getD i 0 then y i else motTo at_ y h0 i r
theorem Qdt{a:Vy}{y b:Vec}{r:Nat}(c:¬r∈ a):∀i,i<=a.length->motTo a y b i r=b r
 |0,_=>rfl
 |i+1,hi=>by
  show (if r=a.getD i 0 then y i else motTo a y b i r)=_
  rw[if_neg (fun e=>c (by
   rw[e,List.getD_eq_getElem?_getD,gE (by omega)]
   exact List.getElem_mem _)),Qdt c i (by omega)]
theorem Qbi{a:Vy}{y b:Vec}(c:a.Nodup){j:Nat}:∀i,i<=a.length->j<i->motTo a y b i (a.getD j 0)=y j
 |0,_,hj=>by omega
 |i+1,hi,hj=>by
  show (if a.getD j 0=a.getD i 0 then y i else motTo a y b i (a.getD j 0))=_
  by_cases e:j=i
  . rw[e,if_pos rfl]
  .
   rw[if_neg (fun h=>e (by
    simp only[List.getD_eq_getElem?_getD,gE (show j<a.length by omega),gE (show i<a.length by omega),Option.getD_some] at h
    exact(List.getElem_inj c).1 h)),Qbi c i (by omega) (by omega)]
def SetlSays(w:Vz)(N K:Nat)(at_:Vy)(M:List Vec)(s:List Rat)(h0:Vec)(e:Ending)(w':Vz):Prop:=
 ((e=.returned (.tuple #[.slice none 0 0,.int .i64 8])/\∀x,¬Sol at_.length M s x)∨
  (e=.returned (.tuple #[.slice none 0 0,.int .i64 9])/\∃x y,Sol at_.length M s x/\Sol at_.length M s y/\∃c,c<at_.length/\x c≠y c)∨
  (∃(g:Nat) (us:List FE) (m:Vec),e=.returned (.tuple #[.slice (some ⟨g,0,none⟩) N N,.int .i64 0])/\w.heap.size<=g/\RB w' g N K m us/\(∀r,¬r∈ at_->m r=h0 r)/\∀y,Sol at_.length M s y↔∀i,i<at_.length->y i=m (at_.getD i 0)))/\Below w.heap.size w w'
theorem Qov(a1 a2 a3:Vx)(c1 c2 c3 N ga KA J KS KP KQ KT:Nat)(js:List S2)(A:List B6)(v:List H3)(vb:List (Nat × Nat × Rat × Rat))(vh:Vy)(cv ev bv a p:Vec)(b3:List FE)(w:Vz)(h:GivV w a1 a2 a3 c1 c2 c3 N js A v vb vh cv ev bv)(ha:RB w ga N KA a b3)(b:Vy)(bh:b=Giv.frs (freeW vh) N)
 (hp:p=Giv.putF A.length (balM vb A.length vh) (fun i=>cv i*(stretchV vb (hldM vh bv v.length) i - ev i)))
 (b4:KS=2*(8388611+(2*4194305+1))+1) (b5:KP=4194305+(KS+4194305+1)) (b6:KQ=24*(8388611+KP+1)+1) (b7:KT=1+24*20971528) (k1:KQ+KA+1<=J) (k2:KT<=J) (b8:4*J+1<68719476000)
 (I:Nat->List Vec->List Vec->List Nat->Prop) (hI:Going J I) (h0:I 0 (List.zipWith (wider b.length) (setRows b b.length (Giv.stf A.length (balM vb A.length vh) cv)) (setSums b b.length p a)) [] [])
 (ba:∀L S v,I (b.length+1) L S v->Ech 0 (b.length+1) S v/\(∀x,Null (b.length+1) (List.zipWith (wider b.length) (setRows b b.length (Giv.stf A.length (balM vb A.length vh) cv)) (setSums b b.length p a)) x↔Null (b.length+1) S x)/\clnFits J S v):
 Calls prog 53 #[.agg #[.slice a1 js.length c1,.slice a2 A.length c2,.slice a3 v.length c3],.slice (some ⟨ga,0,none⟩) N N] w (SetlSays w N J b (setRows b b.length (Giv.stf A.length (balM vb A.length vh) cv)) (setSums b b.length p a) (hldM vh bv v.length)):=by
 obtain⟨V,hV⟩:=nm (w.alloc (.cells #[.slice a1 js.length c1,.slice a2 A.length c2,.slice a3 v.length c3] 26));have ax:Bl w V:=by rw[<-hV];exact(Below.refl _ _).alloc lZ _
 have bi:SB V w.heap.size 26 #[.slice a1 js.length c1,.slice a2 A.length c2,.slice a3 v.length c3]:=by rw[<-hV];exact SB.new w _ _
 obtain⟨HG,HA,E,HP,aa,af,HI,H0,ed⟩:=Ih h ha bh hp (And.intro b4 (And.intro b5 (And.intro b6 b7))) (And.intro k1 (And.intro k2 b8)) hI h0 ba;obtain⟨fq,b9⟩:=Ia ax hV;obtain⟨n,hn⟩:=nm b.length;have g:=Hi hn;have cb:N<=20:=by have:=h.n;have:=h.fv.j;omega
 have fo:n<=20:=by rw[<-hn,bh];exact Nat.le_trans (Giv.frs_len _ _) cb
 have bb:O (1<=KQ):=Hi (by omega);have cc:O (KP<=2500000000):=Hi (by omega);have cd:O (0<J):=Hi (by omega);obtain⟨Y,hY⟩:=nm V.drew;have bj:Bl V Y:=by rw[<-hY];exact(Below.refl _ _).drew
 have ad:=bi.below bj bi.lt;obtain⟨M,P,Q⟩:=Ib (ad.cell 0) (ad.cell 1) (ad.cell 2);simp only[List.getElem?_toArray,List.getElem?_cons_zero,List.getElem?_cons_succ] at M P Q;obtain⟨F,cf,cg,ay⟩:=Ic ad.lt ad (ax.trans (bj.mono ax.size)) hY;have az:O (w.heap.size<=Y.heap.size):=Hi cg.o.size;clear h ha bh hp b4 b5 b6 b7 k1 k2 b8 hI h0 ba ax hV bi hY bj ad hn;go_enter func53,ntmps53;go_wp2_with fail;rw[b9.o];generalize hB0:w.heap.size=B0 at*;have ag:=Hi hB0;clear hB0 b9;have bk:O (∀u,Below Y.heap.size Y u->Below w.heap.size w u):=Hi (fun u d=>by rw[ag.o];exact cg.o.trans (d.mono az.o))
 have ee:O (∀u,Below Y.heap.size Y u->Calls prog 111 #[.agg #[.slice a1 js.length c1,.slice a2 A.length c2,.slice a3 v.length c3]] u (Makes u (FreeF B0 b))):=Hi (fun u d=>by rw[E.o];exact(HG.o.below (bk.o u d)).free B0 (Nat.le_trans az.o d.size));refine RegG.bg 5 (fun j=>some (bif j == 4 then 6 else 16+j)) ?_;rw[ay.o];refine RegG.pu (c:=?_) [] (fun w d=>?_) ?_;rotate_left
 .
  intro K f;obtain⟨e0,e1,e2⟩:=Jb d F.o M.o P.o Q.o;go_simp;exact f
 refine RegG.ca (φ:=RowF B0 N 4194305 (hldM vh bv v.length)) [0] (RowF.stays _ _ _ _) (fun w d=>?_) ?_
 .
  intro K f;go_simp;exact Makes.use ((HG.o.below (bk.o w d)).held B0 (Nat.le_trans az.o d.size)) f
 refine RegG.pu (c:=?_) [] (fun w d=>?_) ?_;rotate_left
 .
  intro K f;obtain⟨e0,e1,e2⟩:=Jb d F.o M.o P.o Q.o;go_simp;exact f
 refine RegG.ca (φ:=FreeF B0 b) [2] (FreeF.stays _ _) (fun w d=>?_) ?_
 .
  intro K f;go_simp;exact Makes.use (ee.o w d) f
 refine RegG.ca (φ:=RowF B0 N 4194305 (hldM vh bv v.length)) [1] (RowF.stays _ _ _ _) (fun w d=>?_) ?_
 .
  intro v1 h1 K f;go_simp;exact f _ _ bR h1
 refine RegG.last (by simp only[List.nil_append,List.cons_append,List.length_append,List.length_cons,List.length_nil,Nat.reduceAdd]) (by rfl) (by rfl) (by kernel_rfl) (fun x2 d=>?_);simp only[FinG,List.nil_append,List.cons_append,Qad,Act.put,List.setIfInBounds_toArray,List.set_cons_zero,List.set_cons_succ,Nat.reduceAdd,Nat.reduceBEq,cond_true,cond_false];intro fr _ fs bl v6 h6 K f;obtain⟨T,ms,rfl,ch,ci⟩:=h6;obtain⟨fa,fc,ef,cj⟩:=IG.slice bl;subst ef;rw[g.o] at bl f ⊢;obtain⟨ck,cl,ah,cm⟩:=Ic ci cj ch d;clear bl ch ci cj d;go_simp;refine f _ _ ?_;clear f;go_wp2_with fail;obtain⟨Y2,bm⟩:=nm x2.drew;have hz2:Bl x2 Y2:=by rw[<-bm];exact(Below.refl _ _).drew
 have ae:Bl Y Y2:=cm.o.trans (hz2.mono cm.o.size);obtain⟨cn,m,G,ai,cp,bn⟩:=Ie (ce ae F.o M.o) (ce ae F.o P.o) (ce ae F.o Q.o) (ck.o.below hz2) (cl.o.below hz2) ae;have aj:=cf.o.below ae cf.o.lt;clear ay M P Q F ck cl;have ay:=Hi bm;have M:=cn;have P:=m;have Q:=G;obtain⟨F,ak⟩:=Ia aj.lt aj;have al:O (∀u,Below Y2.heap.size Y2 u->Below w.heap.size w u):=Hi (fun u d=>bk.o u (bn.o.trans (d.mono bn.o.size)));have bc:O (B0<=Y2.heap.size):=Hi (Nat.le_trans az.o bn.o.size);obtain⟨a0,bd⟩:∃S,Y2.heap.size=S:=⟨_,rfl⟩;have am:=Hi bd
 have eg:O (∀u,Below Y2.heap.size Y2 u->RowF B0 N 4194305 (hldM vh bv v.length) (.slice (some ⟨T,0,none⟩) N N) u):=Hi (fun u d=>⟨T,ms,rfl,ah.o,ai.o.below d⟩);clear cn m G bm hz2 ae aj bd;refine RegG.bg 9 (fun j=>some (bif j == 8 then 8 else 20+j)) ?_;rw[ay.o];refine RegG.pu (c:=?_) [] (fun w d=>?_) ?_;rotate_left
 .
  intro K f;obtain⟨e0,e1,e2⟩:=Jb d F.o M.o P.o Q.o;go_simp;exact f
 refine RegG.pu (c:=?_) [] (fun w d=>?_) ?_;rotate_left
 .
  intro K f;obtain⟨e0,e1,e2⟩:=Jb d F.o M.o P.o Q.o;go_simp;exact f
 refine RegG.pu (c:=?_) [] (fun w d=>?_) ?_;rotate_left
 .
  intro K f;go_simp;exact f
 refine RegG.ca (φ:=RowF B0 A.length KP (fun i=>cv i*(stretchV vb (hldM vh bv v.length) i - ev i))) [1,2] (RowF.stays _ _ _ _) (fun w d=>?_) ?_
 .
  intro K f;go_simp;exact Makes.use ((HG.o.below (al.o w d)).pulls B0 (Nat.le_trans bc.o d.size) (eg.o w d) aa.o.1 (by decide) aa.o.2.1) f
 refine RegG.ca (φ:=RowF a0 N KQ (Giv.putF A.length (balM vb A.length vh) (fun i=>cv i*(stretchV vb (hldM vh bv v.length) i - ev i)))) [0,3] (RowF.stays _ _ _ _) (fun w d=>?_) ?_
 .
  intro v3 h3;intro K f;go_simp;exact Makes.use ((HG.o.below (al.o w d)).putBy a0 (Nat.le_trans (Nat.le_of_eq am.o.symm) d.size) h3 aa.o.2.2.1 cc.o) f
 refine RegG.pu (c:=?_) [] (fun w d=>?_) ?_;rotate_left
 .
  intro K f;go_simp;exact f
 refine RegG.pu (c:=?_) [5] (fun w d=>?_) ?_;rotate_left
 .
  intro K f;go_simp;exact f
 refine RegG.ca (φ:=RowZ a0 n J) [6] (RowZ.stays _ _ _) (fun w d=>?_) ?_
 .
  intro K' f;have eh:=Qa4 n (by omega) w;obtain⟨MC,cq⟩:=nm (((List.replicate n FE.zero).flatMap FE.cells).toArray);rw[cq] at eh;go_simp;exact f _ _ (bR.alloc lZ _) ⟨_,rfl,Nat.le_trans (Nat.le_of_eq am.o.symm) d.size,RB.new w n J MC cq.symm cd.o⟩
 refine RegG.ca (φ:=RowF a0 N KQ (Giv.putF A.length (balM vb A.length vh) (fun i=>cv i*(stretchV vb (hldM vh bv v.length) i - ev i)))) [4] (RowF.stays _ _ _ _) (fun w d=>?_) ?_
 .
  intro v1 h1 K f;go_simp;exact f _ _ bR h1
 refine RegG.last (by simp only[List.nil_append,List.cons_append,List.length_append,List.length_cons,List.length_nil,Nat.reduceAdd]) (by rfl) (by rfl) (by kernel_rfl) (fun x3 d=>?_);simp only[FinG,List.nil_append,List.cons_append,Qad,Act.put,List.setIfInBounds_toArray,List.set_cons_zero,List.set_cons_succ,Nat.reduceAdd,Nat.reduceBEq,cond_true,cond_false];intro v3 _ v4 _ v7 h7 v8 h8 K f;obtain⟨D,rfl,cr,s⟩:=h7;obtain⟨gp,ps,rfl,ei,a4⟩:=h8;rw[<-HP.o] at a4;obtain⟨ej,ek,fp,ft,cs,ct,cu,cw⟩:=Ig s a4 cr d (ai.o.below d) (cp.o.below d) (ak.o.below d ak.o.lt) (al.o x3 d);have em:O (D=gp->n=N/\(∀r,r<N->p r=0)/\b=List.range N):=Hi (fun e=>by
  subst e;obtain⟨e1,e2⟩:=s.alias a4;refine⟨e1,e2,?_⟩;rw[E.o]
  exact Qh9 (by rw[<-E.o,g.o,e1]))
 have a5:O (D≠T/\B0<D/\ga<D):=Hi (by
  have h1:=ai.o.blk.blk.lt;have h2:=am.o;have h3:=ak.o.lt;have h4:=HA.o.blk.blk.lt;have h5:=bc.o;rw[ag.o] at h4
  omega)
 clear cr ei s a4 d;go_simp;refine f _ _ ?_;clear f;go_wp2_with fail;go_loopw [30] (fun iv wr=>∃(i:Nat) (ss:List FE),i<=n/\iv=.int .i64 i/\RB wr D n J (firstV (sumV b p a) i) ss/\(D≠gp->RB wr gp N KQ p ps)/\RB wr ga N KA a b3/\RB wr T N 4194305 (hldM vh bv v.length) ms/\CRow wr fa (b.map (fun n:Nat=>Value.int .i64 n))/\SB wr B0 26 #[.slice a1 js.length c1,.slice a2 A.length c2,.slice a3 v.length c3]/\Below w.heap.size w wr) (fun iv _=>n - (intOf iv).toNat)
 case atStart=>
  refine⟨0,List.replicate n FE.zero,by omega,rfl,?_,fun _=>ek.o,HA.o.below cw.o,cs.o,ct.o,cu.o,cw.o⟩;have e:firstV (sumV b p a) 0=fun _=>0:=funext fun i=>by unfold firstV;rw[if_neg (by omega)]
  rw[e];exact ej.o
 case round=>
  obtain⟨i,ss,hi,rfl,an,ap,aq,ar,cx,cy,cz⟩:=hrel;obtain⟨bo,c4,bp,c5,a6,au,av⟩:=If an ap aq ar cx cy cz;clear an ap aq ar cx cy cz;by_cases c6:i<n
  .
   obtain⟨r,B⟩:∃r,b[i]?=some r:=⟨b[i]'(by have:=g.o;omega),gE _⟩;obtain⟨ab,ao,rfl,en,t0⟩:=Qds a6.o B;have U:r<N:=by have h1:=mO B;rw[E.o] at h1;exact(Giv.frs_mem.1 h1).1
   obtain⟨ta,c7⟩:=bp.o.get U;have eo:∃x1 x2 x3,wr.cell? ⟨gp,r*3,none⟩=some x1/\wr.cell? ⟨gp,r*3+1,none⟩=some x2/\wr.cell? ⟨gp,r*3+2,none⟩=some x3/\FF (p r) KQ (.agg #[x1,x2,x3]) wr:=by
    by_cases e:D=gp
    .
     obtain⟨e1,e2,e3⟩:=em.o e;have fu:r=i:=by rw[e3,List.getElem?_range (by omega)] at B;exact(Option.some.inj B).symm
     obtain⟨x1,x2,x3,g1,g2,g3,g4⟩:=bo.o.at (k:=r) (by omega);rw[e] at g1 g2 g3;have e5:firstV (sumV b p a) i r=p r:=by unfold firstV;rw[if_neg (by omega),e2 r U]
     rw[e5] at g4;refine⟨x1,x2,x3,g1,g2,g3,g4.1,?_,bb.o⟩;rw[e2 r U];exact Fits.zero.mono bb.o
    . exact(c4.o e).at U
   obtain⟨px,py,pz,g1,g2,g3,c8⟩:=eo;obtain⟨Y6,bq⟩:=nm wr.drew;have H:Bl wr Y6:=by rw[<-bq];exact(Below.refl _ _).drew
   have R:=World.block_lt_of_cell? _ _ g1;obtain⟨c9,da,db⟩:=Ib (ce H R g1) (ce H R g2) (ce H R g3);have ep:O (gp<Y6.heap.size):=Hi (Nat.lt_of_lt_of_le R H.size);obtain⟨eq,dc,dd,er,es,de,df⟩:=If (c8.below H) (bp.o.below H) c7 (bo.o.below H) B bq H;have q1:((i:Int)<(n:Int)):=by omega
   have q2:((r:Int)<(N:Int)):=by omega
   have et:O (KQ+KA<68719476000):=Hi (by have:=af.o;omega);clear B c7 c8 bq H R g1 g2 g3;go_wp2_with fail;clear t0;refine RegG.bg 12 (fun j=>some (35+j)) ?_;rw[de.o];refine RegG.pu (c:=?_) [] (fun w d=>?_) ?_;rotate_left
   .
    intro K f;go_simp;exact f
   refine RegG.pu (c:=?_) [] (fun w d=>?_) ?_;rotate_left
   .
    intro K f;go_simp;exact f
   refine RegG.pu (c:=?_) [] (fun w d=>?_) ?_;rotate_left
   .
    intro K f;go_simp;exact f
   refine RegG.pu (c:=?_) [] (fun w d=>?_) ?_;rotate_left
   .
    intro K f;go_simp;exact f
   refine RegG.pu (c:=?_) [2,3] (fun w d=>?_) ?_;rotate_left
   .
    intro K f;go_simp;exact f
   refine RegG.pu (c:=?_) [4] (fun w d=>?_) ?_;rotate_left
   .
    intro K f;obtain⟨e0,e1,e2⟩:=Jb d ep.o c9.o da.o db.o;go_simp;exact f
   refine RegG.pu (c:=?_) [] (fun w d=>?_) ?_;rotate_left
   .
    intro K f;go_simp;exact f
   refine RegG.pu (c:=?_) [] (fun w d=>?_) ?_;rotate_left
   .
    intro K f;go_simp;exact f
   refine RegG.pu (c:=?_) [6,7] (fun w d=>?_) ?_;rotate_left
   .
    intro K f;go_simp;exact f
   refine RegG.pu (c:=?_) [8] (fun w d=>?_) ?_;rotate_left
   .
    intro K f;obtain⟨e0,e1,e2⟩:=(dc.o.below d).cells dd.o;go_simp;exact f
   refine RegG.ca (φ:=FF (p r - a r) (KQ+KA+1)) [5,9] (FF.stays _ _) (fun w d=>?_) ?_
   .
    intro K f;go_simp;exact Makes.use (FF.minus (eq.o.below d) ((dc.o.below d).fe dd.o) et.o) f
   refine RegG.pu (c:=?_) [0,1] (fun w d=>?_) ?_;rotate_left
   .
    intro K f;go_simp;exact f
   refine RegG.last (by simp only[List.nil_append,List.cons_append,List.length_append,List.length_cons,List.length_nil,Nat.reduceAdd]) (by rfl) (by rfl) (by kernel_rfl) (fun x4 d=>?_);simp only[FinG,List.nil_append,List.cons_append,Qad,Act.put,List.setIfInBounds_toArray,List.set_cons_zero,List.set_cons_succ,Nat.reduceAdd,Nat.reduceBEq,cond_true,cond_false];intro fw dg K f;have Z:=dg.mono (k':=J) af.o.1;obtain⟨x',y',z',rfl⟩:=Z.parts;obtain⟨o1,o2,o3⟩:=Z.1.one;have dh:=Qaa prog o1;have di:=Qaa prog o2;have dj:=Qaa prog o3;have C:=er.o.below d;obtain⟨y0,y1,y2,d0,d1,d2,_⟩:=C.at c6;have f0:=C.blk.blk.free (i*3);have f1:=C.blk.blk.free (i*3+1);have f2:=C.blk.blk.free (i*3+2)
   have ho:Only D x4 (((x4.setCell ⟨D,i*3,none⟩ x').setCell ⟨D,i*3+1,none⟩ y').setCell ⟨D,i*3+2,none⟩ z'):=(((Only.refl D x4).setCell (i*3) x').setCell (i*3+1) y').setCell (i*3+2) z';have W:=df.o.trans (d.mono df.o.size);have eu:=Hi (C.set c6 Z (firstV (sumV b p a) (i+1)) (fun l=>by
    unfold firstV;by_cases e:l=i
    .
     subst e;rw[if_pos (by omega),if_pos rfl];unfold sumV;rw[show b.getD l 0=r by rw[List.getD_eq_getElem?_getD,es.o];rfl]
    .
     rw[if_neg e];by_cases e2:l<i
     . rw[if_pos (by omega),if_pos e2]
     . rw[if_neg (by omega),if_neg e2]))
   have ew:O (D≠gp->RB (((x4.setCell ⟨D,i*3,none⟩ x').setCell ⟨D,i*3+1,none⟩ y').setCell ⟨D,i*3+2,none⟩ z') gp N KQ p ps):=Hi (fun e=>((c4.o e).below W).only C ho (fun h=>e h.symm));obtain⟨ex,ey⟩:=Ia ((bp.o.below W).only C ho (by have:=a5.o;omega)) ((c5.o.below W).only C ho (by have:=a5.o;omega));have ez:O (CRow (((x4.setCell ⟨D,i*3,none⟩ x').setCell ⟨D,i*3+1,none⟩ y').setCell ⟨D,i*3+2,none⟩ z') (some ⟨ab,ao,none⟩) (b.map (fun n:Nat=>Value.int .i64 n))):=Hi ((a6.o.below W).ints C ho);obtain⟨e4,e6⟩:=Ia ((au.o.below W au.o.lt).only ho (by have:=a5.o;omega)) (Only.fresh (av.o.trans (W.mono av.o.size)) ho (by rw[ag.o];have:=a5.o;omega));clear o1 o2 o3 C dg Z d ho W;go_simp;refine f _ _ ?_;clear f d0 d1 d2 f0 f1 f2 dh di dj;go_wp2;go_roundw
   case rel=>exact⟨i+1,_,by omega,by go_num,eu.o,ew.o,ex.o,ey.o,ez.o,e4.o,e6.o⟩
   case measure=>simp[intOf];omega
  .
   obtain rfl:i=n:=by omega
   have x0:=au.o.cell 0;have x1:=au.o.cell 1;have dk:=au.o.cell 2;simp only[List.getElem?_toArray,List.getElem?_cons_zero,List.getElem?_cons_succ] at x0 x1 dk;have dl:=Hi ((HG.o.below av.o).stiff aa.o.2.2.2);go_wp2_with fail;refine Makes.use dl.o ?_;intro v5 w5 br h5;obtain⟨e7,dm,dn⟩:=Ib h5 (Qot (ca:=fc) h5 (a6.o.below br) g.o (fun r B=>by rw[E.o] at B;exact⟨(Giv.frs_mem.1 B).1,(Giv.frs_mem.1 B).1⟩) (by omega) (by have:=aa.o.2.2.2;omega)) br;clear h5 br x0 x1 dk;go_wp2_with fail;refine Makes.use dm.o ?_;rintro _ w6 dp ⟨G6,g6,rfl,be,bf⟩;have aw:Bl wr w6:=dn.o.trans (dp.mono dn.o.size);obtain⟨rs,r1,r2,r3,r4,r5⟩:=bf.gm.rows (fun r c hc=>by unfold partV;rw[if_neg (by omega)]);rw[be] at r1 r2 r5;have s:=bo.o.below aw;have a7:ss.map (·.q)=setSums b i p a:=by
    apply List.ext_getElem?;intro l;unfold setSums;rw[List.getElem?_map,List.getElem?_map];rcases Nat.lt_or_ge l i with h|h
    .
     obtain⟨t,X⟩:=s.get h;rw[X,List.getElem?_range h];have:=(s.val l t X).1;unfold firstV at this;rw[if_pos h] at this;simp[this]
    . rw[List.getElem?_eq_none (by rw[s.len];exact h),List.getElem?_eq_none (by simpa using h)]
      rfl
   have hq:=s.blk.row;rw[s.len] at hq;have bt:=H0.o;have bu:=ed.o;rw[g.o] at bt bu;have bw:=Qvh (some ⟨G6,0,none⟩) (some ⟨D,0,none⟩) i i i J rs ss w6 I HI.o r2 (fun r B t X=>Nat.le_trans (r4 r B t X) af.o.2.1) hq (fun t X=>by obtain⟨l,hl⟩:=List.getElem?_of_mem X;exact(s.val l t hl).2) (by rw[s.len,r1]) (by omega) (by omega) cd.o af.o.2.2 (by rw[r5,a7];exact bt) (by rw[r5,a7];exact bu);rw[r5,a7,r1] at bw;obtain⟨dq,dr,e8,e9⟩:=Ic bw (av.o.trans (aw.mono av.o.size)) (c5.o.below aw) (a6.o.below aw);clear be bf dp aw r1 r2 r3 r4 r5 s a7 hq bt bu bw dl dm e7;go_wp2_with fail;go_fit dq.o;rintro e w7 ⟨bx,a8⟩;obtain⟨bz,ds,fb⟩:=Ib (dr.o.trans (a8.mono dr.o.size)) (e8.o.below a8) (e9.o.below a8);clear a8 dq
   rcases bx with ⟨rfl,dt⟩|⟨rfl,du⟩|⟨gx,xs,rfl,dv,dw,dx,dy⟩
   .
    have b0:=Hi dt;clear dt;go_wp2;go_ret2;refine⟨.inl ⟨rfl,?_⟩,bz.o⟩;rw[g.o];exact b0.o
   .
    have b0:=Hi du;clear du;go_wp2;go_ret2;refine⟨.inr (.inl ⟨rfl,?_⟩),bz.o⟩;rw[g.o];exact b0.o
   .
    have fd:O (RB w7 gx i J (qAt xs) xs):=Hi ⟨dv,dw,fun l t X=>⟨(Qbb X).symm,dx t (mO X)⟩⟩;have ff:O (∀y,Sol i (setRows b i (Giv.stf A.length (balM vb A.length vh) cv)) (setSums b i p a) y↔∀l,l<i->y l=qAt xs l):=Hi (fun y=>(dy y).trans ⟨fun h l hl=>by
     obtain⟨t,X⟩:∃t,xs[l]?=some t:=⟨xs[l]'(by omega),gE _⟩;rw[Qbb X];exact h l t X,fun h l t X=>by
     rw[<-Qbb X]
     exact h l (by have:=(gZ X).1;omega)⟩)
    have dz:O b.Nodup:=Hi (by rw[E.o];exact List.nodup_range.filter _);have fg:=Hi (ds.o.mono (K':=J) (by have h1:=af.o.2.1;have h2:=aa.o.2.2.2;omega));clear dv dw dx dy ds;go_wp2_with fail;go_loopw [64] (fun jv wl=>∃(j:Nat) (us:List FE),j<=i/\jv=.int .i64 j/\RB wl T N J (motTo b (qAt xs) (hldM vh bv v.length) j) us/\RB wl gx i J (qAt xs) xs/\CRow wl fa (b.map (fun n:Nat=>Value.int .i64 n))/\Below w.heap.size w wl) (fun jv _=>i - (intOf jv).toNat)
    case atStart=>exact⟨0,ms,by omega,rfl,fg.o,fd.o,fb.o,bz.o⟩
    case round=>
     obtain⟨j,us,hj,rfl,an,ap,aq,ar⟩:=hrel;obtain⟨m,G,ea,eb⟩:=Ic an ap aq ar;clear an ap aq ar;by_cases fh:j<i
     .
      obtain⟨r,B⟩:∃r,b[j]?=some r:=⟨b[j]'(by have:=g.o;omega),gE _⟩;obtain⟨ab,ao,rfl,en,t0⟩:=Qds ea.o B;have U:r<N:=by have h1:=mO B;rw[E.o] at h1;exact(Giv.frs_mem.1 h1).1
      obtain⟨tx,a9⟩:=G.o.get fh;obtain⟨d0,d1,d2⟩:=G.o.cells a9;have b1:=G.o.fe a9;obtain⟨o1,o2,o3⟩:=b1.1.one;have dh:=Qaa prog o1;have di:=Qaa prog o2;have dj:=Qaa prog o3;obtain⟨y0,y1,y2,c0,c1,c2,_⟩:=m.o.at U;have f0:=m.o.blk.blk.free (r*3);have f1:=m.o.blk.blk.free (r*3+1);have f2:=m.o.blk.blk.free (r*3+2);have ho:Only T wr (((wr.setCell ⟨T,r*3,none⟩ tx.x).setCell ⟨T,r*3+1,none⟩ tx.y).setCell ⟨T,r*3+2,none⟩ tx.z):=(((Only.refl T wr).setCell (r*3) tx.x).setCell (r*3+1) tx.y).setCell (r*3+2) tx.z;have fi:=Hi (m.o.set U b1 (motTo b (qAt xs) (hldM vh bv v.length) (j+1)) (fun l=>by
       show (if l=b.getD j 0 then qAt xs j else motTo b (qAt xs) (hldM vh bv v.length) j l)=_
       rw[show b.getD j 0=r by rw[List.getD_eq_getElem?_getD,B];rfl]))
      have fj:O (RB (((wr.setCell ⟨T,r*3,none⟩ tx.x).setCell ⟨T,r*3+1,none⟩ tx.y).setCell ⟨T,r*3+2,none⟩ tx.z) gx i J (qAt xs) xs):=Hi (by
       by_cases e:gx=T
       .
        have b2:=G.o;rw[e] at b2;have fk:=b2.len_eq m.o;have ec:b=List.range N:=by
         rw[E.o];exact Qh9 (by rw[<-E.o,g.o,fk])
        have fl:r=j:=by rw[ec,List.getElem?_range (by omega)] at B;exact(Option.some.inj B).symm
        rw[fl,b2.again a9];exact G.o
       . exact G.o.only m.o ho e)
      obtain⟨fm,fn⟩:=Ia (ea.o.ints m.o ho) (Only.fresh eb.o ho (by rw[ag.o];exact ah.o));have q1:((j:Int)<(i:Int)):=by omega
      have q2:((r:Int)<(N:Int)):=by omega
      clear B a9 b1 o1 o2 o3 ho;go_wp2;go_roundw
      case rel=>exact⟨j+1,_,by omega,by go_num,fi.o,fj.o,fm.o,fn.o⟩
      case measure=>simp[intOf];omega
     .
      obtain rfl:j=i:=by omega
      go_wp2;go_ret2;refine⟨.inr (.inr ⟨T,us,_,rfl,by rw[ag.o];exact ah.o,m.o,fun r B=>Qdt B _ (Nat.le_of_eq g.o.symm),fun y=>?_⟩),eb.o⟩;rw[g.o];refine(ff.o y).trans ⟨fun h l hl=>?_,fun h l hl=>?_⟩
      . rw[Qbi dz.o _ (Nat.le_of_eq g.o.symm) hl]
        exact h l hl
      . have:=h l hl
        rwa [Qbi dz.o _ (Nat.le_of_eq g.o.symm) hl] at this
end Go.Proofs.YtkkadnoecklepaaGreatDoor
