import Derived.Test.YtkkadnoecklepaaGreatDoorL09GivH
namespace Go.Proofs.YtkkadnoecklepaaGreatDoor
open Go.RowKit
open Go.Proofs.Tryz
set_option linter.unusedSimpArgs false
set_option linter.unusedVariables false
set_option maxHeartbeats 8000000
set_option maxRecDepth 1000000
theorem Qin(a:Vy)(W:Nat):NoU64 (a.map (slRow W)).toArray:=fun i n=>by
 rw[List.getElem?_toArray,List.getElem?_map];cases a[i]?<;>simp[slRow]
theorem GA.only{u c:Vz}{B G W K g j:Nat}{d k:Vy}{M:Nat->Nat->Rat}(h:GA u B G W K d M)(a:Only g u c)(hs:SB u g 98 (k.map (slRow j)).toArray)(l:g<B):GA c B G W K d M:=by
 refine⟨⟨Below.refl _ _,h.gm.o.only a (by have:=h.gm.lo;omega),fun r e f=>?_,h.gm.nd,h.gm.ne,h.gm.lo,h.gm.los⟩,Nat.lt_of_lt_of_le h.hi a.size⟩;obtain⟨us,b,m⟩:=h.gm.row r e f;exact⟨us,⟨b.blk.only a (by have:=h.gm.los r e f;omega),fun t i=>⟨(b.ts t i).1.only a hs (Qin _ _),(b.ts t i).2⟩⟩,m⟩
theorem FB.only{q:Rat}{k:Nat}{u c:Vz}{b g f:Nat}{i:Vy}(h:FB q k u b)(d:Only g u c)(hs:SB u g 98 (i.map (slRow f)).toArray)(a:b≠g):FB q k c b:=by
 obtain⟨x,y,z,j,e⟩:=h;exact⟨x,y,z,j.only d a,e.1.only d hs (Qin _ _),e.2⟩
def BlkF(B N:Nat):Fact:=fun v u=>∃(G:Nat) (gs:Vy),v=.slice (some ⟨G,0,none⟩) N N/\gs.length=N/\GK u B G N gs (fun _=>1) (fun _ _=>0)
theorem BlkF.stays(B N:Nat):Stays (BlkF B N):=fun _ _ _ a ⟨G,b,e,c,d⟩=>⟨G,b,e,c,d.below a⟩
theorem Qp0(N B:Nat)(w:Vz)(i:N<=1000)(hB:B<=w.heap.size):Calls prog 160 #[.int .i64 N,.int .i64 N] w (Makes w (BlkF B N)):=by
 refine(Qdp N N w i i).mono ?_;rintro e v ⟨⟨G,k,rfl,f,j,b,a,h⟩,l⟩;refine⟨_,rfl,l,G,k,rfl,f,b,fun r g d=>⟨_,(a r g d).1,by simp,fun c t m=>?_⟩,h,fun r g d=>by have:=(a r g d).2;omega,by omega,fun r g d=>by have:=(a r g d).2;omega⟩;obtain⟨_,rfl⟩:=List.mem_replicate.1 (mO m);exact⟨by simp[FE.zero],by simp[FE.zero]⟩
def MatF(B n W K:Nat)(M:Nat->Nat->Rat):Fact:=fun v u=>∃(G:Nat) (gs:Vy),v=.slice (some ⟨G,0,none⟩) n n/\gs.length=n/\GA u B G W K gs M
theorem MatF.stays(B n W K:Nat)(M:Nat->Nat->Rat):Stays (MatF B n W K M):=fun _ _ _ a ⟨G,b,e,c,d⟩=>⟨G,b,e,c,d.below a⟩
theorem GA.low{u:Vz}{B B' G W K:Nat}{a:Vy}{M:Nat->Nat->Rat}(h:GA u B G W K a M)(hB:B'<=B):GA u B' G W K a M:=⟨⟨h.gm.base,h.gm.o,h.gm.row,h.gm.nd,h.gm.ne,Nat.le_trans hB h.gm.lo,fun r g b=>Nat.le_trans hB (h.gm.los r g b)⟩,h.hi⟩
section
variable {a1 a2 a3:Vx} {c1 c2 c3:Nat} {js:List S2} {bs:List B6} {hs:List H3} {vb:List (Nat × Nat × Rat × Rat)} {vh:Vy}
theorem of_f(N W B:Nat)(w:Vz)(f:Glob w)(g:FrRow w a1 a2 a3 c1 c2 c3 js bs hs)(a:FrV 1048576 js bs hs vb vh)(q:2*js.length=N)(hW:bs.length+hs.length=W)(hB:B<=w.heap.size):
 Calls prog 98 #[.agg #[.slice a1 js.length c1,.slice a2 bs.length c2,.slice a3 hs.length c3]] w (Makes w (MatF B N W 8388611 (balM vb bs.length vh))):=by
 refine(Qe8 a1 a2 a3 c1 c2 c3 1048576 8388611 js bs hs vb vh w f g a.j a.b a.h a.lb a.lh a.vb a.vh a.n (by decide)).mono ?_;rintro e r ⟨i,k,l,m,o,p,rfl,d,c⟩;obtain rfl:i=N:=by omega
 obtain rfl:k=W:=by omega
 exact⟨_,rfl,c.base,l,m,rfl,d,c.toGM.ga.low (by omega)⟩
end
theorem Qp1{B n W V K:Nat}{M:Nat->Nat->Rat}{v:Value}{w:Vz}(B':Nat)(h:MatF B n W K M v w)(hl:n<=1000)(hW:W<=1000)(i:V<=W)(c:0<K)(hB:B'<=w.heap.size):Calls prog 168 #[v,.int .i64 V] w (Makes w (MatF B' V n K (turnV V M n 0))):=by
 obtain⟨G,j,rfl,d,f⟩:=h;refine(Qpx G B W V K n j M w f d hl hW i c).mono ?_;rintro e w' ⟨k,g,rfl,a,b⟩;exact⟨_,rfl,b.base,k,g,rfl,a,b.ga.low hB⟩
theorem Qp2(a1 a2 a3:Vx)(c1 c2 c3 N KT:Nat)(js:List S2)(bs:List B6)(hs:List H3)(vb:List (Nat × Nat × Rat × Rat))(vh:Vy)(cv:Vec)(w:Vz)(hg:Glob w)(hf:FrRow w a1 a2 a3 c1 c2 c3 js bs hs)(hv:FrV 1048576 js bs hs vb vh)(hc:∀(i:Nat) (b:B6),bs[i]?=some b->QOf b.c.data.toList (cv i)/\b.c.size<=1048576)(hN:2*js.length=N)(d:KT=1+24*20971528):
 Calls prog 114 #[.agg #[.slice a1 js.length c1,.slice a2 bs.length c2,.slice a3 hs.length c3]] w (Makes w (MatF w.heap.size N N KT (Giv.stf bs.length (balM vb bs.length vh) cv))):=by
 obtain⟨V,hV⟩:=nm (w.alloc (.cells #[.slice a1 js.length c1,.slice a2 bs.length c2,.slice a3 hs.length c3] 26));have b4:Bl w V:=by rw[<-hV];exact(Below.refl _ _).alloc lZ _
 have b5:SB V w.heap.size 26 #[.slice a1 js.length c1,.slice a2 bs.length c2,.slice a3 hs.length c3]:=by rw[<-hV];exact SB.new w _ _
 obtain⟨bi,HG,HF,HV,HC,b6,b7,HN,HK⟩:=Ih b5 hg hf hv hc b4 hV hN d;have n1:=hv.j;have n2:=hv.b;have n3:=hv.h;have et:N<=20:=by omega
 clear b4 hV b5 hg hf hv d hc hN;go_enter func114,ntmps114;go_wp2_with fail;rw[b7.o];obtain⟨Y,hY⟩:=nm V.drew;have bj:Bl V Y:=by rw[<-hY];exact(Below.refl _ _).drew
 have Q:=bi.o.below bj bi.o.lt;obtain⟨A,B,C⟩:=Ib (Q.cell 0) (Q.cell 1) (Q.cell 2);simp only[List.getElem?_toArray,List.getElem?_cons_zero,List.getElem?_cons_succ] at A B C;obtain⟨n,bk,bl⟩:=Ib Q.lt Q (b6.o.trans (bj.mono b6.o.size));obtain⟨U,ak⟩:=nm w.heap.size;have b8:O (∀u,Calls prog 107 #[.agg #[.slice a1 js.length c1,.slice a2 bs.length c2,.slice a3 hs.length c3]] u (Makes u (Is (.int .i64 N)))):=Hi (fun u=>(Qb6 a1 a2 a3 c1 c2 c3 js.length bs.length hs.length u n1).mono (fun e w' h=>⟨_,h.1,h.2,by have:=HN.o;show _=_;rw[show 2*(js.length:Int)=(N:Int) by omega]⟩));obtain⟨al,bm⟩:=Ia hY ak;have du:O (U<=Y.heap.size):=Hi (by rw[<-ak];exact bl.o.size);rw[ak] at A B C n bk ⊢;clear hY bj Q ak b7 bi;refine RegG.bg 5 (fun j=>some (9+j)) ?_;rw[al.o]
 refine RegG.pu (c:=?_) [] (fun w a=>?_) ?_;rotate_left
 .
  intro K d;obtain⟨e0,e1,W⟩:=Jb a n.o A.o B.o C.o;go_simp;exact d
 refine RegG.ca (φ:=Is (.int .i64 N)) [0] ((fun _ _ _ _ h=>h)) (fun w a=>?_) ?_
 .
  intro K d;go_simp;exact Makes.use (b8.o w) d
 refine RegG.pu (c:=?_) [] (fun w a=>?_) ?_;rotate_left
 .
  intro K d;obtain⟨e0,e1,W⟩:=Jb a n.o A.o B.o C.o;go_simp;exact d
 refine RegG.ca (φ:=Is (.int .i64 N)) [2] ((fun _ _ _ _ h=>h)) (fun w a=>?_) ?_
 .
  intro K d;go_simp;exact Makes.use (b8.o w) d
 refine RegG.ca (φ:=BlkF U N) [1,3] (BlkF.stays _ _) (fun w a=>?_) ?_
 .
  intro K d;go_simp;exact Makes.use (Qp0 N U w (by omega) (Nat.le_trans du.o a.size)) d
 refine RegG.last (by simp only[List.nil_append,List.cons_append,List.length_append,List.length_cons,List.length_nil,Nat.reduceAdd]) (by rfl) (by rfl) (by kernel_rfl) (fun x2 a=>?_);simp only[FinG,List.nil_append,List.cons_append,Qad,Act.put,List.setIfInBounds_toArray,List.set_cons_zero,List.set_cons_succ,Nat.reduceAdd,Nat.reduceBEq,cond_true,cond_false];intro v4 h4 K d;obtain⟨R,dv,rfl,ap,aq⟩:=h4;obtain⟨b9,ar,cb⟩:=Ib a aq ap;clear aq ap a;go_simp;refine d _ _ ?_;clear d;go_wp2_with fail;obtain⟨Y2,bn⟩:=nm x2.drew;have hz2:Bl x2 Y2:=by rw[<-bn];exact(Below.refl _ _).drew
 have S:=b9.o.trans (hz2.mono b9.o.size);have p:=Hi (bl.o.trans (S.mono bl.o.size));have L:=bk.o.below S bk.o.lt;obtain⟨cc,cd,cf,Z⟩:=Ic (ce S n.o A.o) (ce S n.o B.o) (ce S n.o C.o) (ar.o.below hz2);clear al A B C n ar;have al:=Hi bn;have A:=cc;have B:=cd;have C:=cf;obtain⟨n,au⟩:=Ia L.lt L;have cg:O (U≠R):=Hi (fun e=>by
  have h1:=Z.o.o;have h2:=L;rw[e] at h2;unfold SB at h1 h2;rw[h1] at h2;have h3:=Option.some.inj h2;injection h3 with _ h4
  exact absurd h4 (by decide))
 have dw:=Hi Z.o.o.lt;obtain⟨BT,bp⟩:=nm Y2.heap.size;obtain⟨av,ch⟩:=Ia bp (Nat.le_of_eq bp.symm);have ci:O (bs.length<=bs.length+hs.length/\bs.length+hs.length<=1000):=Hi (by omega);clear cc cd cf bn hz2 S L bp;refine RegG.bg 8 (fun j=>some (14+j)) ?_;rw[al.o];refine RegG.pu (c:=?_) [] (fun w a=>?_) ?_;rotate_left
 .
  intro K d;obtain⟨e0,e1,W⟩:=Jb a n.o A.o B.o C.o;go_simp;exact d
 refine RegG.ca (φ:=MatF BT N (bs.length+hs.length) 8388611 (balM vb bs.length vh)) [0] (MatF.stays _ _ _ _ _) (fun w a=>?_) ?_
 .
  intro K d;go_simp;exact Makes.use (of_f N _ BT w (HG.o.below (p.o.trans (a.mono p.o.size))) (HF.o.below (p.o.trans (a.mono p.o.size))) HV.o HN.o rfl (Nat.le_trans ch.o a.size)) d
 refine RegG.p0 [] ?_;refine RegG.pu (c:=?_) [2] (fun w a=>?_) ?_;rotate_left
 .
  intro K d;obtain⟨e0,e1,W⟩:=Jb a n.o A.o B.o C.o;go_simp;exact d
 refine RegG.p0 [3] ?_;refine RegG.ca (φ:=MatF BT bs.length N 8388611 (turnV bs.length (balM vb bs.length vh) N 0)) [1,4] (MatF.stays _ _ _ _ _) (fun w a=>?_) ?_
 .
  intro v1 h1 K d;go_simp;exact Makes.use (Qp1 BT h1 (by omega) ci.o.2 ci.o.1 (by decide) (by rw[<-av.o];exact a.size)) d
 refine RegG.ca (φ:=Is (.int .i64 (bs.length:Nat))) [5] (fun _ _ _ _ h=>h) (fun w a=>?_) ?_
 .
  intro v5 h5 K d;obtain⟨G5,g5,rfl,_,_⟩:=h5;go_simp;exact d _ _ bR rfl
 refine RegG.p0 [] ?_;refine RegG.fi (fun x3 a=>?_);intro v1 _ v5 h5;obtain⟨GT,gt,rfl,aw,cj⟩:=h5;obtain⟨eu,ck,cl,cm,cn,dy⟩:=Ie a cj aw (Z.o.below a) (au.o.below a au.o.lt) (p.o.trans (a.mono p.o.size));have cp:O (R<BT):=Hi (by rw[<-av.o];exact dw.o);clear cj aw a;obtain⟨m,bq⟩:=nm (balM vb bs.length vh);have dz:=Hi bq;rw[bq] at ck ⊢;clear bq;go_wp2_with fail;go_loopw [21] (fun iv wr=>∃(k:Nat) (gs:Vy),k<=bs.length/\iv=.int .i64 k/\gs.length=N/\GK wr U R N gs (fun _=>1+k*20971528) (stfTo m cv k 0)/\GA wr BT GT N 8388611 gt (turnV bs.length m N 0)/\SB wr U 26 #[.slice a1 js.length c1,.slice a2 bs.length c2,.slice a3 hs.length c3]/\Below w.heap.size w wr) (fun iv _=>bs.length - (intOf iv).toNat)
 case atStart=>exact⟨0,dv,by omega,rfl,cb.o,cm.o.mono (fun r=>by omega) (fun r c _ _=>by simp[stfTo,dot];grind),ck.o,cn.o,dy.o⟩
 case round=>
  obtain⟨k,gs,hk,rfl,aa,D,ab,ad,ae⟩:=hrel;obtain⟨f,cq,F,E,HB⟩:=Id D aa ab ad ae;clear D aa ab ad ae;by_cases cr:k<bs.length
  .
   obtain⟨b,br⟩:∃b,bs[k]?=some b:=⟨bs[k],gE cr⟩;obtain⟨gk,D⟩:∃g,gt[k]?=some g:=⟨gt[k]'(by have:=cl.o;omega),gE _⟩;have s0:=F.o.gm.cell D;obtain⟨bb,bo,rfl,ev,d0,d1,d2,d3,d4,d5⟩:=(HF.o.b.below HB.o).bar br;have x1:=E.o.cell 1;simp only[List.getElem?_toArray,List.getElem?_cons_zero,List.getElem?_cons_succ] at x1;have cs:=Hi (HC.o k b br);have ct:=Hi (FF.of (K:=4194305) (HG.o.below HB.o) cs.o.1 cs.o.2 (by decide) (by decide));have q1:((k:Int)<(bs.length:Int)):=by omega
   have cu:=Hi D;clear br D;go_wp2_with fail;refine Makes.use ct.o ?_;intro v6 w6 a h6;obtain⟨x6,y6,z6,rfl⟩:=h6.parts;have cw:=Hi h6;obtain⟨⟨nx,ax,lx,cx,bx,mx,dx,ex,_⟩,_,_⟩:=h6;simp only[Value.agg.injEq,Array.mk.injEq,List.cons.injEq,and_true] at ex;obtain⟨rfl,rfl,rfl⟩:=ex;obtain⟨X6,am⟩:∃X,w6.alloc (.cells #[.bool nx,.slice ax lx cx,.slice bx mx dx] 107)=X:=⟨_,rfl⟩;have bt:Bl w6 X6:=by rw[<-am];exact(Below.refl _ _).alloc lZ _
   have af:=a.trans (bt.mono a.size);have cy:O (FB (cv k) 4194305 X6 w6.heap.size):=Hi ⟨_,_,_,by rw[<-am];exact SB.new w6 _ _,cw.o.below bt⟩;obtain⟨cz,c4,c5,ea,c6,c7⟩:=Ie (f.o.below af) (F.o.below af) (E.o.below af E.o.lt) (HB.o.trans (af.mono HB.o.size)) (Nat.lt_of_lt_of_le f.o.o.lt a.size) am;obtain⟨C6,bu⟩:=nm w6.heap.size;rw[bu] at cy c6;have c8:=Hi bu;clear a am bt af bu d0 d1 d2 d3 d4 d5 s0 x1 ct f F E HB cw;go_wp2_with fail;rw[c7.o]
   try simp only[c8.o]
   go_loopw [35] (fun jv wi=>∃(j:Nat) (gs:Vy),j<=N/\jv=.int .i64 j/\gs.length=N/\GK wi U R N gs (fun r=>if r<j then 1+(k+1)*20971528 else 1+k*20971528) (stfTo m cv k j)/\GA wi BT GT N 8388611 gt (turnV bs.length m N 0)/\SB wi U 26 #[.slice a1 js.length c1,.slice (some ⟨bb,bo,none⟩) bs.length c2,.slice a3 hs.length c3]/\FB (cv k) 4194305 wi C6/\Below w.heap.size w wi) (fun jv _=>N - (intOf jv).toNat)
   case atStart=>exact⟨0,gs,by omega,rfl,cq.o,cz.o.mono (fun r=>by simp) (fun _ _ _ _=>rfl),c4.o,c5.o,cy.o,ea.o⟩
   case round=>
    obtain⟨j,G,hj,rfl,aa,D,ab,ad,c9,ae⟩:=hrel;obtain⟨f,s,F,E,ay,HB⟩:=Ie D aa ab ad c9 ae;clear D aa ab ad c9 ae;by_cases eb:j<N
    .
     obtain⟨us,bv,bw,ag⟩:=F.o.gm.row k gk cu.o;obtain⟨e,he⟩:∃e,us[j]?=some e:=⟨us[j]'(by omega),gE _⟩;obtain⟨rb,ro,ec,ew,d0,d1,d2⟩:=bv.row.at he;cases ec;simp only[Nat.zero_add] at d0 d1 d2;have bz:∀v,v<N->turnV bs.length m N 0 k v=m v k:=fun v hv=>by unfold turnV;rw[if_pos ⟨cr,.inl hv⟩]
     have da:FF (m j k) 8388611 (.agg #[e.x,e.y,e.z]) wr:=by
      have h1:=ag j e he;rw[<-bz j eb,<-h1.1];exact FF.mono (bv.row.get he) h1.2
     have an:=Hi da;obtain⟨⟨ed,ee,ef,eg,eh,ei,ej,ex,_⟩,_,_⟩:=da;simp only[Value.agg.injEq,Array.mk.injEq,List.cons.injEq,and_true] at ex;rw[ex.1] at d0;rw[ex.2.1] at d1;rw[ex.2.2] at d2;rw[ex.1,ex.2.1,ex.2.2] at an;obtain⟨X8,ao⟩:∃X,wr.alloc (.cells #[.bool ed,.slice ee ef eg,.slice eh ei ej] 107)=X:=⟨_,rfl⟩;have H:Bl wr X8:=by rw[<-ao];exact(Below.refl _ _).alloc lZ _
     have b0:O (FB (m j k) 8388611 X8 wr.heap.size):=Hi ⟨_,_,_,by rw[<-ao];exact SB.new wr _ _,an.o.below H⟩;have db:=Hi ((an.o.below H).isZero);have dc:=f.o.o.lt;obtain⟨az,a0,ah,a4,dd,de⟩:=Ie (f.o.below H) (F.o.below H) (E.o.below H E.o.lt) (ay.o.below H) (HB.o.trans (H.mono HB.o.size)) ao;obtain⟨P8,T⟩:=nm wr.heap.size;have a5:=Hi T;have ey:O (P8≠R):=Hi (by rw[<-T];omega);rw[T] at b0;have ek:=Hi bz;have q2:((j:Int)<(N:Int)):=by omega
     clear bv bw ag he ao H ex dc bz T;go_wp2_with fail;rw[de.o];refine Makes.use db.o ?_;intro v9 w9 a h9;obtain rfl:v9=.bool (decide (m j k=0)):=h9;obtain⟨ai,aj,M,P,a6,b1⟩:=Ie (az.o.below a) (a0.o.below a) (ah.o.below a ah.o.lt) (a4.o.below a) (b0.o.below a) (dd.o.trans (a.mono dd.o.size));clear a d0 d1 d2 f F E ay HB az a0 ah a4 b0 db an;by_cases h0:m j k=0
     .
      rw[decide_eq_true h0];have HE:O (GK w9 U R N G (fun r=>if r<j+1 then 1+(k+1)*20971528 else 1+k*20971528) (stfTo m cv k (j+1))):=Hi (ai.o.mono (fun r=>by split<;>split<;>omega) (fun r c hr hc=>by
       unfold stfTo;by_cases e:r=j
       .
        subst e;rw[if_neg (by omega),if_pos (by omega),h0];grind
       .
        by_cases W:r<j
        . rw[if_pos W,if_pos (by omega)]
        . rw[if_neg W,if_neg (by omega)]))
      clear h0;go_wp2;go_roundw
      case rel=>exact⟨j+1,G,by omega,by go_num,s.o,HE.o,aj.o,M.o,P.o,b1.o⟩
      case measure=>simp[intOf];omega
     .
      rw[decide_eq_false h0];clear h0;go_wp2_with fail;obtain⟨Y9,b2⟩:=nm w9.drew;have I:Bl w9 Y9:=by rw[<-b2];exact(Below.refl _ _).drew
      obtain⟨gr,df⟩:∃g,G[j]?=some g:=⟨G[j]'(by have:=s.o;omega),gE _⟩;have a7:=ai.o.below I;have a8:=aj.o.below I;obtain⟨p1,p2,p3,ps,pf⟩:=a6.o.below I;obtain⟨r1,r2,r3,rs,rf⟩:=P.o.below I;obtain⟨P0,P1,P2,R1,R2,R3⟩:=Ie (ps.cell 0) (ps.cell 1) (ps.cell 2) (rs.cell 0) (rs.cell 1) (rs.cell 2);simp only[List.getElem?_toArray,List.getElem?_cons_zero,List.getElem?_cons_succ] at P0 P1 P2 R1 R2 R3;obtain⟨dg,PF,em,b3,l,a9,ba,dh,bc⟩:=Ih (And.intro ps.lt rs.lt) pf rf df a7 a8 (M.o.below I M.o.lt) (P.o.below I) (b1.o.trans (I.mono b1.o.size));have di:=Hi b2;obtain⟨KR,dj⟩:=nm (1+k*20971528+8388611+(4194305+8388611)+1);have dk:O (KR<=1+(k+1)*20971528/\KR<68719476000):=Hi (by
       have:k*20971528<=24*20971528:=Nat.mul_le_mul_right _ (by omega);rw[Nat.succ_mul]
       omega)
      have dl:=Hi dj;clear b2 I df a7 a8 ps pf rs rf dj ai aj M P a6;have en:O (∀u,Below Y9.heap.size Y9 u->∀v,FF (-(cv k*m j k)) (4194305+8388611) v u->Calls prog 169 #[.slice (some ⟨gr,0,none⟩) N N,.slice (some ⟨gk,0,none⟩) N N,v] u (Makes u (LessF Y9.heap.size N KR (fun c=>stfTo m cv k (j+1) j c)))):=Hi (fun u a v hv=>by
       obtain⟨ts,t1,t2,t3⟩:=(l.o.below a).row j gr b3.o;obtain⟨ss,s1,s2,s3⟩:=(a9.o.below a).gm.row k gk cu.o;have hl:=Qpz (x:=stfTo m cv k j j) t1 t2 (k1:=1+k*20971528) (fun c t ht=>by have:=t3 c t ht;rw[if_neg (by omega)] at this;exact this) s1 s2 (k2:=8388611) (fun t ht=>by obtain⟨i,hi⟩:=List.getElem?_of_mem ht;exact(s3 i t hi).2) hv (by omega) dl.o dk.o.2;refine hl.mono ?_;rintro e w' ⟨v',he,eo,g,us,ep,hg,hq,bw,ag⟩;refine⟨v',he,eo,g,us,ep,Nat.le_trans a.size hg,hq,bw,fun c t ht=>⟨(ag c t ht).1.trans ?_,(ag c t ht).2⟩⟩;have hc:c<N:=by have:=(gZ ht).1;omega
       obtain⟨e',dm⟩:∃e',ss[c]?=some e':=⟨ss[c]'(by omega),gE _⟩
       show stfTo m cv k j j c - qAt ss c* -(cv k*m j k)=stfTo m cv k (j+1) j c
       rw[Qbc dm,(s3 c e' dm).1,ek.o c hc];unfold stfTo;rw[if_neg (by omega),if_pos (by omega)]
       grind)
      simp only[a5.o];refine RegG.bg 13 (fun j=>some (43+j)) ?_;rw[di.o];refine RegG.p0 [] ?_;refine RegG.p0 [] ?_;refine RegG.p0 [] ?_;refine RegG.p0 [] ?_;refine RegG.p0 [2,3] ?_;refine RegG.pu (c:=?_) [4] (fun w a=>?_) ?_;rotate_left
      .
       intro K d;have e0:=(l.o.below a).cell b3.o;go_simp;exact d
      refine RegG.p0 [] ?_;refine RegG.pu (c:=?_) [] (fun w a=>?_) ?_;rotate_left
      .
       intro K d;obtain⟨e0,e1,W⟩:=Jb a dg.o.2 R1.o R2.o R3.o;go_simp;exact d
      refine RegG.pu (c:=?_) [] (fun w a=>?_) ?_;rotate_left
      .
       intro K d;obtain⟨e0,e1,W⟩:=Jb a dg.o.1 P0.o P1.o P2.o;go_simp;exact d
      refine RegG.ca (φ:=FF (cv k*m j k) (4194305+8388611)) [7,8] (FF.stays _ _) (fun w a=>?_) ?_
      .
       intro K d;go_simp;exact Makes.use (FF.times (em.o.below a) (PF.o.below a) (by decide)) d
      refine RegG.ca (φ:=FF (-(cv k*m j k)) (4194305+8388611)) [9] (FF.stays _ _) (fun w a=>?_) ?_
      .
       intro v9 h9;intro K d;go_simp;exact Makes.use (FF.neg h9) d
      refine RegG.ca (φ:=LessF Y9.heap.size N KR (fun c=>stfTo m cv k (j+1) j c)) [5,6,10] (LessF.stays _ _ _ _) (fun w a=>?_) ?_
      .
       intro dn eq;intro K d;go_simp;exact Makes.use (en.o w a dn eq) d
      refine RegG.p0 [0,1] ?_;refine RegG.last (by simp only[List.nil_append,List.cons_append,List.length_append,List.length_cons,List.length_nil,Nat.reduceAdd]) (by rfl) (by rfl) (by kernel_rfl) (fun x4 a=>?_);simp only[FinG,List.nil_append,List.cons_append,Qad,Act.put,List.setIfInBounds_toArray,List.set_cons_zero,List.set_cons_succ,Nat.reduceAdd,Nat.reduceBEq,cond_true,cond_false];intro v9 _ dn _ ez er K d;obtain⟨gn,un,rfl,es,dp,dq,dr⟩:=er;have J:=l.o.below a;have c0:=J.cell b3.o;have f0:=J.o.free j;have ho:Only R x4 (x4.setCell ⟨R,j,none⟩ (slRow N gn)):=(Only.refl R x4).setCell j _;have bd:=J.repl (r:=j) (by have:=s.o;omega) (fun i g hi=>by
       obtain⟨_,q,_⟩:=l.o.row i g hi;have:=q.blk.lt
       omega) (by have:=l.o.o.lt;omega) (by have:=l.o.o.lt;have:=l.o.lo;omega) dp dq dr
      have ds:O (GK (x4.setCell ⟨R,j,none⟩ (slRow N gn)) U R N (G.set j gn) (fun r=>if r<j+1 then 1+(k+1)*20971528 else 1+k*20971528) (stfTo m cv k (j+1))):=Hi (bd.mono (fun r=>by
       have:=dk.o.1
       split
       . rw[if_pos (by omega)];exact this
       .
        split
        . rw[if_pos (by omega)];exact Nat.le_refl _
        . split<;>omega) (fun r c hr hc=>by
       by_cases e:r=j
       . rw[if_pos e,e]
       .
        rw[if_neg e];unfold stfTo;by_cases W:r<j
        . rw[if_pos W,if_pos (by omega)]
        . rw[if_neg W,if_neg (by omega)]))
      obtain⟨be,bf,bh,dt⟩:=Ic ((a9.o.below a).only ho J.o cp.o) ((ba.o.below a ba.o.lt).only ho (cg.o)) ((dh.o.below a).only ho J.o (by have:=c6.o;omega)) (Only.fresh (bc.o.trans (a.mono bc.o.size)) ho (by rw[bm.o];exact J.lo));unfold slRow at ds be bf bh dt ⊢;clear dp dq dr J ho bd a es;go_simp;refine d _ _ ?_;clear d c0 f0;have T:=a5.o;subst T;go_wp2;go_roundw
      case rel=>exact⟨j+1,G.set j gn,by omega,by go_num,by rw[List.length_set];exact s.o,ds.o,be.o,bf.o,bh.o,dt.o⟩
      case measure=>simp[intOf];omega
    .
     obtain rfl:j=N:=by omega
     have HE:O (GK wr U R j G (fun _=>1+(k+1)*20971528) (stfTo m cv (k+1) 0)):=Hi (f.o.mono (fun r=>by split<;>omega) (fun r c hr hc=>by
      have:=s.o;unfold stfTo;rw[if_pos (by omega),if_neg (by omega),Rat.add_zero]
      rfl))
     go_wp2;go_roundw
     case rel=>exact⟨k+1,G,by omega,by go_num,s.o,HE.o,F.o,E.o,HB.o⟩
     case measure=>simp[intOf];omega
  .
   obtain rfl:k=bs.length:=by omega
   go_wp2;go_ret;refine⟨_,rfl,HB.o,R,gs,rfl,cq.o,⟨⟨Below.refl _ _,f.o.o,fun r g hr=>?_,f.o.nd,f.o.ne,by rw[bm.o];exact f.o.lo,fun r g hr=>by rw[bm.o];exact f.o.los r g hr⟩,f.o.o.lt⟩⟩;obtain⟨us,h1,h2,h3⟩:=f.o.row r g hr;refine⟨us,h1,h2,fun c t ht=>⟨(h3 c t ht).1.trans ?_,Nat.le_trans (h3 c t ht).2 ?_⟩⟩
   .
    unfold stfTo Giv.stf;rw[if_neg (by omega),Rat.add_zero]
    first|rfl|rw[dz.o]
   .
    rw[HK.o];have:bs.length*20971528<=24*20971528:=Nat.mul_le_mul_right _ n2;omega
def RowF(B n K:Nat)(x:Vec):Fact:=fun v w=>∃(g:Nat) (us:List FE),v=.slice (some ⟨g,0,none⟩) n n/\B<=g/\RB w g n K x us
theorem RowF.stays(B n K:Nat)(x:Vec):Stays (RowF B n K x):=fun _ _ _ a ⟨g,us,e,b,c⟩=>⟨g,us,e,b,c.below a⟩
def FreeF(B:Nat)(l:Vy):Fact:=fun v w=>IG w B v l
theorem FreeF.stays(B:Nat)(l:Vy):Stays (FreeF B l):=fun _ _ _ a h=>Grow.below h a
structure GivV (w:Vz) (a1 a2 a3:Vx) (c1 c2 c3 N:Nat) (js:List S2) (bs:List B6) (hs:List H3) (vb:List (Nat × Nat × Rat × Rat)) (vh:Vy) (cv ev bv:Vec):Prop where
 gl:Glob w
 fr:FrRow w a1 a2 a3 c1 c2 c3 js bs hs
 fv:FrV 1048576 js bs hs vb vh
 ce:∀(i:Nat) (b:B6),bs[i]?=some b->QOf b.c.data.toList (cv i)/\QOf b.e.data.toList (ev i)/\b.c.size<=1048576/\b.e.size<=1048576
 by_:∀(i:Nat) (h:H3),hs[i]?=some h->QOf h.q.data.toList (bv i)/\h.q.size<=1048576
 n:2*js.length=N
section
variable {w w':Vz} {a1 a2 a3:Vx} {c1 c2 c3 N:Nat} {js:List S2} {bs:List B6} {hs:List H3} {vb:List (Nat × Nat × Rat × Rat)} {vh:Vy} {cv ev bv:Vec}
theorem GivV.below(h:GivV w a1 a2 a3 c1 c2 c3 N js bs hs vb vh cv ev bv)(a:Bl w w'):GivV w' a1 a2 a3 c1 c2 c3 N js bs hs vb vh cv ev bv:=⟨h.gl.below a,h.fr.below a,h.fv,h.ce,h.by_,h.n⟩
theorem GivV.held(h:GivV w a1 a2 a3 c1 c2 c3 N js bs hs vb vh cv ev bv)(B:Nat)(hB:B<=w.heap.size):Calls prog 110 #[.agg #[.slice a1 js.length c1,.slice a2 bs.length c2,.slice a3 hs.length c3]] w (Makes w (RowF B N 4194305 (hldM vh bv hs.length))):=
 (Qps a1 a2 a3 c1 c2 c3 bs.length N js hs vh bv w h.gl h.fr.h h.fv.j h.fv.h h.fv.lh h.fv.vh h.by_ h.n).mono fun e w' ⟨g,us,a,b,c,d⟩=>⟨_,a,d,g,us,rfl,Nat.le_trans hB b,c⟩
theorem GivV.free(h:GivV w a1 a2 a3 c1 c2 c3 N js bs hs vb vh cv ev bv)(B:Nat)(hB:B<=w.heap.size):Calls prog 111 #[.agg #[.slice a1 js.length c1,.slice a2 bs.length c2,.slice a3 hs.length c3]] w (Makes w (FreeF B (Giv.frs (freeW vh) N))):=
 (Qpr a1 a2 a3 c1 c2 c3 bs.length N js hs vh w h.fr.h h.fv.j h.fv.h h.fv.lh h.fv.vh h.n).mono fun e w' ⟨v,a,b,c⟩=>⟨_,a,c,Grow.mono b hB⟩
theorem GivV.pulls(h:GivV w a1 a2 a3 c1 c2 c3 N js bs hs vb vh cv ev bv)(B:Nat)(hB:B<=w.heap.size){a c d:Nat}{x:Vec}{v:Value}{B':Nat}(o:RowF B' N a x v w)(p:c=2*(8388611+(2*a+1))+1)(f:a<=1000000000)(k:d=4194305+(c+4194305+1)):Calls prog 54 #[.agg #[.slice a1 js.length c1,.slice a2 bs.length c2,.slice a3 hs.length c3],v] w (Makes w (RowF B bs.length d (fun i=>cv i*(stretchV vb x i - ev i)))):=by
 obtain⟨g,us,rfl,_,q⟩:=o;exact(Qpu a1 a2 a3 c1 c2 c3 hs.length g N a c d js bs hs vb x cv ev us w h.gl h.fr.j h.fr.b h.fv.j h.fv.b h.fv.lb h.fv.vb h.ce q h.n p f k).mono fun e w' ⟨r,l,s,t,m,u⟩=>⟨_,s,u,r,l,rfl,Nat.le_trans hB t,m⟩
theorem GivV.putBy(h:GivV w a1 a2 a3 c1 c2 c3 N js bs hs vb vh cv ev bv)(B:Nat)(hB:B<=w.heap.size){a b:Nat}{t:Vec}{v:Value}{B':Nat}(i:RowF B' bs.length a t v w)(j:b=24*(8388611+a+1)+1)(c:a<=2500000000):Calls prog 55 #[.agg #[.slice a1 js.length c1,.slice a2 bs.length c2,.slice a3 hs.length c3],v] w (Makes w (RowF B N b (Giv.putF bs.length (balM vb bs.length vh) t))):=by
 obtain⟨g,us,rfl,_,k⟩:=i;exact(Qpw a1 a2 a3 c1 c2 c3 g N a b js bs hs vb vh t us w h.gl h.fr h.fv k h.n j c).mono fun e w' ⟨l,d,m,o,f,p⟩=>⟨_,m,p,l,d,rfl,Nat.le_trans hB o,f⟩
theorem GivV.stiff(h:GivV w a1 a2 a3 c1 c2 c3 N js bs hs vb vh cv ev bv){KT:Nat}(c:KT=1+24*20971528):Calls prog 114 #[.agg #[.slice a1 js.length c1,.slice a2 bs.length c2,.slice a3 hs.length c3]] w (Makes w (MatF w.heap.size N N KT (Giv.stf bs.length (balM vb bs.length vh) cv))):=
 Qp2 a1 a2 a3 c1 c2 c3 N KT js bs hs vb vh cv w h.gl h.fr h.fv (fun i b a=>⟨(h.ce i b a).1,(h.ce i b a).2.2.1⟩) h.n c
end
theorem Qp3{B W K n m ca:Nat}{M:Nat->Nat->Rat}{v:Value}{c:Vx}{at_:Vy}{w:Vz}(h:MatF B m W K M v w)(k:CRow w c (at_.map (fun n:Nat=>Value.int .i64 n)))(l:at_.length=n)(d:∀r,r∈ at_->r<m/\r<W)(hl:n<=1000)(f:0<K):Calls prog 113 #[v,.slice c n ca] w (Makes w (MatF w.heap.size n n K (partV at_ n M n 0))):=by
 obtain⟨G,o,rfl,g,i⟩:=h;refine(Qpy G B W K n m o M c ca at_ w i g k l d hl f).mono ?_;rintro e w' ⟨p,j,rfl,a,b⟩;exact⟨_,rfl,b.base,p,j,rfl,a,b.ga⟩
def sumV(at_:Vy)(p a:Vec):Vec:=fun i=>p (at_.getD i 0) - a (at_.getD i 0)
def setRows(at_:Vy)(n:Nat)(M:Nat->Nat->Rat):List Vec:=(List.range n).map (partV at_ n M n 0)
def setSums(at_:Vy)(n:Nat)(p a:Vec):List Rat:=(List.range n).map (sumV at_ p a)
def RowZ(B n K:Nat):Fact:=fun v w=>∃g:Nat,v=.slice (some ⟨g,0,none⟩) n n/\B<=g/\RB w g n K (fun _=>0) (List.replicate n FE.zero)
theorem RowZ.stays(B n K:Nat):Stays (RowZ B n K):=fun _ _ _ a ⟨g,e,b,c⟩=>⟨g,e,b,c.below a⟩
theorem Qp4{w:Vz}{q:Rat}(h:FracV w (.agg #[.bool false,.slice none 0 0,.slice none 0 0]) q):q=0:=by
 obtain⟨neg,a,n,c,b,m,d,e,f⟩:=h;simp only[Value.agg.injEq,Array.mk.injEq,List.cons.injEq,Value.bool.injEq,Value.slice.injEq,and_true] at e;obtain⟨rfl,⟨rfl,rfl,rfl⟩,rfl,rfl,rfl⟩:=e;have:=f.top.zero_iff.2 rfl;exact Rat.num_eq_zero.1 (by omega)
theorem RB.alias{w:Vz}{g n N K K':Nat}{p:Vec}{j:List FE}(e:RB w g n K (fun _=>0) (List.replicate n FE.zero))(a:RB w g N K' p j):n=N/\∀r,r<N->p r=0:=by
 have f:=e.blk.blk;have b:=a.blk.blk;unfold SB at f b;rw[f] at b;have l:=Option.some.inj b;injection l with m _
 have hl:=congrArg Array.size m;rw[List.size_toArray,List.size_toArray,Qay (c:=FE.cells) (sz:=3) (fun _=>rfl),Qay (c:=FE.cells) (sz:=3) (fun _=>rfl),List.length_replicate,a.len] at hl;have d:n=N:=by omega
 refine⟨d,fun r o=>?_⟩;obtain⟨t,h⟩:=a.get o;obtain⟨q,c1,c2⟩:=a.cells h;obtain⟨d0,d1,d2⟩:=e.cells (k:=r) (t:=FE.zero) (by rw[List.getElem?_replicate,if_pos (by omega)]);have s:=Option.some.inj (q.symm.trans d0);have x1:=Option.some.inj (c1.symm.trans d1);have x2:=Option.some.inj (c2.symm.trans d2);have i:=a.fe h;rw[s,x1,x2] at i;exact Qp4 i.1
theorem Qio{fr:Nat->Bool}{N:Nat}(h:(Giv.frs fr N).length=N):Giv.frs fr N=List.range N:=by
 have a:(Giv.frs fr N).Sublist (List.range N):=List.filter_sublist;exact a.eq_of_length (by rw[h,List.length_range])
theorem RB.noInt{w:Vz}{g n K i:Nat}{x:Vec}{us:List FE}{k:IntKind}{z:Int}(h:RB w g n K x us)(f:w.cell? ⟨g,i,none⟩=some (.int k z)):False:=by
 rw[h.blk.blk.cell,List.getElem?_toArray] at f;obtain⟨t,l,j⟩:=List.mem_flatMap.1 (mO f);obtain⟨neg,a,n',c,b,m,d,e,_⟩:=(h.blk.ts t l).1;simp only[Value.agg.injEq,Array.mk.injEq,List.cons.injEq,and_true] at e;simp only[FE.cells,e.1,e.2.1,e.2.2,List.mem_cons,List.not_mem_nil,or_false] at j;rcases j with h|h|h<;>cases h
theorem CRow.ints{w w':Vz}{a:Vx}{l:Vy}{g n K:Nat}{x:Vec}{us:List FE}(h:CRow w a (l.map (fun n:Nat=>Value.int .i64 n)))(p:RB w g n K x us)(i:Only g w w'):CRow w' a (l.map (fun n:Nat=>Value.int .i64 n)):=⟨fun j u c=>by
 obtain⟨b,d,e,k,o⟩:=h.cell j u c;have f:b≠g:=fun e=>by
  subst e;rw[List.getElem?_map] at c;obtain⟨m,_,rfl⟩:=Option.map_eq_some_iff.1 c;exact p.noInt o
 refine⟨b,d,e,Nat.lt_of_lt_of_le k i.size,?_⟩;rw[<-o]
 exact World.cell?_of_block (i.block b k f)⟩
theorem Qf2{w:Vz}{b i:Nat}{t:Vr}{C:Vw}{v:Value}(h:SB w b t C)(c:C[i]?=some v):w.setCell ⟨b,i,none⟩ v=w:=by
 have hC:C.setIfInBounds i v=C:=by
  apply Array.ext_getElem?;intro j;rw[Array.getElem?_setIfInBounds]
  split
  . next e=>subst e;rw[c];split<;>simp_all
  . rfl
 have a:(w.setCell ⟨b,i,none⟩ v).heap=w.heap:=by
  apply Array.ext_getElem?;intro k;by_cases e:k=b
  .
   subst e;have:=h.set i v;rw[hC] at this;exact this.trans h.symm
  . exact Below.heap_setCell w ⟨b,i,none⟩ v k e
 cases w;simp only[World.setCell] at a ⊢;rw[a]
theorem RB.len_eq{w:Vz}{g n N K K':Nat}{x y:Vec}{us vs:List FE}(b:RB w g n K x us)(d:RB w g N K' y vs):n=N:=by
 have e:=b.blk.blk;have a:=d.blk.blk;unfold SB at e a;rw[e] at a;have f:=Option.some.inj a;injection f with h _
 have hl:=congrArg Array.size h;rw[List.size_toArray,List.size_toArray,Qay (c:=FE.cells) (sz:=3) (fun _=>rfl),Qay (c:=FE.cells) (sz:=3) (fun _=>rfl),b.len,d.len] at hl;omega
theorem RB.again{w:Vz}{g n K k:Nat}{x:Vec}{us:List FE}{t:FE}(h:RB w g n K x us)(c:us[k]?=some t):((w.setCell ⟨g,k*3,none⟩ t.x).setCell ⟨g,k*3+1,none⟩ t.y).setCell ⟨g,k*3+2,none⟩ t.z=w:=by
 obtain⟨b,c1,c2⟩:=h.cells c;have a:=h.blk.blk;rw[a.cell] at b c1 c2;rw[Qf2 a b,Qf2 a c1,Qf2 a c2]
def motTo(at_:Vy)(y h0:Vec):Nat->Vec
 |0=>h0
 |i+1=>fun r=>if r=at_.getD i 0 then y i else motTo at_ y h0 i r
theorem Qd7{at_:Vy}{y a:Vec}{r:Nat}(b:¬r∈ at_):∀i,i<=at_.length->motTo at_ y a i r=a r
 |0,_=>rfl
 |i+1,hi=>by
  show (if r=at_.getD i 0 then y i else motTo at_ y a i r)=_
  rw[if_neg (fun e=>b (by
   rw[e,List.getD_eq_getElem?_getD,gE (by omega)]
   exact List.getElem_mem _)),Qd7 b i (by omega)]
theorem Qbm{at_:Vy}{y a:Vec}(b:at_.Nodup){j:Nat}:∀i,i<=at_.length->j<i->motTo at_ y a i (at_.getD j 0)=y j
 |0,_,hj=>by omega
 |i+1,hi,hj=>by
  show (if at_.getD j 0=at_.getD i 0 then y i else motTo at_ y a i (at_.getD j 0))=_
  by_cases e:j=i
  . rw[e,if_pos rfl]
  .
   rw[if_neg (fun h=>e (by
    simp only[List.getD_eq_getElem?_getD,gE (show j<at_.length by omega),gE (show i<at_.length by omega),Option.getD_some] at h
    exact(List.getElem_inj b).1 h)),Qbm b i (by omega) (by omega)]
def SetlSays(w:Vz)(N K:Nat)(at_:Vy)(M:List Vec)(s:List Rat)(h0:Vec)(e:Ending)(w':Vz):Prop:=
 ((e=.returned (.tuple #[.slice none 0 0,.int .i64 8])/\∀x,¬Sol at_.length M s x)∨
  (e=.returned (.tuple #[.slice none 0 0,.int .i64 9])/\∃x y,Sol at_.length M s x/\Sol at_.length M s y/\∃c,c<at_.length/\x c≠y c)∨
  (∃(g:Nat) (us:List FE) (m:Vec),e=.returned (.tuple #[.slice (some ⟨g,0,none⟩) N N,.int .i64 0])/\w.heap.size<=g/\RB w' g N K m us/\(∀r,¬r∈ at_->m r=h0 r)/\∀y,Sol at_.length M s y↔∀i,i<at_.length->y i=m (at_.getD i 0)))/\Below w.heap.size w w'
theorem Qp5(a1 a2 a3:Vx)(c1 c2 c3 N ga KA G KS KP KQ KT:Nat)(js:List S2)(v:List B6)(s:List H3)(vb:List (Nat × Nat × Rat × Rat))(vh:Vy)(cv ev W a p:Vec)(b1:List FE)(w:Vz)(h:GivV w a1 a2 a3 c1 c2 c3 N js v s vb vh cv ev W)(ha:RB w ga N KA a b1)(at_:Vy)(be:at_=Giv.frs (freeW vh) N)
 (hp:p=Giv.putF v.length (balM vb v.length vh) (fun i=>cv i*(stretchV vb (hldM vh W s.length) i - ev i)))
 (b2:KS=2*(8388611+(2*4194305+1))+1) (b3:KP=4194305+(KS+4194305+1)) (b4:KQ=24*(8388611+KP+1)+1) (b5:KT=1+24*20971528) (k1:KQ+KA+1<=G) (k2:KT<=G) (b6:4*G+1<68719476000)
 (I:Nat->List Vec->List Vec->List Nat->Prop) (hI:Going G I) (h0:I 0 (List.zipWith (wider at_.length) (setRows at_ at_.length (Giv.stf v.length (balM vb v.length vh) cv)) (setSums at_ at_.length p a)) [] [])
 (a8:∀L S s,I (at_.length+1) L S s->Ech 0 (at_.length+1) S s/\(∀x,Null (at_.length+1) (List.zipWith (wider at_.length) (setRows at_ at_.length (Giv.stf v.length (balM vb v.length vh) cv)) (setSums at_ at_.length p a)) x↔Null (at_.length+1) S x)/\clnFits G S s):
 Calls prog 53 #[.agg #[.slice a1 js.length c1,.slice a2 v.length c2,.slice a3 s.length c3],.slice (some ⟨ga,0,none⟩) N N] w (SetlSays w N G at_ (setRows at_ at_.length (Giv.stf v.length (balM vb v.length vh) cv)) (setSums at_ at_.length p a) (hldM vh W s.length)):=by
 obtain⟨V,hV⟩:=nm (w.alloc (.cells #[.slice a1 js.length c1,.slice a2 v.length c2,.slice a3 s.length c3] 26));have av:Bl w V:=by rw[<-hV];exact(Below.refl _ _).alloc lZ _
 have bf:SB V w.heap.size 26 #[.slice a1 js.length c1,.slice a2 v.length c2,.slice a3 s.length c3]:=by rw[<-hV];exact SB.new w _ _
 obtain⟨HG,HA,C,HP,X,ad,HI,H0,eb⟩:=Ih h ha be hp (And.intro b2 (And.intro b3 (And.intro b4 b5))) (And.intro k1 (And.intro k2 b6)) hI h0 a8;obtain⟨fo,b7⟩:=Ia av hV;obtain⟨n,hn⟩:=nm at_.length;have f:=Hi hn;have b8:N<=20:=by have:=h.n;have:=h.fv.j;omega
 have fm:n<=20:=by rw[<-hn,be];exact Nat.le_trans (Giv.frs_len _ _) b8
 have a9:O (1<=KQ):=Hi (by omega);have b9:O (KP<=2500000000):=Hi (by omega);have cb:O (0<G):=Hi (by omega);obtain⟨Y,hY⟩:=nm V.drew;have bh:Bl V Y:=by rw[<-hY];exact(Below.refl _ _).drew
 have Z:=bf.below bh bf.lt;obtain⟨H,J,M⟩:=Ib (Z.cell 0) (Z.cell 1) (Z.cell 2);simp only[List.getElem?_toArray,List.getElem?_cons_zero,List.getElem?_cons_succ] at H J M;obtain⟨D,cc,cd,aw⟩:=Ic Z.lt Z (av.trans (bh.mono av.size)) hY;have ax:=Hi cd.o.size;clear h ha be hp b2 b3 b4 b5 k1 k2 b6 hI h0 a8 av hV bf hY bh Z hn;go_enter func53,ntmps53;go_wp2_with fail;rw[b7.o];generalize hB0:w.heap.size=B0 at*;have ae:=Hi hB0;clear hB0 b7;have bi:O (∀u,Below Y.heap.size Y u->Below w.heap.size w u):=Hi (fun u b=>by rw[ae.o];exact cd.o.trans (b.mono ax.o))
 have ec:O (∀u,Below Y.heap.size Y u->Calls prog 111 #[.agg #[.slice a1 js.length c1,.slice a2 v.length c2,.slice a3 s.length c3]] u (Makes u (FreeF B0 at_))):=Hi (fun u b=>by rw[C.o];exact(HG.o.below (bi.o u b)).free B0 (Nat.le_trans ax.o b.size));refine RegG.bg 5 (fun j=>some (bif j == 4 then 6 else 16+j)) ?_;rw[aw.o];refine RegG.pu (c:=?_) [] (fun w b=>?_) ?_;rotate_left
 .
  intro K d;obtain⟨e0,e1,e2⟩:=Jb b D.o H.o J.o M.o;go_simp;exact d
 refine RegG.ca (φ:=RowF B0 N 4194305 (hldM vh W s.length)) [0] (RowF.stays _ _ _ _) (fun w b=>?_) ?_
 .
  intro K d;go_simp;exact Makes.use ((HG.o.below (bi.o w b)).held B0 (Nat.le_trans ax.o b.size)) d
 refine RegG.pu (c:=?_) [] (fun w b=>?_) ?_;rotate_left
 .
  intro K d;obtain⟨e0,e1,e2⟩:=Jb b D.o H.o J.o M.o;go_simp;exact d
 refine RegG.ca (φ:=FreeF B0 at_) [2] (FreeF.stays _ _) (fun w b=>?_) ?_
 .
  intro K d;go_simp;exact Makes.use (ec.o w b) d
 refine RegG.ca (φ:=RowF B0 N 4194305 (hldM vh W s.length)) [1] (RowF.stays _ _ _ _) (fun w b=>?_) ?_
 .
  intro v1 h1 K d;go_simp;exact d _ _ bR h1
 refine RegG.last (by simp only[List.nil_append,List.cons_append,List.length_append,List.length_cons,List.length_nil,Nat.reduceAdd]) (by rfl) (by rfl) (by kernel_rfl) (fun x2 b=>?_);simp only[FinG,List.nil_append,List.cons_append,Qad,Act.put,List.setIfInBounds_toArray,List.set_cons_zero,List.set_cons_succ,Nat.reduceAdd,Nat.reduceBEq,cond_true,cond_false];intro fp _ fq bj v6 h6 K d;obtain⟨gm,ms,rfl,cf,cg⟩:=h6;obtain⟨fa,fc,ed,ch⟩:=IG.slice bj;subst ed;rw[f.o] at bj d ⊢;obtain⟨ci,cj,af,ck⟩:=Ic cg ch cf b;clear bj cf cg ch b;go_simp;refine d _ _ ?_;clear d;go_wp2_with fail;obtain⟨Y2,bk⟩:=nm x2.drew;have hz2:Bl x2 Y2:=by rw[<-bk];exact(Below.refl _ _).drew
 have aa:=ck.o.trans (hz2.mono ck.o.size);obtain⟨cl,g,E,ag,cm,bl⟩:=Ie (ce aa D.o H.o) (ce aa D.o J.o) (ce aa D.o M.o) (ci.o.below hz2) (cj.o.below hz2) aa;have ah:=cc.o.below aa cc.o.lt;clear aw H J M D ci cj;have aw:=Hi bk;have H:=cl;have J:=g;have M:=E;obtain⟨D,ai⟩:=Ia ah.lt ah;have aj:O (∀u,Below Y2.heap.size Y2 u->Below w.heap.size w u):=Hi (fun u b=>bi.o u (bl.o.trans (b.mono bl.o.size)));have ba:=Hi (Nat.le_trans ax.o bl.o.size);obtain⟨ay,bb⟩:∃S,Y2.heap.size=S:=⟨_,rfl⟩;have ak:=Hi bb
 have ee:O (∀u,Below Y2.heap.size Y2 u->RowF B0 N 4194305 (hldM vh W s.length) (.slice (some ⟨gm,0,none⟩) N N) u):=Hi (fun u b=>⟨gm,ms,rfl,af.o,ag.o.below b⟩);clear cl g E bk hz2 aa ah bb;refine RegG.bg 9 (fun j=>some (bif j == 8 then 8 else 20+j)) ?_;rw[aw.o];refine RegG.pu (c:=?_) [] (fun w b=>?_) ?_;rotate_left
 .
  intro K d;obtain⟨e0,e1,e2⟩:=Jb b D.o H.o J.o M.o;go_simp;exact d
 refine RegG.pu (c:=?_) [] (fun w b=>?_) ?_;rotate_left
 .
  intro K d;obtain⟨e0,e1,e2⟩:=Jb b D.o H.o J.o M.o;go_simp;exact d
 refine RegG.p0 [] ?_;refine RegG.ca (φ:=RowF B0 v.length KP (fun i=>cv i*(stretchV vb (hldM vh W s.length) i - ev i))) [1,2] (RowF.stays _ _ _ _) (fun w b=>?_) ?_
 .
  intro K d;go_simp;exact Makes.use ((HG.o.below (aj.o w b)).pulls B0 (Nat.le_trans ba.o b.size) (ee.o w b) X.o.1 (by decide) X.o.2.1) d
 refine RegG.ca (φ:=RowF ay N KQ (Giv.putF v.length (balM vb v.length vh) (fun i=>cv i*(stretchV vb (hldM vh W s.length) i - ev i)))) [0,3] (RowF.stays _ _ _ _) (fun w b=>?_) ?_
 .
  intro v3 h3;intro K d;go_simp;exact Makes.use ((HG.o.below (aj.o w b)).putBy ay (Nat.le_trans (Nat.le_of_eq ak.o.symm) b.size) h3 X.o.2.2.1 b9.o) d
 refine RegG.p0 [] ?_;refine RegG.p0 [5] ?_;refine RegG.ca (φ:=RowZ ay n G) [6] (RowZ.stays _ _ _) (fun w b=>?_) ?_
 .
  intro K' d;have ef:=Qa3 n (by omega) w;obtain⟨MC,cn⟩:=nm (((List.replicate n FE.zero).flatMap FE.cells).toArray);rw[cn] at ef;go_simp;exact d _ _ (bR.alloc lZ _) ⟨_,rfl,Nat.le_trans (Nat.le_of_eq ak.o.symm) b.size,RB.new w n G MC cn.symm cb.o⟩
 refine RegG.ca (φ:=RowF ay N KQ (Giv.putF v.length (balM vb v.length vh) (fun i=>cv i*(stretchV vb (hldM vh W s.length) i - ev i)))) [4] (RowF.stays _ _ _ _) (fun w b=>?_) ?_
 .
  intro v1 h1 K d;go_simp;exact d _ _ bR h1
 refine RegG.last (by simp only[List.nil_append,List.cons_append,List.length_append,List.length_cons,List.length_nil,Nat.reduceAdd]) (by rfl) (by rfl) (by kernel_rfl) (fun x3 b=>?_);simp only[FinG,List.nil_append,List.cons_append,Qad,Act.put,List.setIfInBounds_toArray,List.set_cons_zero,List.set_cons_succ,Nat.reduceAdd,Nat.reduceBEq,cond_true,cond_false];intro v3 _ v4 _ v7 h7 v8 h8 K d;obtain⟨gs,rfl,cp,m⟩:=h7;obtain⟨gp,ps,rfl,eg,az⟩:=h8;rw[<-HP.o] at az;obtain⟨eh,ei,fn,fr,cq,cr,cs,ct⟩:=Ig m az cp b (ag.o.below b) (cm.o.below b) (ai.o.below b ai.o.lt) (aj.o x3 b);have ej:O (gs=gp->n=N/\(∀r,r<N->p r=0)/\at_=List.range N):=Hi (fun e=>by
  subst e;obtain⟨e1,e2⟩:=m.alias az;refine⟨e1,e2,?_⟩;rw[C.o]
  exact Qio (by rw[<-C.o,f.o,e1]))
 have a0:O (gs≠gm/\B0<gs/\ga<gs):=Hi (by
  have h1:=ag.o.blk.blk.lt;have h2:=ak.o;have h3:=ai.o.lt;have h4:=HA.o.blk.blk.lt;have h5:=ba.o;rw[ae.o] at h4
  omega)
 clear cp eg m az b;go_simp;refine d _ _ ?_;clear d;go_wp2_with fail;go_loopw [30] (fun iv wr=>∃(i:Nat) (ss:List FE),i<=n/\iv=.int .i64 i/\RB wr gs n G (firstV (sumV at_ p a) i) ss/\(gs≠gp->RB wr gp N KQ p ps)/\RB wr ga N KA a b1/\RB wr gm N 4194305 (hldM vh W s.length) ms/\CRow wr fa (at_.map (fun n:Nat=>Value.int .i64 n))/\SB wr B0 26 #[.slice a1 js.length c1,.slice a2 v.length c2,.slice a3 s.length c3]/\Below w.heap.size w wr) (fun iv _=>n - (intOf iv).toNat)
 case atStart=>
  refine⟨0,List.replicate n FE.zero,by omega,rfl,?_,fun _=>ei.o,HA.o.below ct.o,cq.o,cr.o,cs.o,ct.o⟩;have e:firstV (sumV at_ p a) 0=fun _=>0:=funext fun i=>by unfold firstV;rw[if_neg (by omega)]
  rw[e];exact eh.o
 case round=>
  obtain⟨i,ss,hi,rfl,al,am,an,ap,cu,cw,cx⟩:=hrel;obtain⟨bm,cy,bn,cz,a4,aq,ar⟩:=If al am an ap cu cw cx;clear al am an ap cu cw cx;by_cases c4:i<n
  .
   obtain⟨r,A⟩:∃r,at_[i]?=some r:=⟨at_[i]'(by have:=f.o;omega),gE _⟩;obtain⟨ab,ao,rfl,ek,t0⟩:=Qd6 a4.o A;have Q:r<N:=by have h1:=mO A;rw[C.o] at h1;exact(Giv.frs_mem.1 h1).1
   obtain⟨ta,c5⟩:=bn.o.get Q;have em:∃x1 x2 x3,wr.cell? ⟨gp,r*3,none⟩=some x1/\wr.cell? ⟨gp,r*3+1,none⟩=some x2/\wr.cell? ⟨gp,r*3+2,none⟩=some x3/\FF (p r) KQ (.agg #[x1,x2,x3]) wr:=by
    by_cases e:gs=gp
    .
     obtain⟨e1,e2,e3⟩:=ej.o e;have fs:r=i:=by rw[e3,List.getElem?_range (by omega)] at A;exact(Option.some.inj A).symm
     obtain⟨x1,x2,x3,g1,g2,g3,g4⟩:=bm.o.at (k:=r) (by omega);rw[e] at g1 g2 g3;have e5:firstV (sumV at_ p a) i r=p r:=by unfold firstV;rw[if_neg (by omega),e2 r Q]
     rw[e5] at g4;refine⟨x1,x2,x3,g1,g2,g3,g4.1,?_,a9.o⟩;rw[e2 r Q];exact Fits.zero.mono a9.o
    . exact(cy.o e).at Q
   obtain⟨px,py,pz,g1,g2,g3,c6⟩:=em;obtain⟨Y6,bo⟩:=nm wr.drew;have F:Bl wr Y6:=by rw[<-bo];exact(Below.refl _ _).drew
   have P:=World.block_lt_of_cell? _ _ g1;obtain⟨c7,c8,c9⟩:=Ib (ce F P g1) (ce F P g2) (ce F P g3);have en:O (gp<Y6.heap.size):=Hi (Nat.lt_of_lt_of_le P F.size);obtain⟨eo,da,db,ep,eq,dc,dd⟩:=If (c6.below F) (bn.o.below F) c5 (bm.o.below F) A bo F;have q1:((i:Int)<(n:Int)):=by omega
   have q2:((r:Int)<(N:Int)):=by omega
   have er:O (KQ+KA<68719476000):=Hi (by have:=ad.o;omega);clear A c5 c6 bo F P g1 g2 g3;go_wp2_with fail;clear t0;refine RegG.bg 12 (fun j=>some (35+j)) ?_;rw[dc.o];refine RegG.p0 [] ?_;refine RegG.p0 [] ?_;refine RegG.p0 [] ?_;refine RegG.p0 [] ?_;refine RegG.p0 [2,3] ?_;refine RegG.pu (c:=?_) [4] (fun w b=>?_) ?_;rotate_left
   .
    intro K d;obtain⟨e0,e1,e2⟩:=Jb b en.o c7.o c8.o c9.o;go_simp;exact d
   refine RegG.p0 [] ?_;refine RegG.p0 [] ?_;refine RegG.p0 [6,7] ?_;refine RegG.pu (c:=?_) [8] (fun w b=>?_) ?_;rotate_left
   .
    intro K d;obtain⟨e0,e1,e2⟩:=(da.o.below b).cells db.o;go_simp;exact d
   refine RegG.ca (φ:=FF (p r - a r) (KQ+KA+1)) [5,9] (FF.stays _ _) (fun w b=>?_) ?_
   .
    intro K d;go_simp;exact Makes.use (FF.minus (eo.o.below b) ((da.o.below b).fe db.o) er.o) d
   refine RegG.p0 [0,1] ?_;refine RegG.last (by simp only[List.nil_append,List.cons_append,List.length_append,List.length_cons,List.length_nil,Nat.reduceAdd]) (by rfl) (by rfl) (by kernel_rfl) (fun x4 b=>?_);simp only[FinG,List.nil_append,List.cons_append,Qad,Act.put,List.setIfInBounds_toArray,List.set_cons_zero,List.set_cons_succ,Nat.reduceAdd,Nat.reduceBEq,cond_true,cond_false];intro ft de K d;have U:=de.mono (k':=G) ad.o.1;obtain⟨x',y',z',rfl⟩:=U.parts;obtain⟨o1,o2,o3⟩:=U.1.one;have df:=Qaa prog o1;have dg:=Qaa prog o2;have dh:=Qaa prog o3;have B:=ep.o.below b;obtain⟨y0,y1,y2,d0,d1,d2,_⟩:=B.at c4;have f0:=B.blk.blk.free (i*3);have f1:=B.blk.blk.free (i*3+1);have f2:=B.blk.blk.free (i*3+2);have ho:=(((Only.refl gs x4).setCell (i*3) x').setCell (i*3+1) y').setCell (i*3+2) z';have R:=dd.o.trans (b.mono dd.o.size)
   have es:=Hi (B.set c4 U (firstV (sumV at_ p a) (i+1)) (fun l=>by
    unfold firstV;by_cases e:l=i
    .
     subst e;rw[if_pos (by omega),if_pos rfl];unfold sumV;rw[show at_.getD l 0=r by rw[List.getD_eq_getElem?_getD,eq.o];rfl]
    .
     rw[if_neg e];by_cases e2:l<i
     . rw[if_pos (by omega),if_pos e2]
     . rw[if_neg (by omega),if_neg e2]))
   obtain⟨et,eu,ew,ex,ey,ez⟩:=Ie (fun e=>((cy.o e).below R).only B ho (fun h=>e h.symm)) ((bn.o.below R).only B ho (by have:=a0.o;omega)) ((cz.o.below R).only B ho (by have:=a0.o;omega)) ((a4.o.below R).ints B ho) ((aq.o.below R aq.o.lt).only ho (by have:=a0.o;omega)) (Only.fresh (ar.o.trans (R.mono ar.o.size)) ho (by rw[ae.o];have:=a0.o;omega));clear o1 o2 o3 B de U b ho R;go_simp;refine d _ _ ?_;clear d d0 d1 d2 f0 f1 f2 df dg dh;go_wp2;go_roundw
   case rel=>exact⟨i+1,_,by omega,by go_num,es.o,et.o,eu.o,ew.o,ex.o,ey.o,ez.o⟩
   case measure=>simp[intOf];omega
  .
   obtain rfl:i=n:=by omega
   have x0:=aq.o.cell 0;have x1:=aq.o.cell 1;have di:=aq.o.cell 2;simp only[List.getElem?_toArray,List.getElem?_cons_zero,List.getElem?_cons_succ] at x0 x1 di;have dj:=Hi ((HG.o.below ar.o).stiff X.o.2.2.2);go_wp2_with fail;refine Makes.use dj.o ?_;intro v5 w5 bp h5;obtain⟨e4,dk,dl⟩:=Ib h5 (Qp3 (ca:=fc) h5 (a4.o.below bp) f.o (fun r A=>by rw[C.o] at A;exact⟨(Giv.frs_mem.1 A).1,(Giv.frs_mem.1 A).1⟩) (by omega) (by have:=X.o.2.2.2;omega)) bp;clear h5 bp x0 x1 di;go_wp2_with fail;refine Makes.use dk.o ?_;rintro _ w6 dm ⟨G6,g6,rfl,bc,bd⟩;have au:=dl.o.trans (dm.mono dl.o.size);obtain⟨rs,r1,r2,r3,r4,r5⟩:=bd.gm.rows (fun r c hc=>by unfold partV;rw[if_neg (by omega)]);rw[bc] at r1 r2 r5;have m:=bm.o.below au;have a5:ss.map (·.q)=setSums at_ i p a:=by
    apply List.ext_getElem?;intro l;unfold setSums;rw[List.getElem?_map,List.getElem?_map];rcases Nat.lt_or_ge l i with h|h
    .
     obtain⟨t,T⟩:=m.get h;rw[T,List.getElem?_range h];have:=(m.val l t T).1;unfold firstV at this;rw[if_pos h] at this;simp[this]
    . rw[List.getElem?_eq_none (by rw[m.len];exact h),List.getElem?_eq_none (by simpa using h)]
      rfl
   have hq:=m.blk.row;rw[m.len] at hq;have bq:=H0.o;have br:=eb.o;rw[f.o] at bq br;have bt:=Qmj (some ⟨G6,0,none⟩) (some ⟨gs,0,none⟩) i i i G rs ss w6 I HI.o r2 (fun r A t T=>Nat.le_trans (r4 r A t T) ad.o.2.1) hq (fun t T=>by obtain⟨l,hl⟩:=List.getElem?_of_mem T;exact(m.val l t hl).2) (by rw[m.len,r1]) (by omega) (by omega) cb.o ad.o.2.2 (by rw[r5,a5];exact bq) (by rw[r5,a5];exact br);rw[r5,a5,r1] at bt;obtain⟨dn,dp,e6,e7⟩:=Ic bt (ar.o.trans (au.mono ar.o.size)) (cz.o.below au) (a4.o.below au);clear bc bd dm au r1 r2 r3 r4 r5 m a5 hq bq br bt dj dk e4;go_wp2_with fail;go_fit dn.o;rintro e w7 ⟨bu,a6⟩;obtain⟨bw,dq,e8⟩:=Ib (dp.o.trans (a6.mono dp.o.size)) (e6.o.below a6) (e7.o.below a6);clear a6 dn
   rcases bu with ⟨rfl,dr⟩|⟨rfl,ds⟩|⟨gx,xs,rfl,dt,du,dv,dw⟩
   .
    have bx:=Hi dr;clear dr;go_wp2;go_ret2;refine⟨.inl ⟨rfl,?_⟩,bw.o⟩;rw[f.o];exact bx.o
   .
    have bx:=Hi ds;clear ds;go_wp2;go_ret2;refine⟨.inr (.inl ⟨rfl,?_⟩),bw.o⟩;rw[f.o];exact bx.o
   .
    have e9:O (RB w7 gx i G (qAt xs) xs):=Hi ⟨dt,du,fun l t T=>⟨(Qbc T).symm,dv t (mO T)⟩⟩;have fb:O (∀y,Sol i (setRows at_ i (Giv.stf v.length (balM vb v.length vh) cv)) (setSums at_ i p a) y↔∀l,l<i->y l=qAt xs l):=Hi (fun y=>(dw y).trans ⟨fun h l hl=>by
     obtain⟨t,T⟩:∃t,xs[l]?=some t:=⟨xs[l]'(by omega),gE _⟩;rw[Qbc T];exact h l t T,fun h l t T=>by
     rw[<-Qbc T]
     exact h l (by have:=(gZ T).1;omega)⟩)
    have dx:O at_.Nodup:=Hi (by rw[C.o];exact List.nodup_range.filter _);have fd:=Hi (dq.o.mono (K':=G) (by have h1:=ad.o.2.1;have h2:=X.o.2.2.2;omega));clear dt du dv dw dq;go_wp2_with fail;go_loopw [64] (fun jv wl=>∃(j:Nat) (us:List FE),j<=i/\jv=.int .i64 j/\RB wl gm N G (motTo at_ (qAt xs) (hldM vh W s.length) j) us/\RB wl gx i G (qAt xs) xs/\CRow wl fa (at_.map (fun n:Nat=>Value.int .i64 n))/\Below w.heap.size w wl) (fun jv _=>i - (intOf jv).toNat)
    case atStart=>exact⟨0,ms,by omega,rfl,fd.o,e9.o,e8.o,bw.o⟩
    case round=>
     obtain⟨j,us,hj,rfl,al,am,an,ap⟩:=hrel;obtain⟨g,E,dy,dz⟩:=Ic al am an ap;clear al am an ap;by_cases ff:j<i
     .
      obtain⟨r,A⟩:∃r,at_[j]?=some r:=⟨at_[j]'(by have:=f.o;omega),gE _⟩;obtain⟨ab,ao,rfl,ek,t0⟩:=Qd6 dy.o A;have Q:r<N:=by have h1:=mO A;rw[C.o] at h1;exact(Giv.frs_mem.1 h1).1
      obtain⟨tx,a7⟩:=E.o.get ff;obtain⟨d0,d1,d2⟩:=E.o.cells a7;have bz:=E.o.fe a7;obtain⟨o1,o2,o3⟩:=bz.1.one;have df:=Qaa prog o1;have dg:=Qaa prog o2;have dh:=Qaa prog o3;obtain⟨y0,y1,y2,c0,c1,c2,_⟩:=g.o.at Q;have f0:=g.o.blk.blk.free (r*3);have f1:=g.o.blk.blk.free (r*3+1);have f2:=g.o.blk.blk.free (r*3+2);have ho:=(((Only.refl gm wr).setCell (r*3) tx.x).setCell (r*3+1) tx.y).setCell (r*3+2) tx.z;have fg:=Hi (g.o.set Q bz (motTo at_ (qAt xs) (hldM vh W s.length) (j+1)) (fun l=>by
       show (if l=at_.getD j 0 then qAt xs j else motTo at_ (qAt xs) (hldM vh W s.length) j l)=_
       rw[show at_.getD j 0=r by rw[List.getD_eq_getElem?_getD,A];rfl]))
      have fh:O (RB (((wr.setCell ⟨gm,r*3,none⟩ tx.x).setCell ⟨gm,r*3+1,none⟩ tx.y).setCell ⟨gm,r*3+2,none⟩ tx.z) gx i G (qAt xs) xs):=Hi (by
       by_cases e:gx=gm
       .
        have b0:=E.o;rw[e] at b0;have fi:=b0.len_eq g.o;have ea:at_=List.range N:=by
         rw[C.o];exact Qio (by rw[<-C.o,f.o,fi])
        have fj:r=j:=by rw[ea,List.getElem?_range (by omega)] at A;exact(Option.some.inj A).symm
        rw[fj,b0.again a7];exact E.o
       . exact E.o.only g.o ho e)
      obtain⟨fk,fl⟩:=Ia (dy.o.ints g.o ho) (Only.fresh dz.o ho (by rw[ae.o];exact af.o));have q1:((j:Int)<(i:Int)):=by omega
      have q2:((r:Int)<(N:Int)):=by omega
      clear A a7 bz o1 o2 o3 ho;go_wp2;go_roundw
      case rel=>exact⟨j+1,_,by omega,by go_num,fg.o,fh.o,fk.o,fl.o⟩
      case measure=>simp[intOf];omega
     .
      obtain rfl:j=i:=by omega
      go_wp2;go_ret2;refine⟨.inr (.inr ⟨gm,us,_,rfl,by rw[ae.o];exact af.o,g.o,fun r A=>Qd7 A _ (Nat.le_of_eq f.o.symm),fun y=>?_⟩),dz.o⟩;rw[f.o];refine(fb.o y).trans ⟨fun h l hl=>?_,fun h l hl=>?_⟩
      . rw[Qbm dx.o _ (Nat.le_of_eq f.o.symm) hl]
        exact h l hl
      . have:=h l hl
        rwa [Qbm dx.o _ (Nat.le_of_eq f.o.symm) hl] at this
section
variable {js:List S2} {bs:List B6} {hs:List H3} {vb:List (Nat × Nat × Rat × Rat)} {vh:Vy} {N:Nat}
theorem Qf3(d:FrV 1048576 js bs hs vb vh)(e:2*js.length=N)(x:Vec){i:Nat}(f:i<bs.length):stretchV vb x i=Giv.sOf N (balM vb bs.length vh) x i:=by
 obtain⟨p,c⟩:∃p,vb[i]?=some p:=⟨vb[i]'(by have:=d.lb;omega),gE _⟩;obtain⟨b,g⟩:∃b,bs[i]?=some b:=⟨bs[i],gE f⟩;have a:=d.vb i b p g c;obtain⟨s,t,_,_,_,_,h,j,_⟩:=a.ex;have k:=(gZ h).1;have l:=(gZ j).1;unfold stretchV Giv.sOf strq;rw[show vb.getD i (0,0,0,0)=p by rw[List.getD_eq_getElem?_getD,c];rfl];have:=Qx6 x k l a.ne;rw[e] at this;rw[Qac N (fun w=>balM vb bs.length vh w i) x (fun w=>if w<N then barAt p w else 0) x (fun w m=>by simp only[balM,c,if_pos m]),this];grind
theorem Qp6(b:FrV 1048576 js bs hs vb vh)(c:2*js.length=N)(cv a x:Vec){i:Nat}(d:i<bs.length):cv i*(stretchV vb x i - a i)=Giv.tOf N (balM vb bs.length vh) cv a x i:=by
 unfold Giv.tOf;rw[Qf3 b c x d]
theorem Qp7{nb:Nat}{B:Nat->Nat->Rat}{s t:Vec}(h:∀i,i<nb->s i=t i)(w:Nat):Giv.putF nb B s w=Giv.putF nb B t w:=by
 unfold Giv.putF;exact Qac nb _ _ _ _ (fun i a=>by rw[h i a])
theorem Qiq{a:Vec}:∀(k:Nat) (w:Nat),¬w∈ vh->hldM vh a k w=0
 |0,_,_=>rfl
 |k+1,w,h=>by
  show (if vh[k]?=some w then a k else hldM vh a k w)=0
  rw[if_neg (fun e=>h (mO e)),Qiq k w h]
theorem freeW_iff{w:Nat}:freeW vh w=true↔¬w∈ vh:=by
 unfold freeW;simp
theorem Qcj(A:FrV 1048576 js bs hs vb vh)(C:2*js.length=N){cv l s a p m:Vec}{at_:Vy}(f:at_=Giv.frs (freeW vh) N)(D:p=Giv.putF bs.length (balM vb bs.length vh) (fun i=>cv i*(stretchV vb (hldM vh s hs.length) i - l i)))(y:∀w,w<N->freeW vh w=false->m w=hldM vh s hs.length w):
 Sol at_.length (setRows at_ at_.length (Giv.stf bs.length (balM vb bs.length vh) cv)) (setSums at_ at_.length p a) (fun j=>m (at_.getD j 0))↔Giv.Settles N bs.length (balM vb bs.length vh) cv l (freeW vh) (hldM vh s hs.length) a m:=by
 have t:∀w,Giv.putF bs.length (balM vb bs.length vh) (Giv.tOf N (balM vb bs.length vh) cv l m) w=p w - dot at_.length (fun j=>Giv.stf bs.length (balM vb bs.length vh) cv w (at_.getD j 0)) (fun j=>m (at_.getD j 0)):=fun w=>by
  have k:=Giv.put_on (n:=bs.length) (B:=balM vb bs.length vh) (c:=cv) (e:=l) (fr:=freeW vh) (W:=N) (m:=m) (m0:=hldM vh s hs.length) (fun v _ u=>Qiq _ v (freeW_iff.1 u)) y w;rw[<-f] at k;rw[k,D]
  congr 1
  exact Qp7 (fun i b=>(Qp6 A C cv l _ b).symm) w
 have g:∀i,i<at_.length->(setRows at_ at_.length (Giv.stf bs.length (balM vb bs.length vh) cv))[i]?=some (partV at_ at_.length (Giv.stf bs.length (balM vb bs.length vh) cv) at_.length 0 i)/\(setSums at_ at_.length p a)[i]?=some (sumV at_ p a i):=fun i b=>by
  unfold setRows setSums;rw[List.getElem?_map,List.getElem?_map,List.getElem?_range b];exact⟨rfl,rfl⟩
 have o:∀i,i<at_.length->(dot at_.length (partV at_ at_.length (Giv.stf bs.length (balM vb bs.length vh) cv) at_.length 0 i) (fun j=>m (at_.getD j 0))=sumV at_ p a i↔Giv.putF bs.length (balM vb bs.length vh) (Giv.tOf N (balM vb bs.length vh) cv l m) (at_.getD i 0)=a (at_.getD i 0)):=fun i b=>by
  rw[t,Qac at_.length (partV at_ at_.length (Giv.stf bs.length (balM vb bs.length vh) cv) at_.length 0 i) _ (fun j=>Giv.stf bs.length (balM vb bs.length vh) cv (at_.getD i 0) (at_.getD j 0)) (fun j=>m (at_.getD j 0)) (fun j E=>by unfold partV;rw[if_pos ⟨E,.inl b⟩])];unfold sumV;generalize dot at_.length _ _=d;constructor<;>intro h<;>grind
 constructor
 .
  intro h;refine⟨y,fun w F u=>?_⟩;have q:w∈ at_:=by rw[f];exact Giv.frs_mem.2 ⟨F,u⟩
  obtain⟨i,b,e⟩:=List.getElem_of_mem q;have k:=(o i b).1 (h i _ _ (g i b).1 (g i b).2);rw[show at_.getD i 0=w by rw[List.getD_eq_getElem?_getD,gE b,e];rfl] at k;exact k
 .
  intro h i r v z x;have b:i<at_.length:=by
   have:=(gZ z).1
   simpa [setRows] using this
  have k:=g i b;rw[z] at k;rw[x] at k;rw[Option.some.inj k.1,Option.some.inj k.2];refine(o i b).2 (h.2 _ ?_ ?_)
  .
   have:at_.getD i 0∈ at_:=by rw[List.getD_eq_getElem?_getD,gE b];exact List.getElem_mem _
   rw[f] at this;rw[f];exact(Giv.frs_mem.1 this).1
  .
   have:at_.getD i 0∈ at_:=by rw[List.getD_eq_getElem?_getD,gE b];exact List.getElem_mem _
   rw[f] at this;rw[f];exact(Giv.frs_mem.1 this).2
end
theorem Wh.mul{P Q a c:Nat}{p q:Rat}(h:Wh P a p)(k:Wh Q c q):Wh (P*Q) (a+c) (p*q):=by
 obtain⟨y,e,d⟩:=h;obtain⟨z,f,g⟩:=k;refine⟨y*z,?_,?_⟩
 . rw[Rat.intCast_mul,<-e,<-f,Rat.natCast_mul]
   grind
 . rw[Int.natAbs_mul,Nat.pow_add]
   exact Nat.mul_le_mul d g
theorem Wh.wide{P Q a c:Nat}{p:Rat}(h:Wh P a p)(d:Q<=2 ^ c):Wh (P*Q) (a+c) p:=by
 have:=h.mul (Wh.one d);rw[Rat.mul_one] at this;exact this
theorem Wh.to{P d a c:Nat}{p:Rat}(h:Wh P a p)(e:P=d)(f:a<=c):Wh d c p:=e ▸ h.mono f
theorem Qf4{P b:Nat}:∀(n:Nat) (r x:Vec),(∀i,i<n->Wh P b (r i*x i))->WhN P b n (dot n r x)
 |0,r,x,h=>⟨0,by show (0:Rat)*_=_;rw[Rat.zero_mul];rfl,by simp⟩
 |n+1,r,x,h=>by
  have d:=(Qf4 n r x (fun i f=>h i (by omega))).sub (h n (by omega)).neg;have e:dot (n+1) r x=dot n r x - -(r n*x n):=by
   show dot n r x+r n*x n=_
   grind
  rw[e];exact d
theorem WhN.wh{P b a:Nat}{q:Rat}(h:WhN P b a q)(d:a<=32):Wh P (b+5) q:=by
 obtain⟨z,e,f⟩:=h;refine⟨z,e,Nat.le_trans f ?_⟩;rw[Nat.pow_add,Nat.mul_comm];exact Nat.mul_le_mul_left _ d
theorem Qck{P b n:Nat}{r x:Vec}(d:n<=32)(h:∀i,i<n->Wh P b (r i*x i)):Wh P (b+5) (dot n r x):=(Qf4 n r x h).wh d
theorem Wh.of_sum:∀{l:List (Rat × Nat)} {q:Rat},(∀p,p∈ l->Fits p.1 p.2)->q∈ l.map (·.1)->Wh (denP (l.map (·.1))) (l.map (·.2)).sum q
 |p :: l,q,hf,h=>by
  rw[List.map_cons,List.map_cons,List.sum_cons,denP];have hl:=Qbu l (fun t d=>hf t (by simp[d]));have e:=hf p (by simp);rw[List.map_cons] at h;rcases List.mem_cons.1 h with rfl|h
  . refine Wh.wide ⟨p.1.num,Qhz _,Nat.le_of_lt e.1⟩ hl
  . exact((Wh.of_sum (fun t d=>hf t (by simp[d])) h).wide (Nat.le_of_lt e.2)).to (Nat.mul_comm _ _) (by omega)
def bW:List B6->Nat
 | []=>0
 |s :: l=>s.c.size+s.e.size+bW l
def hW:List H3->Nat
 | []=>0
 |s :: l=>s.q.size+hW l
theorem Qir:∀bs:List B6,∃l:List (Rat × Nat),(∀p,p∈ l->Fits p.1 p.2)/\(l.map (·.2)).sum=4*bW bs+2*bs.length/\∀s,s∈ bs->∀x y,QOf s.c.data.toList x->QOf s.e.data.toList y->x∈ l.map (·.1)/\y∈ l.map (·.1)
 | []=>⟨[],(fun p d=>by cases d),rfl,(fun s hs=>by cases hs)⟩
 |s :: js=>by
  obtain⟨l,k,m,n⟩:=Qir js;obtain⟨x,g⟩:=QOf.ex s.c.data.toList;obtain⟨y,h⟩:=QOf.ex s.e.data.toList;refine⟨(x,4*s.c.size+1) :: (y,4*s.e.size+1) :: l,fun p d=>?_,?_,fun t f u v i j=>?_⟩
  .
   rcases List.mem_cons.1 d with rfl|d
   . exact g.fits' lZ
   .
    rcases List.mem_cons.1 d with rfl|d
    . exact h.fits' lZ
    . exact k p d
  . simp only[List.map_cons,List.sum_cons,m,bW,List.length_cons]
    omega
  .
   rcases List.mem_cons.1 f with rfl|f
   . rw[i.inj g,j.inj h]
     simp
   . obtain⟨k1,k2⟩:=n t f u v i j
     exact⟨List.mem_cons_of_mem _ (List.mem_cons_of_mem _ k1),List.mem_cons_of_mem _ (List.mem_cons_of_mem _ k2)⟩
theorem Qis:∀hs:List H3,∃l:List (Rat × Nat),(∀p,p∈ l->Fits p.1 p.2)/\(l.map (·.2)).sum=4*hW hs+hs.length/\∀s,s∈ hs->∀x,QOf s.q.data.toList x->x∈ l.map (·.1)
 | []=>⟨[],(fun p d=>by cases d),rfl,(fun s hs=>by cases hs)⟩
 |s :: js=>by
  obtain⟨l,h,i,j⟩:=Qis js;obtain⟨x,f⟩:=QOf.ex s.q.data.toList;refine⟨(x,4*s.q.size+1) :: l,fun p d=>?_,?_,fun t e u g=>?_⟩
  .
   rcases List.mem_cons.1 d with rfl|d
   . exact f.fits' lZ
   . exact h p d
  . simp only[List.map_cons,List.sum_cons,i,hW,List.length_cons]
    omega
  .
   rcases List.mem_cons.1 e with rfl|e
   . rw[g.inj f]
     simp
   . exact List.mem_cons_of_mem _ (j t e u g)
structure GivP (P b Q c:Nat) (vb:List (Nat × Nat × Rat × Rat)) (nb nh:Nat) (cv ev bv a:Vec):Prop where
 fr:FrP P b vb
 pos:0<Q
 le:Q<=2 ^ c
 ce:∀i,i<nb->Wh Q c (cv i)/\Wh Q c (ev i)
 by_:∀i,i<nh->Wh Q c (bv i)
 a:∀i,Wh Q c (a i)
section
variable {P b Q c N:Nat} {js:List S2} {bs:List B6} {hs:List H3} {vb:List (Nat × Nat × Rat × Rat)} {vh:Vy} {cv ev bv a:Vec}
theorem GivP.hld(h:GivP P b Q c vb bs.length hs.length cv ev bv a):∀k,k<=hs.length->∀w,Wh Q c (hldM vh bv k w)
 |0,_,w=>Wh.zero _ _
 |k+1,hk,w=>by
  show Wh Q c (if vh[k]?=some w then bv k else hldM vh bv k w)
  split
  . exact h.by_ k (by omega)
  . exact h.hld k (by omega) w
theorem GivP.stf(h:GivP P b Q c vb bs.length hs.length cv ev bv a)(f:bs.length<=24)(w v:Nat):Wh (P*(Q*(P*Q))) (2*b+2*c+5) (Giv.stf bs.length (balM vb bs.length vh) cv w v):=by
 unfold Giv.stf;refine Qck (by omega) (fun i d=>?_);have e:=(h.fr.at (nb:=bs.length) (vh:=vh) w i).mul ((h.ce i d).1.mul ((h.fr.at (nb:=bs.length) (vh:=vh) v i).wide h.le));exact e.to rfl (by omega)
theorem GivP.put(h:GivP P b Q c vb bs.length hs.length cv ev bv a)(d:FrV 1048576 js bs hs vb vh)(f:2*js.length=N)(w:Nat):Wh (P*(Q*(P*Q))) (2*b+2*c+11) (Giv.putF bs.length (balM vb bs.length vh) (fun i=>cv i*(stretchV vb (hldM vh bv hs.length) i - ev i)) w):=by
 have l:=d.b;have m:=d.j;unfold Giv.putF;refine(Qck (b:=2*b+2*c+6) (by omega) (fun i e=>?_)).mono (by omega);have g:Wh (P*Q) (b+c+5) (stretchV vb (hldM vh bv hs.length) i):=by
  rw[Qf3 d f _ e];unfold Giv.sOf;exact(Qck (by omega) (fun w _=>(h.fr.at w i).mul (h.hld hs.length lZ w))).neg
 have k:Wh (P*Q) (b+c+5) (ev i):=((h.ce i e).2.wide h.fr.le).to (Nat.mul_comm _ _) (by omega);exact((h.fr.at (nb:=bs.length) (vh:=vh) w i).mul ((h.ce i e).1.mul (g.sub k))).to rfl (by omega)
theorem GivP.sum(h:GivP P b Q c vb bs.length hs.length cv ev bv a)(e:FrV 1048576 js bs hs vb vh)(f:2*js.length=N){p:Vec}(g:p=Giv.putF bs.length (balM vb bs.length vh) (fun i=>cv i*(stretchV vb (hldM vh bv hs.length) i - ev i)))(at_:Vy)(i:Nat):Wh (P*(Q*(P*Q))) (2*b+2*c+12) (sumV at_ p a i):=by
 unfold sumV;have d:=h.put e f (at_.getD i 0);rw[<-g] at d;have j:Wh (P*(Q*(P*Q))) (2*b+2*c+11) (a (at_.getD i 0)):=by
  have k:=(((h.a (at_.getD i 0)).wide h.fr.le).wide h.fr.le).wide h.le;refine k.to ?_ (by omega)
  ac_rfl
 exact d.sub j
theorem GivP.going(h:GivP P b Q c vb bs.length hs.length cv ev bv a)(l:FrV 1048576 js bs hs vb vh)(y:2*js.length=N){p:Vec}(z:p=Giv.putF bs.length (balM vb bs.length vh) (fun i=>cv i*(stretchV vb (hldM vh bv hs.length) i - ev i))){at_:Vy}(o:at_=Giv.frs (freeW vh) N){n e:Nat}(A:at_.length=n)(B:2*b+2*c+12<=e){M:List Vec}(C:M=List.zipWith (wider n) (setRows at_ n (Giv.stf bs.length (balM vb bs.length vh) cv)) (setSums at_ n p a)):
 Going (kE e) (MJ (n+1) 20 (kC e) M)/\MJ (n+1) 20 (kC e) M 0 M [] []/\
 ∀L S g,MJ (n+1) 20 (kC e) M (n+1) L S g->(Ech 0 (n+1) S g/\∀x,Null (n+1) M x↔Null (n+1) S x)/\clnFits (kW e) S g/\∀v,v∈ cln S g->∀i,Fits (v i) (kC e):=by
 have D:=l.b;have E:=l.j;have u:n<=20:=by rw[<-A,o];exact Nat.le_trans (Giv.frs_len _ _) (by omega)
 have d:=Nat.mul_pos h.fr.pos (Nat.mul_pos h.pos (Nat.mul_pos h.fr.pos h.pos));have q:P*(Q*(P*Q))<=2 ^ e:=by
  have w:=Nat.mul_le_mul h.fr.le (Nat.mul_le_mul h.le (Nat.mul_le_mul h.fr.le h.le));rw[<-Nat.pow_add,<-Nat.pow_add,<-Nat.pow_add] at w;exact Nat.le_trans w (Nat.pow_le_pow_right (by decide) (by omega))
 subst C;refine Qfl d q (fun r s j=>?_) (fun r s i F=>?_) (.inl ?_)
 .
  obtain⟨m,t,v,f,rfl⟩:=Qcw s;obtain⟨k,_,rfl⟩:=List.mem_map.1 t;obtain⟨i,_,rfl⟩:=List.mem_map.1 f;unfold wider
  split
  . exact(h.sum l y z at_ i).mono B
  .
   unfold partV
   split
   . exact(h.stf D _ _).mono (by omega)
   . exact Wh.zero _ _
 .
  obtain⟨m,t,v,f,rfl⟩:=Qcw s;obtain⟨k,_,rfl⟩:=List.mem_map.1 t;unfold wider partV;rw[if_neg (by omega),if_neg (by omega)]
 . simp only[List.length_zipWith,setRows,setSums,List.length_map,List.length_range]
   omega
end
theorem FrV.overG{N T:Nat}{js:List S2}{bs:List B6}{hs:List H3}{vb:List (Nat × Nat × Rat × Rat)}{vh:Vy}{ls:List L3}{vs:List (Nat × Rat × Rat)}{cv ev bv:Vec}(k:FrV 1048576 js bs hs vb vh)(B:∀(i:Nat) (b:B6),bs[i]?=some b->QOf b.c.data.toList (cv i)/\QOf b.e.data.toList (ev i))(C:∀(i:Nat) (h:H3),hs[i]?=some h->QOf h.q.data.toList (bv i))(V:ls.length<=20)(W:vs.length=ls.length)(D:∀(i:Nat) (l:L3) (p:Nat × Rat × Rat),ls[i]?=some l->vs[i]?=some p->LoadV js.length l p)(hT:jW js+bW bs+hW hs+lW ls<=T):∃P b Q c,GivP P b Q c vb bs.length hs.length cv ev bv (agn vs)/\2*b+2*c+12<=8*T+300:=by
 obtain⟨l,H,h2,I⟩:=Qfg js;obtain⟨J,X,Y,Z⟩:=Qir bs;obtain⟨K,j1,j2,j3⟩:=Qis hs;obtain⟨L,k1,k2,k3⟩:=Qfi ls;have M:=k.j;have hb:=k.b;have hh:=k.h;obtain⟨m,n⟩:=nm (J++(K++L));have O:∀p,p∈ m->Fits p.1 p.2:=fun p d=>by
  rw[<-n] at d;rcases List.mem_append.1 d with d|d
  . exact X p d
  .
   rcases List.mem_append.1 d with d|d
   . exact j1 p d
   . exact k1 p d
 have aa:(m.map (·.2)).sum=4*bW bs+2*bs.length+(4*hW hs+hs.length+(4*lW ls+2*ls.length)):=by
  rw[<-n,List.map_append,List.map_append,List.sum_append,List.sum_append,Y,j2,k2]
 have o:∀q,q∈ J.map (·.1)->q∈ m.map (·.1):=fun q f=>by rw[<-n,List.map_append];exact List.mem_append.2 (.inl f)
 have E:∀q,q∈ K.map (·.1)->q∈ m.map (·.1):=fun q f=>by rw[<-n,List.map_append,List.map_append];exact List.mem_append.2 (.inr (List.mem_append.2 (.inl f)))
 have r:∀q,q∈ L.map (·.1)->q∈ m.map (·.1):=fun q f=>by rw[<-n,List.map_append,List.map_append];exact List.mem_append.2 (.inr (List.mem_append.2 (.inr f)))
 have w:∀q:Rat,q∈ m.map (·.1)->Wh (denP (m.map (·.1))) (m.map (·.2)).sum q:=fun q f=>Wh.of_sum O f
 have z:∀q:Rat,q∈ l.map (·.1)->Wh (denP (l.map (·.1))) (l.map (·.2)).sum q:=fun q f=>Wh.of_sum H f
 refine⟨denP (l.map (·.1)),(l.map (·.2)).sum+1,denP (m.map (·.1)),(m.map (·.2)).sum+5,⟨⟨Qcd _,Nat.le_trans (Qbu l H) (Nat.pow_le_pow_right (by decide) (by omega)),fun p d=>?_⟩,Qcd _,Nat.le_trans (Qbu m O) (Nat.pow_le_pow_right (by decide) (by omega)),fun i u=>?_,fun i u=>?_,fun i=>?_⟩,by omega⟩
 .
  obtain⟨i,u,rfl⟩:=List.getElem_of_mem d;have F:i<bs.length:=by have:=k.lb;omega
  obtain⟨s,t,x1,y1,x2,y2,g,A,_,_,_,_,u1,u2,u3,u4,e3,e4⟩:=(k.vb i bs[i] vb[i] (gE F) (gE u)).ex;have v:=I s (mO g) x1 y1 u1 u2;have R:=I t (mO A) x2 y2 u3 u4;rw[e3,e4];exact⟨(z x2 R.1).sub (z x1 v.1),(z y2 R.2).sub (z y1 v.2)⟩
 .
  have g:=B i bs[i] (gE u);have A:=Z bs[i] (List.getElem_mem _) _ _ g.1 g.2;exact⟨(w _ (o _ A.1)).mono (by omega),(w _ (o _ A.2)).mono (by omega)⟩
 . have g:=C i hs[i] (gE u)
   exact(w _ (E _ (j3 hs[i] (List.getElem_mem _) _ g))).mono (by omega)
 .
  have hw:∀p,p∈ vs->Wh (denP (m.map (·.1))) (m.map (·.2)).sum p.2.1/\Wh (denP (m.map (·.1))) (m.map (·.2)).sum p.2.2:=fun p d=>by
   obtain⟨j,M,rfl⟩:=List.getElem_of_mem d;have G:j<ls.length:=by omega
   have S:=D j ls[j] vs[j] (gE G) (gE M);have v:=k3 _ (List.getElem_mem _) _ _ S.x S.y;exact⟨w _ (r _ v.1),w _ (r _ v.2)⟩
  have U:=Qdr vs.length vs hw i;rw[List.take_length] at U;exact U.wh (by omega)
theorem Going.ends{K:Nat}{I:Nat->List Vec->List Vec->List Nat->Prop}(h:Going K I){M:List Vec}(g:I 0 M [] []):∀W,∃L S hs,I W L S hs
 |0=>⟨M,[],[],g⟩
 |W+1=>by
  obtain⟨L,S,hs,i⟩:=h.ends g W;by_cases l:∀r,r∈ L->r W=0
  . exact⟨L,S,hs,h.skip i l⟩
  .
   have:∃r,r∈ L/\r W≠0:=bC fun k=>l fun r d=>bC fun k'=>k ⟨r,d,k'⟩
   obtain⟨r,d,f⟩:=this;obtain⟨j,m⟩:=List.getElem?_of_mem d;exact⟨_,_,_,h.step i m f⟩
theorem Qp8{K k n:Nat}{I:Nat->List Vec->List Vec->List Nat->Prop}{M:List Vec}{s:List Rat}{x:Vec}(q:Going K I)(r:I 0 (List.zipWith (wider n) M s) [] [])(d:∀L S hs,I (n+1) L S hs->(Ech 0 (n+1) S hs/\∀x,Null (n+1) (List.zipWith (wider n) M s) x↔Null (n+1) S x)/\∀v,v∈ cln S hs->∀i,Fits (v i) k)(l:Sol n M s x)(m:∀y,Sol n M s y->∀i,i<n->y i=x i):∀i,i<n->Fits (x i) k:=fun i D=>by
 obtain⟨L,S,hs,t⟩:=q.ends r (n+1);obtain⟨⟨f,h⟩,u⟩:=d L S hs t;have g:n ∉ hs:=fun g=>Qj6 f h g x l
 have hl:¬hs.length<n:=fun hl=>by
  obtain⟨y,z,A,B,c,o,j⟩:=Qj7 f h g hl;exact j ((m y A c o).trans (m z B c o).symm)
 obtain⟨f1,f2,f3⟩:=Qj8 f h g hl;have p:(cln S hs).length=n:=by rw[Qeg S hs f.len,f.len,f1]
 have C:(cln S hs)[i]?=some ((cln S hs)[i]'(by omega)):=gE _;rw[(f3 x).1 l i _ C];exact u _ (List.getElem_mem _) n
theorem Sol.congr{n:Nat}{M:List Vec}{s:List Rat}{x y:Vec}(h:Sol n M s x)(k:∀i,i<n->x i=y i):Sol n M s y:=fun i r v d f=>by
 rw[<-h i r v d f];exact Qac n r y r x (fun c g=>by rw[k c g])
def StlSays(w:Vz)(N nb K KF:Nat)(B:Nat->Nat->Rat)(cv ev:Vec)(fr:Nat->Bool)(h0 a:Vec)(e:Ending)(w':Vz):Prop:=
 ((e=.returned (.tuple #[.slice none 0 0,.int .i64 8])/\∀m,¬Giv.Settles N nb B cv ev fr h0 a m)∨
  (e=.returned (.tuple #[.slice none 0 0,.int .i64 9])/\∃m m',Giv.Settles N nb B cv ev fr h0 a m/\Giv.Settles N nb B cv ev fr h0 a m'/\∃r,r<N/\m r≠m' r)∨
  (∃(g:Nat) (us:List FE) (m:Vec),e=.returned (.tuple #[.slice (some ⟨g,0,none⟩) N N,.int .i64 0])/\w.heap.size<=g/\RB w' g N K m us/\Giv.Settles N nb B cv ev fr h0 a m/\(∀m',Giv.Settles N nb B cv ev fr h0 a m'->∀r,r<N->m' r=m r)/\∀r,r<N->Fits (m r) KF))/\Below w.heap.size w w'
section
variable {w w':Vz} {a1 a2 a3:Vx} {c1 c2 c3 N P b Q c ga KA e:Nat} {js:List S2} {bs:List B6} {hs:List H3} {vb:List (Nat × Nat × Rat × Rat)} {vh:Vy} {cv ev bv a:Vec} {asl:List FE}
theorem GivV.settled(h:GivV w a1 a2 a3 c1 c2 c3 N js bs hs vb vh cv ev bv)(Z:RB w ga N KA a asl)(O:GivP P b Q c vb bs.length hs.length cv ev bv a)(he:2*b+2*c+12<=e)(e1:2000000<=e)(e2:e<=16000000)(aa:KA<=100000000):
 Calls prog 53 #[.agg #[.slice a1 js.length c1,.slice a2 bs.length c2,.slice a3 hs.length c3],.slice (some ⟨ga,0,none⟩) N N] w (StlSays w N bs.length (kW e) (kC e) (balM vb bs.length vh) cv ev (freeW vh) (hldM vh bv hs.length) a):=by
 obtain⟨at_,d⟩:∃l,l=Giv.frs (freeW vh) N:=⟨_,rfl⟩;obtain⟨p,E⟩:∃p,p=Giv.putF bs.length (balM vb bs.length vh) (fun i=>cv i*(stretchV vb (hldM vh bv hs.length) i - ev i)):=⟨_,rfl⟩;obtain⟨G,H,o⟩:=O.going h.fv h.n E d rfl he rfl;have R:=Qp5 a1 a2 a3 c1 c2 c3 N ga KA (kW e) _ _ _ _ js bs hs vb vh cv ev bv a p asl w h Z at_ d E rfl rfl rfl rfl (by simp only[kW,kC];omega) (by simp only[kW,kC];omega) (by simp only[kW,kC];omega) _ (G.mono (by simp only[kE,kW,kC];omega)) H (fun L S F f=>⟨(o L S F f).1.1,(o L S F f).1.2,(o L S F f).2.1⟩);refine R.mono fun en w' hw=>?_
 obtain⟨A,hb⟩:=hw;refine⟨?_,hb⟩;have B:at_.Nodup:=by rw[d];exact List.Nodup.sublist List.filter_sublist List.nodup_range
 have I:∀r,r<N->freeW vh r=true->∃i,i<at_.length/\at_.getD i 0=r:=fun r t k=>by
  have J:r∈ at_:=by rw[d];exact Giv.frs_mem.2 ⟨t,k⟩
  obtain⟨i,f,e⟩:=List.getElem_of_mem J;exact⟨i,f,by rw[List.getD_eq_getElem?_getD,gE f,e];rfl⟩
 have u:∀r,freeW vh r=false->¬r∈ at_:=fun r k s=>by
  rw[d] at s;have:=(Giv.frs_mem.1 s).2;rw[k] at this;cases this
 have v:∀x,Sol at_.length (setRows at_ at_.length (Giv.stf bs.length (balM vb bs.length vh) cv)) (setSums at_ at_.length p a) x->Giv.Settles N bs.length (balM vb bs.length vh) cv ev (freeW vh) (hldM vh bv hs.length) a (motTo at_ x (hldM vh bv hs.length) at_.length):=fun x T=>by
  refine(Qcj h.fv h.n d E (fun r _ k=>Qd7 (u r k) _ lZ)).1 ?_;exact T.congr (fun i f=>(Qbm B _ lZ f).symm)
 rcases A with ⟨rfl,U⟩|⟨rfl,x,y,T,V,i,f,W⟩|⟨g,us,m,rfl,X,Y,C,q⟩
 . refine .inl ⟨rfl,fun m s=>?_⟩
   exact U _ ((Qcj h.fv h.n d E s.1).2 s)
 .
  refine .inr (.inl ⟨rfl,_,_,v x T,v y V,at_.getD i 0,?_,?_⟩)
  .
   have:at_.getD i 0∈ at_:=by rw[List.getD_eq_getElem?_getD,gE f];exact List.getElem_mem _
   rw[d] at this;rw[d];exact(Giv.frs_mem.1 this).1
  . rw[Qbm B _ lZ f,Qbm B _ lZ f]
    exact W
 .
  have s:∀r,r<N->freeW vh r=false->m r=hldM vh bv hs.length r:=fun r _ k=>C r (u r k)
  have z:=(q (fun j=>m (at_.getD j 0))).2 (fun i f=>rfl);have K:=(Qcj h.fv h.n d E s).1 z;have M:=Qp8 G H (fun L S F f=>⟨(o L S F f).1,(o L S F f).2.2⟩) z (fun y V i f=>(q y).1 V i f);refine .inr (.inr ⟨g,us,m,rfl,X,Y,K,fun m' D r t=>?_,fun r t=>?_⟩)
  .
   cases k:freeW vh r with
   |false=>rw[s r t k,D.1 r t k]
   |true=>
    obtain⟨i,f,rfl⟩:=I r t k;exact(q _).1 ((Qcj h.fv h.n d E D.1).2 D) i f
  .
   cases k:freeW vh r with
   |false=>
    rw[s r t k];exact((O.hld hs.length lZ r).fits O.pos O.le).mono (by simp only[kC];omega)
   |true=>
    obtain⟨i,f,rfl⟩:=I r t k;exact M i f
end
theorem RB.refit{w:Vz}{g n K a:Nat}{x:Vec}{us:List FE}(h:RB w g n K x us)(f:∀r,r<n->Fits (x r) a)(j:0<a):RB w g n a x (us.map (fun t=>{ t with k:=a })):=by
 have l:(us.map (fun t=>{ t with k:=a })).flatMap FE.cells=us.flatMap FE.cells:=by
  rw[List.flatMap_map];rfl
 refine⟨⟨by rw[l];exact h.blk.blk,fun t b=>?_⟩,by rw[List.length_map,h.len],fun i t b=>?_⟩
 .
  obtain⟨s,c,rfl⟩:=List.mem_map.1 b;obtain⟨i,e⟩:=List.getElem?_of_mem c;have d:=(gZ e).1;refine⟨(h.blk.ts s c).1,?_,j⟩
  show Fits s.q a
  rw[(h.val i s e).1];exact f i (by rw[<-h.len];exact d)
 .
  rw[List.getElem?_map] at b;obtain⟨s,c,rfl⟩:=Option.map_eq_some_iff.1 b;exact⟨(h.val i s c).1,Nat.le_refl _⟩
theorem Qc2{u:Vz}{g c:Nat}{x1 x2 x3 y1 y2 f h i k1 k2:Value}(a:g≠c)(s:SB u g 47 #[f,h,i])(j:SB u c 41 #[k1,k2]):
 SB (((((u.setCell ⟨g,0,none⟩ x1).setCell ⟨g,1,none⟩ x2).setCell ⟨g,2,none⟩ x3).setCell ⟨c,0,none⟩ y1).setCell ⟨c,1,none⟩ y2) g 47 #[x1,x2,x3]/\SB (((((u.setCell ⟨g,0,none⟩ x1).setCell ⟨g,1,none⟩ x2).setCell ⟨g,2,none⟩ x3).setCell ⟨c,0,none⟩ y1).setCell ⟨c,1,none⟩ y2) c 41 #[y1,y2]/\
  (∀(b:Nat) (t:Vr) (C:Vw),SB u b t C->b≠g->b≠c->SB (((((u.setCell ⟨g,0,none⟩ x1).setCell ⟨g,1,none⟩ x2).setCell ⟨g,2,none⟩ x3).setCell ⟨c,0,none⟩ y1).setCell ⟨c,1,none⟩ y2) b t C):=by
 refine⟨?_,?_,fun b t C k d e=>((((k.other d 0 x1).other d 1 x2).other d 2 x3).other e 0 y1).other e 1 y2⟩
 . have:=((((s.set 0 x1).set 1 x2).set 2 x3).other a 0 y1).other a 1 y2
   simpa using this
 . have:=((((j.other a.symm 0 x1).other a.symm 1 x2).other a.symm 2 x3).set 0 y1).set 1 y2
   simpa using this
theorem Qc3:(prog.info? 47).map (·.size)=some 3:=by kernel_rfl
def TextsOf(n:Nat)(x:Vec)(ss:Vt):Prop:=ss.length=n/\∀(i:Nat) (s:Vs),ss[i]?=some s->QText s.data.toList (x i)
def holdV(vh:Vy)(a p:Vec):Vec:=fun i=>a (vh.getD i 0) - p (vh.getD i 0)
def MoveSays(w:Vz)(nj nb nh KF:Nat)(vb:List (Nat × Nat × Rat × Rat))(vh:Vy)(cv ev bv a:Vec)(e:Ending)(w':Vz):Prop:=
 ((e=.returned (.tuple #[.agg #[.slice none 0 0,.slice none 0 0,.slice none 0 0],.agg #[.int .i64 8,.int .i64 0]])/\∀m,¬Giv.Settles (2*nj) nb (balM vb nb vh) cv ev (freeW vh) (hldM vh bv nh) a m)∨
  (e=.returned (.tuple #[.agg #[.slice none 0 0,.slice none 0 0,.slice none 0 0],.agg #[.int .i64 9,.int .i64 0]])/\∃m m',Giv.Settles (2*nj) nb (balM vb nb vh) cv ev (freeW vh) (hldM vh bv nh) a m/\Giv.Settles (2*nj) nb (balM vb nb vh) cv ev (freeW vh) (hldM vh bv nh) a m'/\∃r,r<2*nj/\m r≠m' r)∨
  (∃(g1 g2 g3:Nat) (ss:List S2) (tb th:Vt) (m t:Vec),e=.returned (.tuple #[.agg #[.slice (some ⟨g1,0,none⟩) nj nj,.slice (some ⟨g2,0,none⟩) nb nb,.slice (some ⟨g3,0,none⟩) nh nh],.agg #[.int .i64 0,.int .i64 0]])/\ss.length=nj/\SB w' g1 34 (ss.flatMap S2.cells).toArray/\SpotsTold m ss/\
    SB w' g2 32 (textsV tb).toArray/\TextsOf nb t tb/\SB w' g3 32 (textsV th).toArray/\TextsOf nh (holdV vh a (Giv.putF nb (balM vb nb vh) t)) th/\t=(fun i=>cv i*(stretchV vb m i - ev i))/\
    Giv.Settles (2*nj) nb (balM vb nb vh) cv ev (freeW vh) (hldM vh bv nh) a m/\(∀m',Giv.Settles (2*nj) nb (balM vb nb vh) cv ev (freeW vh) (hldM vh bv nh) a m'->∀r,r<2*nj->m' r=m r)/\∀r,r<2*nj->Fits (m r) KF))/\Below w.heap.size w w'
theorem RB.mok{w:Vz}{g n K:Nat}{x:Vec}{us:List FE}(h:RB w g n K x us):MOk w n K ⟨some ⟨g,0,none⟩,n,us⟩/\∀i,i<n->(MR.mk (some ⟨g,0,none⟩) n us).q i=x i:=by
 refine⟨⟨?_,h.len,fun t a=>?_⟩,fun i b=>?_⟩
 .
  have:=h.blk.row;rw[h.len] at this;exact this
 . obtain⟨i,b⟩:=List.getElem?_of_mem a
   exact(h.val i t b).2
 .
  obtain⟨t,a⟩:=h.get b;rw[MR.q_at (r:=MR.mk (some ⟨g,0,none⟩) n us) a];exact(h.val i t a).1
theorem Qit{u:Vz}{g b i j:Nat}{x:Value}(h:b≠g):(u.setCell ⟨g,i,none⟩ x).cell? ⟨b,j,none⟩=u.cell? ⟨b,j,none⟩:=World.cell?_of_block (Below.heap_setCell u ⟨g,i,none⟩ x b h)
theorem Qiu(a1 a2 R al:Vx)(c1 c2 c3 cl N P b Q c E KA:Nat)(B:List S2)(z:List B6)(d:List H3)(vb:List (Nat × Nat × Rat × Rat))(vh:Vy)(cv ev bv:Vec)(ls:List L3)(vs:List (Nat × Rat × Rat))(w:Vz)(h:GivV w a1 a2 R c1 c2 c3 N B z d vb vh cv ev bv)(hz:FrSized B z d)(c5:FrameFault B z d 0 0)
 (hl:ARow L3.cells w al cl ls) (gs:ls.length<=20) (c6:vs.length=ls.length) (c7:∀(i:Nat) (l:L3) (p:Nat × Rat × Rat),ls[i]?=some l->vs[i]?=some p->LoadV B.length l p) (bh:∀k i,Fits (agn (vs.take k) i) KA) (bi:0<KA) (c8:KA<=100000000) (c9:GivP P b Q c vb z.length d.length cv ev bv (agn vs)) (he:2*b+2*c+12<=E) (e1:2000000<=E) (e2:E<=10000000):
 Calls prog 15 #[.agg #[.slice a1 B.length c1,.slice a2 z.length c2,.slice R d.length c3],.slice al ls.length cl] w (MoveSays w B.length z.length d.length (kC E) vb vh cv ev bv (agn vs)):=by
 obtain⟨J,HZ,fk,HL,da,db,dc,fl,HE⟩:=Ih h hz c5 hl c6 c7 bh c9 (And.intro he (And.intro e1 e2));have a4:=Hi (And.intro bi c8);have n1:=h.fv.j;have n2:=h.fv.b;have n3:=h.fv.h;clear h hz c5 hl c6 c7 bh c9 he e1 e2 bi c8;obtain⟨a,ai⟩:=nm w.heap.size;obtain⟨V0,aa⟩:=nm (((w.alloc (.cells #[.slice a1 B.length c1,.slice a2 z.length c2,.slice R d.length c3] 26)).alloc (.cells #[.slice none 0 0,.slice none 0 0,.slice none 0 0] 47)).alloc (.cells #[.int .i64 0,.int .i64 0] 41));have M:O (Bl w V0):=Hi (by rw[<-aa];exact(Below.new2 w _ _).alloc (by simp;omega) _);have aj:O (SB V0 a 26 #[.slice a1 B.length c1,.slice a2 z.length c2,.slice R d.length c3]):=Hi (by rw[<-aa,<-ai];exact((SB.new w _ _).alloc _).alloc _)
 have S:O (SB V0 (a+1) 47 #[.slice none 0 0,.slice none 0 0,.slice none 0 0]):=Hi (by rw[<-aa,<-ai];exact(Qai w _ _ _).alloc _);have T:O (SB V0 (a+1+1) 41 #[.int .i64 0,.int .i64 0]):=Hi (by
  rw[<-aa,<-ai];have h:=Qai (w.alloc (.cells #[.slice a1 B.length c1,.slice a2 z.length c2,.slice R d.length c3] 26)) (.cells #[.slice none 0 0,.slice none 0 0,.slice none 0 0] 47) 41 #[.int .i64 0,.int .i64 0];rw[World.size_alloc] at h
  exact h)
 obtain⟨dd,fm,de⟩:=Ib aa ai (Qb9 a1 a2 R c1 c2 c3 B z d V0 (J.o.gl.below M.o) (J.o.fr.below M.o) HZ.o fk.o);have A:w.heap.size<=a+1:=by omega
 clear aa ai;go_enter func15,ntmps15;go_wp2_with fail;rw[dd.o,fm.o];clear dd;go_fit de.o;rintro e w1 ⟨rfl,bu⟩;obtain⟨V1,ak⟩:=nm (w1.alloc (.cells #[.int .i64 0,.int .i64 0] 41));have W:Bl V0 V1:=by rw[<-ak];exact bu.alloc bu.size _
 have L:=Hi (aj.o.below W aj.o.lt);have x0:V1.cell? ⟨a,0,none⟩=some (.slice a1 B.length c1):=by
  have h:=L.o.cell 0
  simpa using h
 have x1:V1.cell? ⟨a,1,none⟩=some (.slice a2 z.length c2):=by
  have h:=L.o.cell 1
  simpa using h
 have x2:V1.cell? ⟨a,2,none⟩=some (.slice R d.length c3):=by
  have h:=L.o.cell 2
  simpa using h
 have k0:V1.cell? ⟨w1.heap.size,0,none⟩=some (.int .i64 0):=by rw[<-ak];exact(SB.new w1 _ _).cell 0
 rw[<-ak] at x0 x1 x2 k0;obtain⟨df,am⟩:=Ia (M.o.trans (W.mono M.o.size)) W;obtain⟨dg,dh⟩:=Ia (Qfa a1 a2 R al c1 c2 c3 cl B.length z.length d.length ls V1 (HL.o.below df.o) n1 n2 n3 (by omega)) ak;clear ak W bu L;go_wp2_with fail;rw[dh.o];go_fit dg.o;rintro e w2 ⟨c,at_,rfl,di,bw⟩;obtain⟨rfl,rfl⟩:c=0/\at_=0:=by
  rcases di with ⟨h,_⟩|⟨_,⟨k,l,hk,_,hj,_⟩|⟨_,h1,h2⟩⟩
  . omega
  .
   obtain⟨p,hp⟩:∃p,vs[k]?=some p:=⟨vs[k]'(by have:=(gZ hk).1;have:=da.o;omega),gE _⟩;have h:=db.o k l p hk hp;exact absurd ⟨by rw[h.j];omega,by rw[h.j];have:=h.lt;omega⟩ hj
  . exact⟨h1,h2⟩
 obtain⟨V,hV⟩:=nm (w2.alloc (.cells #[.int .i64 0,.int .i64 0] 41));have an:=am.o.trans ((show Below V1.heap.size V1 V by rw[<-hV];exact bw.alloc bw.size _).mono am.o.size);obtain⟨F,ab,U,x⟩:=Ic (aj.o.below an aj.o.lt) (S.o.below an S.o.lt) (T.o.below an T.o.lt) (M.o.trans (an.mono M.o.size));clear x0 x1 x2 k0;have x0:V.cell? ⟨a,0,none⟩=some (.slice a1 B.length c1):=by
  have h:=F.o.cell 0
  simpa using h
 have x1:V.cell? ⟨a,1,none⟩=some (.slice a2 z.length c2):=by
  have h:=F.o.cell 1
  simpa using h
 have x2:V.cell? ⟨a,2,none⟩=some (.slice R d.length c3):=by
  have h:=F.o.cell 2
  simpa using h
 have k0:V.cell? ⟨w2.heap.size,0,none⟩=some (.int .i64 0):=by rw[<-hV];exact(SB.new w2 _ _).cell 0
 have dj:=Hi hV;rw[<-hV] at x0 x1 x2 k0;have dk:=Hi (Qmq a1 a2 R al c1 c2 c3 cl B.length z.length d.length KA ls vs V (J.o.gl.below x.o) (HL.o.below x.o) (by omega) n1 da.o db.o a4.o.1 (by have:=a4.o;omega) dc.o);clear di bw hV an aj S T de dg df am dh;go_wp2_with fail;rw[dj.o];clear k0 x0 x1 x2;go_fit dk.o;rintro e w3 ⟨⟨ga,Na,ua,dl,rfl,dm,dn,dp⟩,ao⟩;obtain rfl:N=Na:=by rw[dl];exact J.o.n.symm
 have bx:O (RB w3 ga N KA (agn vs) ua):=Hi ⟨dm,dn,dp⟩;obtain⟨bz,dq,a5⟩:=Ib ao (x.o.trans (ao.mono x.o.size)) (F.o.below ao F.o.lt);have dr:=Hi ((J.o.below dq.o).settled bx.o fl.o HE.o.1 HE.o.2.1 (by have:=HE.o;omega) a4.o.2);have x0:w3.cell? ⟨a,0,none⟩=some (.slice a1 B.length c1):=by
  have h:=a5.o.cell 0
  simpa using h
 have x1:w3.cell? ⟨a,1,none⟩=some (.slice a2 z.length c2):=by
  have h:=a5.o.cell 1
  simpa using h
 have x2:w3.cell? ⟨a,2,none⟩=some (.slice R d.length c3):=by
  have h:=a5.o.cell 2
  simpa using h
 clear dl dm dn dp ao dk dj;go_wp2_with fail;clear x0 x1 x2;go_fit dr.o;rintro e w4 ⟨b0,b1⟩;have G:=Hi (bz.o.trans (b1.mono bz.o.size));obtain⟨ds,bj,a6⟩:=Ib (x.o.trans (G.o.mono x.o.size)) (bx.o.below b1) (F.o.below G.o F.o.lt);clear b1 dr bx a5 dq bz;rcases b0 with ⟨rfl,dt⟩|⟨rfl,du⟩|⟨gm,us,m,rfl,fn,ap,bk,bl,a7⟩
 .
  have b2:=Hi dt;clear dt;obtain⟨f,y⟩:=Ia (ab.o.below G.o ab.o.lt) (U.o.below G.o U.o.lt);obtain⟨y0,y1,y4,-⟩:=zc f.o;obtain⟨y2,y3,-⟩:=zc y.o;have b3:=f.o.free 0;have b4:=f.o.free 1;have b5:=f.o.free 2;have b6:=y.o.free 0;have b7:=y.o.free 1;have aq:=Hi (x.o.trans ((G.o).mono x.o.size));go_wp2;have H:=Qc2 (x1:=.slice none 0 0) (x2:=.slice none 0 0) (x3:=.slice none 0 0) (y1:=.int .i64 8) (y2:=.int .i64 0) (by omega:a+1≠a+1+1) f.o y.o
  refine bodyPost_ret (Qbe rfl _ _ (a+1) (a+1+1) 47 41 #[.slice none 0 0,.slice none 0 0,.slice none 0 0] #[.int .i64 8,.int .i64 0] (0,0) (0,0) _ _ rfl H.1 rfl H.2.1 underlying47 rfl Qc3 underlying41 rfl Tryz.faultInfo) rfl ?_;have I:=((((aq.o.setCell (p:=⟨a+1,0,none⟩) A (.slice none 0 0)).setCell (p:=⟨a+1,1,none⟩) A (.slice none 0 0)).setCell (p:=⟨a+1,2,none⟩) A (.slice none 0 0)).setCell (p:=⟨a+1+1,0,none⟩) (Nat.le_succ_of_le A) (.int .i64 8)).setCell (p:=⟨a+1+1,1,none⟩) (Nat.le_succ_of_le A) (.int .i64 0);exact⟨.inl ⟨rfl,by rw[J.o.n];exact b2.o⟩,I⟩
 .
  have b2:=Hi du;clear du;obtain⟨f,y⟩:=Ia (ab.o.below G.o ab.o.lt) (U.o.below G.o U.o.lt);obtain⟨y0,y1,y4,-⟩:=zc f.o;obtain⟨y2,y3,-⟩:=zc y.o;have b3:=f.o.free 0;have b4:=f.o.free 1;have b5:=f.o.free 2;have b6:=y.o.free 0;have b7:=y.o.free 1;have aq:=Hi (x.o.trans ((G.o).mono x.o.size));go_wp2;have H:=Qc2 (x1:=.slice none 0 0) (x2:=.slice none 0 0) (x3:=.slice none 0 0) (y1:=.int .i64 9) (y2:=.int .i64 0) (by omega:a+1≠a+1+1) f.o y.o
  refine bodyPost_ret (Qbe rfl _ _ (a+1) (a+1+1) 47 41 #[.slice none 0 0,.slice none 0 0,.slice none 0 0] #[.int .i64 9,.int .i64 0] (0,0) (0,0) _ _ rfl H.1 rfl H.2.1 underlying47 rfl Qc3 underlying41 rfl Tryz.faultInfo) rfl ?_;have I:=((((aq.o.setCell (p:=⟨a+1,0,none⟩) A (.slice none 0 0)).setCell (p:=⟨a+1,1,none⟩) A (.slice none 0 0)).setCell (p:=⟨a+1,2,none⟩) A (.slice none 0 0)).setCell (p:=⟨a+1+1,0,none⟩) (Nat.le_succ_of_le A) (.int .i64 9)).setCell (p:=⟨a+1+1,1,none⟩) (Nat.le_succ_of_le A) (.int .i64 0);exact⟨.inr (.inl ⟨rfl,by rw[J.o.n];exact b2.o⟩),I⟩
 .
  obtain⟨KM,ad⟩:=nm (kC E);have bm:1<=KM/\KM<=220000200:=by have:=HE.o;rw[<-ad];simp only[kC];omega
  have b8:=ap.refit a7 (by rw[ad];exact bm.1);obtain⟨um,dv⟩:∃um,us.map (fun t=>{ t with k:=kC E })=um:=⟨_,rfl⟩;rw[dv,ad] at b8;rw[ad] at a7;obtain⟨b9,dw,dx,fo,fp⟩:=Id b8 bk bl a7 ad;obtain⟨KS,cb⟩:∃KS,KS=2*(8388611+(2*KM+1))+1:=⟨_,rfl⟩;obtain⟨KP,cc⟩:∃KP,KP=4194305+(KS+4194305+1):=⟨_,rfl⟩;obtain⟨KQ,dy⟩:∃KQ,KQ=24*(8388611+KP+1)+1:=⟨_,rfl⟩;obtain⟨KH,dz⟩:∃KH,KH=KA+KQ+1:=⟨_,rfl⟩;have ae:O (KP<=2500000000/\KA+KQ<68719476000/\0<KH/\KH<=274877906944):=Hi (by have:=a4.o;omega);obtain⟨cd,ce⟩:=Ia (And.intro cb (And.intro cc (And.intro dy dz))) ((J.o.below ds.o).pulls 0 (Nat.zero_le _) (B':=0) (v:=.slice (some ⟨gm,0,none⟩) N N) ⟨gm,um,rfl,Nat.zero_le _,b9.o⟩ cb (by omega) cc);obtain⟨t,ht⟩:∃t:Vec,(fun i=>cv i*(stretchV vb m i - ev i))=t:=⟨_,rfl⟩;rw[ht] at ce;have HT:=Hi ht
  have x0:w4.cell? ⟨a,0,none⟩=some (.slice a1 B.length c1):=by
   have h:=a6.o.cell 0
   simpa using h
  have x1:w4.cell? ⟨a,1,none⟩=some (.slice a2 z.length c2):=by
   have h:=a6.o.cell 1
   simpa using h
  have x2:w4.cell? ⟨a,2,none⟩=some (.slice R d.length c3):=by
   have h:=a6.o.cell 2
   simpa using h
  clear fn ap bk bl a7 b8 dv ad bm cb cc dy dz ht;go_wp2_with fail;clear x0 x1 x2;go_fit ce.o;rintro e w5 ⟨_,rfl,a8,gt,ts,rfl,_,ea⟩;obtain⟨cf,ar⟩:=Ia ea (G.o.trans (a8.mono G.o.size));obtain⟨eb,bn,bo,a9⟩:=Ic (x.o.trans (ar.o.mono x.o.size)) (bj.o.below a8) (b9.o.below a8) (F.o.below ar.o F.o.lt);have cg:=Hi ((J.o.below eb.o).putBy 0 (Nat.zero_le _) (B':=0) (v:=.slice (some ⟨gt,0,none⟩) z.length z.length) ⟨gt,ts,rfl,Nat.zero_le _,cf.o⟩ cd.o.2.2.1 ae.o.1);obtain⟨p,hp⟩:∃p:Vec,Giv.putF z.length (balM vb z.length vh) t=p:=⟨_,rfl⟩;rw[hp] at cg;have HP:=Hi hp;have x0:w5.cell? ⟨a,0,none⟩=some (.slice a1 B.length c1):=by
   have h:=a9.o.cell 0
   simpa using h
  have x1:w5.cell? ⟨a,1,none⟩=some (.slice a2 z.length c2):=by
   have h:=a9.o.cell 1
   simpa using h
  have x2:w5.cell? ⟨a,2,none⟩=some (.slice R d.length c3):=by
   have h:=a9.o.cell 2
   simpa using h
  clear ea a8 hp bj b9 a6 ds G ce;go_wp2_with fail;clear x0 x1 x2;go_fit cg.o;rintro e w6 ⟨_,rfl,au,gp,ps,rfl,_,ec⟩;obtain⟨ed,ee,av⟩:=Ib ec (cf.o.below au) (ar.o.trans (au.mono ar.o.size));obtain⟨af,bp,ef,ch⟩:=Ic (x.o.trans (av.o.mono x.o.size)) (bn.o.below au) (bo.o.below au) (F.o.below av.o F.o.lt);clear ec au bn bo a9 eb ar cg cf;have ci:=Qa3 d.length (by omega) w6;obtain⟨MC,cj⟩:=nm (((List.replicate d.length FE.zero).flatMap FE.cells).toArray);rw[cj] at ci;obtain⟨V6,ba⟩:=nm (w6.alloc (.cells MC 107));have ck:Bl w6 V6:=by rw[<-ba];exact(Below.refl _ _).alloc lZ _
  have eg:O (RB V6 w6.heap.size d.length KH (fun _=>0) (List.replicate d.length FE.zero)):=Hi (by rw[<-ba];exact RB.new w6 d.length KH MC cj.symm ae.o.2.2.1);obtain⟨fq,fs⟩:=Ia ck (ch.o.below ck ch.o.lt);have k2:w6.cell? ⟨a,2,none⟩=some (.slice R d.length c3):=by
   have h:=ch.o.cell 2
   simpa using h
  have k3:V6.cell? ⟨a,2,none⟩=some (.slice R d.length c3):=by
   have h:=fs.o.cell 2
   simpa using h
  obtain⟨gh,cm⟩:=nm w6.heap.size;have ft:=Hi cm;rw[cm] at eg ci;rw[ba] at ci;clear ck ba cj cm;go_wp2_with fail;clear k2 k3;go_loopw [60] (fun iv wr=>∃(k:Nat) (us:List FE),k<=d.length/\iv=.int .i64 k/\RB wr gh d.length KH (firstV (holdV vh (agn vs) p) k) us/\Below w6.heap.size w6 wr) (fun iv _=>d.length - (intOf iv).toNat)
  case atStart=>
   refine⟨0,List.replicate d.length FE.zero,by omega,rfl,?_,fq.o⟩;have e:firstV (holdV vh (agn vs) p) 0=fun _=>0:=funext fun i=>by unfold firstV;rw[if_neg (by omega)]
   rw[e];exact eg.o
  case round=>
   obtain⟨k,us,hk,rfl,ap,eh⟩:=hrel;obtain⟨ei,HB⟩:=Ia ap eh;clear ap eh;by_cases cn:k<d.length
   .
    obtain⟨h,hh⟩:∃h,d[k]?=some h:=⟨d[k],gE cn⟩;obtain⟨r,hr⟩:∃r,vh[k]?=some r:=⟨vh[k]'(by have:=J.o.fv.lh;omega),gE (by have:=J.o.fv.lh;omega)⟩;obtain⟨j,hj,gu,cp⟩:=(J.o.fv.vh k h r hh hr).ex;have cq:=Hi (af.o.trans (HB.o.mono af.o.size));obtain⟨ao,gv,rfl,gw,d0,d1,d2⟩:=(J.o.fr.h.below cq.o).hold hh;rw[hj] at d0;obtain⟨X,hX⟩:=nm (wr.alloc (.cells #[.int .i64 j,.int .i64 h.w,.string h.q] 86));have ej:Bl wr X:=by rw[<-hX];exact(Below.refl _ _).alloc lZ _
    have ek:=Uc hX;obtain⟨i0,i1,i2,-⟩:=zc ek.o;rw[<-hX] at i0 i1 i2;have em:r<N:=by have:=J.o.n;rw[cp];split<;>omega
    have fu:O ((if h.w=1 then 2*(j:Int) else 2*(j:Int)+1)=(r:Int)):=Hi (by rw[cp];split<;>simp);obtain⟨HR,en,eo,L⟩:=Ic hr (Qe2 j h.w h.q X (by omega)) hX ej;have q1:((k:Int)<(d.length:Int)):=by omega
    have q2:((r:Int)<(N:Int)):=by omega
    clear hh hr hj cp hX ej;go_wp2_with fail;rw[eo.o];clear i0 i1 i2 d0 d1 d2;go_fit en.o;rintro e w8 ⟨rfl,cr⟩;rw[fu.o];obtain⟨Y8,cs⟩:=nm w8.drew;have ep:Bl w8 Y8:=by rw[<-cs];exact(Below.refl _ _).drew
    have ct:=(L.o.trans (cr.mono L.o.size)).trans (ep.mono (L.o.trans (cr.mono L.o.size)).size);have bb:=HB.o.trans (ct.mono HB.o.size);obtain⟨ta,eq⟩:=bp.o.get em;obtain⟨tp,er⟩:=ed.o.get em;obtain⟨es,et,eu,ew,fw,ey,ez⟩:=If eq er (bp.o.below bb) (ed.o.below bb) (ei.o.below ct) bb cs;clear cr ep ct bb eq er cs en eo L ek;go_wp2_with fail;refine RegG.bg 12 (fun j=>some (67+j)) ?_;rw[ez.o];refine RegG.p0 [] ?_;refine RegG.p0 [] ?_;refine RegG.p0 [] ?_;refine RegG.p0 [] ?_;refine RegG.p0 [2,3] ?_;refine RegG.pu (c:=?_) [4] (fun w hb=>?_) ?_;rotate_left
    .
     intro K hK;obtain⟨e0,e1,e2⟩:=(eu.o.below hb).cells es.o;go_simp;exact hK
    refine RegG.p0 [] ?_;refine RegG.p0 [] ?_;refine RegG.p0 [6,7] ?_;refine RegG.pu (c:=?_) [8] (fun w hb=>?_) ?_;rotate_left
    .
     intro K hK;obtain⟨e0,e1,e2⟩:=(ew.o.below hb).cells et.o;go_simp;exact hK
    refine RegG.ca (φ:=FF (agn vs r - p r) (KA+KQ+1)) [5,9] (FF.stays _ _) (fun w hb=>?_) ?_
    .
     intro K hK;go_simp;exact Makes.use (FF.minus ((eu.o.below hb).fe es.o) ((ew.o.below hb).fe et.o) ae.o.2.1) hK
    refine RegG.p0 [0,1] ?_;refine RegG.last (by simp only[List.nil_append,List.cons_append,List.length_append,List.length_cons,List.length_nil,Nat.reduceAdd]) (by rfl) (by rfl) (by kernel_rfl) (fun x4 hb=>?_);simp only[FinG,List.nil_append,List.cons_append,Qad,Act.put,List.setIfInBounds_toArray,List.set_cons_zero,List.set_cons_succ,Nat.reduceAdd,Nat.reduceBEq,cond_true,cond_false];intro gx aw K hK;rw[<-cd.o.2.2.2] at aw;obtain⟨x',y',z',rfl⟩:=aw.parts;obtain⟨o1,o2,o3⟩:=aw.1.one;have fx:=Qaa prog o1;have fy:=Qaa prog o2;have fz:=Qaa prog o3;have ag:=fw.o.below hb;obtain⟨y0,y1,y2,d0,d1,d2,_⟩:=ag.at cn;have f0:=ag.blk.blk.free (k*3);have f1:=ag.blk.blk.free (k*3+1);have f2:=ag.blk.blk.free (k*3+2);have gb:=Hi (ag.set cn aw (firstV (holdV vh (agn vs) p) (k+1)) (fun l=>by
     unfold firstV;by_cases e:l=k
     .
      subst e;rw[if_pos (by omega),if_pos rfl];unfold holdV;rw[show vh.getD l 0=r by rw[List.getD_eq_getElem?_getD,HR.o];rfl]
     .
      rw[if_neg e];by_cases e2:l<k
      . rw[if_pos (by omega),if_pos e2]
      . rw[if_neg (by omega),if_neg e2]))
    have gc:=Hi (Only.fresh (ey.o.trans (hb.mono ey.o.size)) ((((Only.refl gh x4).setCell (k*3) x').setCell (k*3+1) y').setCell (k*3+2) z') (Nat.le_of_eq ft.o));clear o1 o2 o3 ag aw hb;go_simp;refine hK _ _ ?_;clear hK d0 d1 d2 f0 f1 f2 fx fy fz;go_wp2;go_roundw
    case rel=>exact⟨k+1,_,by omega,by go_num,gb.o,gc.o⟩
    case measure=>simp[intOf];omega
   .
    obtain rfl:k=d.length:=by omega
    obtain⟨cq,C⟩:=Ia (af.o.trans (HB.o.mono af.o.size)) (ee.o.below HB.o);have cu:=Qe3 (some ⟨gt,0,none⟩) z.length KP ts wr (J.o.gl.below cq.o) (by have:=C.o.blk.row;rw[C.o.len] at this;exact this) (fun u hu=>by obtain⟨i,hi⟩:=List.getElem?_of_mem hu;exact(C.o.val i u hi).2) (by have:=ae.o;omega) (by rw[C.o.len];omega);rw[C.o.len] at cu;have ax:=Hi cu;clear cu;go_wp2_with fail;go_fit ax.o;rintro e w9 ⟨⟨g2,tb,rfl,⟨e3,gd⟩,e4,e5⟩,cw⟩;have ge:O (TextsOf z.length t tb):=Hi ⟨e3,fun i s hi=>by
     have e6:=(gZ hi).1;obtain⟨u,hu⟩:=C.o.get (k:=i) (by omega);have:=e5 i u s hu hi;rw[(C.o.val i u hu).1] at this
     exact this⟩
    obtain⟨T,cx⟩:=Ia e4 (HB.o.trans (cw.mono HB.o.size));obtain⟨gf,D⟩:=Ia (af.o.trans (cx.o.mono af.o.size)) (ei.o.below cw);have cy:=Qe3 (some ⟨gh,0,none⟩) d.length KH us w9 (J.o.gl.below gf.o) (by have:=D.o.blk.row;rw[D.o.len] at this;exact this) (fun u hu=>by obtain⟨i,hi⟩:=List.getElem?_of_mem hu;exact(D.o.val i u hi).2) (by have:=ae.o;omega) (by rw[D.o.len];omega);rw[D.o.len] at cy;have e7:=Hi cy;clear cy e3 gd e4 e5 cw ax;go_wp2_with fail;go_fit e7.o;rintro e bc ⟨⟨g3,th,rfl,⟨e8,gg⟩,e9,fa⟩,ay⟩;have gj:O (TextsOf d.length (holdV vh (agn vs) p) th):=Hi ⟨e8,fun i s hi=>by
     have e6:=(gZ hi).1;obtain⟨u,hu⟩:=D.o.get (k:=i) (by omega);have:=fa i u s hu hi;rw[(D.o.val i u hu).1] at this;unfold firstV at this;rw[if_pos (by omega)] at this
     exact this⟩
    have cz:=Hi e9;have az:=Hi (T.o.below ay T.o.lt);have a0:=Hi (cx.o.trans (ay.mono cx.o.size));obtain⟨Z,hZ⟩:=nm (bc.alloc (.cells #[.slice (some ⟨g2,0,none⟩) z.length z.length,.slice (some ⟨g3,0,none⟩) d.length d.length] 45));have bd:Bl bc Z:=by rw[<-hZ];exact(Below.refl _ _).alloc lZ _
    have be:=Uc hZ;obtain⟨bq,br⟩:=Ia (cz.o.below bd cz.o.lt) (az.o.below bd az.o.lt);have bf:=a0.o.trans (bd.mono a0.o.size);obtain⟨gr,c0⟩:=Ia bf (av.o.trans (bf.mono av.o.size));obtain⟨fb,fc,gk⟩:=Ib (x.o.trans (c0.o.mono x.o.size)) (ef.o.below bf) hZ;obtain⟨z0,z1,-⟩:=zc be.o
    have gn:O (∀u,Below Z.heap.size Z u->Calls prog 59 #[.slice (some ⟨gm,0,none⟩) N N] u (fun e w'=>(∃(g:Nat) (ss:List S2),e=.returned (.slice (some ⟨g,0,none⟩) B.length B.length)/\ss.length=B.length/\SB w' g 34 (ss.flatMap S2.cells).toArray/\SpotsTold m ss)/\Below u.heap.size u w')):=Hi (fun u hu=>by
     have hr:=(fc.o.below hu).mok;have hn:=J.o.n;have h1:=Qsf (some ⟨gm,0,none⟩) N B.length KM ⟨some ⟨gm,0,none⟩,N,um⟩ u (J.o.gl.below (fb.o.trans (hu.mono fb.o.size))) (by rw[hn];exact hr.1) rfl rfl (by have:=cd.o;have:=ae.o;omega) n1;rw[hn] at h1;refine h1.mono ?_;rintro e w' ⟨⟨g,ss,rfl,hl,d,ht⟩,hb⟩;refine⟨⟨g,ss,rfl,hl,d,fun i s hi=>?_⟩,hb⟩;have e6:=(gZ hi).1;have:=ht i s hi;rw[hr.2 (2*i) (by omega),hr.2 (2*i+1) (by omega)] at this
     exact this)
    clear e8 gg e9 fa ay hZ bd bf e7 T az cz C D;go_wp2_with fail;rw[gk.o];obtain⟨S0,gq⟩:=nm bc.heap.size;have fd:a+1+1<S0:=by
     have h1:=U.o.lt;have h2:=av.o.size;have h3:=a0.o.size;omega
    have ff:S0≠a+1:=by omega
    have fg:S0≠a+1+1:=by omega
    rw[gq] at z0 z1 be ⊢;clear fd;have ah:O (Bl Z Z):=Hi bR;go_region_held3 (fun v=>v.cell? ⟨S0,0,none⟩=some (.slice (some ⟨g2,0,none⟩) z.length z.length)/\v.cell? ⟨S0,1,none⟩=some (.slice (some ⟨g3,0,none⟩) d.length d.length)) ((first|(simp [*];done)|(simp only[Qit ff,Qit fg,z0,z1,and_self];done)|go_keep)) (first
     |(
      go_at_call 59;apply cM;apply gn.o;(first|exact ah.o|exact ah.o.drew);rintro e gy ⟨⟨g1,ss,rfl,fh,fi,fj⟩,bt⟩;obtain⟨Y,S,ax⟩:=Ib ((by first|exact ah.o|exact ah.o.drew:Bl Z _).trans (bt.mono (by first|exact ah.o.size|exact ah.o.drew.size))) fi (And.intro fh fj);clear bt z0 z1 fh fi fj;obtain⟨z0,z1,-⟩:=zc (be.o.below Y.o be.o.lt);have c4:=Hi (c0.o.trans (Y.o.mono c0.o.size));obtain⟨f,y⟩:=Ia (ab.o.below c4.o ab.o.lt) (U.o.below c4.o U.o.lt);obtain⟨y0,-⟩:=zc f.o
      obtain⟨-,y1,y4,-⟩:=zc f.o;obtain⟨y2,y3,-⟩:=zc y.o;have b3:=f.o.free 0;have b4:=f.o.free 1;have b5:=f.o.free 2;have b6:=y.o.free 0;have b7:=y.o.free 1;have aq:=Hi (x.o.trans ((c4.o).mono x.o.size))
      skip)
     |fail)
    clear z0 z1 y0 y1 y2 y3 y4 b3 b4 b6 b7 b5;go_wp2;have H:=Qc2 (x1:=.slice (some ⟨g1,0,none⟩) B.length B.length) (x2:=.slice (some ⟨g2,0,none⟩) z.length z.length) (x3:=.slice (some ⟨g3,0,none⟩) d.length d.length) (y1:=.int .i64 0) (y2:=.int .i64 0) (by omega:a+1≠a+1+1) f.o y.o;refine bodyPost_ret (Qbe rfl _ _ (a+1) (a+1+1) 47 41 #[.slice (some ⟨g1,0,none⟩) B.length B.length,.slice (some ⟨g2,0,none⟩) z.length z.length,.slice (some ⟨g3,0,none⟩) d.length d.length] #[.int .i64 0,.int .i64 0] (0,0) (0,0) _ _ rfl H.1 rfl H.2.1 underlying47 rfl Qc3 underlying41 rfl Tryz.faultInfo) rfl ?_
    have I:=((((aq.o.setCell (p:=⟨a+1,0,none⟩) A (.slice (some ⟨g1,0,none⟩) B.length B.length)).setCell (p:=⟨a+1,1,none⟩) A (.slice (some ⟨g2,0,none⟩) z.length z.length)).setCell (p:=⟨a+1,2,none⟩) A (.slice (some ⟨g3,0,none⟩) d.length d.length)).setCell (p:=⟨a+1+1,0,none⟩) (Nat.le_succ_of_le A) (.int .i64 0)).setCell (p:=⟨a+1+1,1,none⟩) (Nat.le_succ_of_le A) (.int .i64 0);have s2:=br.o.below Y.o br.o.lt;have s3:=bq.o.below Y.o bq.o.lt
    refine⟨.inr (.inr ⟨g1,g2,g3,ss,tb,th,m,t,rfl,ax.o.1,H.2.2 _ _ _ S.o (S.o.unlike f.o (by decide)) (S.o.unlike y.o (by decide)),ax.o.2,H.2.2 _ _ _ s2 (s2.unlike f.o (by decide)) (s2.unlike y.o (by decide)),ge.o,H.2.2 _ _ _ s3 (s3.unlike f.o (by decide)) (s3.unlike y.o (by decide)),by rw[HP.o];exact gj.o,HT.o.symm,by rw[J.o.n];exact dw.o,by rw[J.o.n];exact dx.o,by rw[J.o.n,fp.o];exact fo.o⟩),I⟩
theorem Qiv{n P e E:Nat}{M:List Vec}{s:List Rat}{x:Vec}(hP:0<P)(hl:M.length=n)(T:s.length=n)(U:∀(i:Nat) (r:Vec),M[i]?=some r->∀j,Wh P e (r j))(V:∀(i:Nat) (v:Rat),s[i]?=some v->Wh P e v)(W:Sol n M s x)(O:∀y,Sol n M s y->∀i,i<n->y i=x i)(X:(2*((n+1)*2 ^ e)) ^ n<=2 ^ E):∃Y,0<Y/\Y<=2 ^ E/\∀i,i<n->Wh Y E (x i):=by
 have F:(P:Rat)≠0:=fun h=>by
  have f:P=0:=Rat.natCast_inj.1 (by rw[h];rfl);omega
 obtain⟨B,hB⟩:∃B:Nat->Nat->Rat,B=fun i j=>if j<n then (M.getD i (fun _=>0)) j else -(s.getD i 0):=⟨_,rfl⟩
 have l:∀i j,i<n->B i j*(P:Rat)=(((B i j*(P:Rat)).num:Int):Rat)/\((B i j*(P:Rat)).num).natAbs<=2 ^ e:=fun i j q=>by
  have Z:Wh P e (B i j):=by
   rw[hB]
   show Wh P e (if j<n then _ else _)
   split
   .
    refine U i _ ?_ j;rw[List.getD_eq_getElem?_getD,gE (by omega)];rfl
   .
    refine(V i _ ?_).neg;rw[List.getD_eq_getElem?_getD,gE (by omega)];rfl
  obtain⟨z,e1,hz⟩:=Z;rw[e1,Rat.num_intCast];exact⟨rfl,hz⟩
 obtain⟨y,⟨G,aa,u⟩,hy,H⟩:=Sg.siegel n (2 ^ e) (Nat.pow_pos (by decide)) (fun i j=>(B i j*(P:Rat)).num) (fun i j q k=>by
  have:=(l i j q).2
  omega)
 have w:∀i,i<n->dot n (B i) (fun j=>(y j:Rat))=s.getD i 0*(y n:Rat):=fun i q=>by
  have f:=hy i q;have g:=Qek (n+1) (fun j=>(B i j*(P:Rat)).num) y;rw[f] at g;have I:dot (n+1) (fun j=>(y j:Rat)) (fun j=>(((B i j*(P:Rat)).num:Int):Rat))=dot (n+1) (fun j=>(y j:Rat)) (fun j=>(P:Rat)*B i j):=Qac _ _ _ _ _ (fun j _=>by rw[<-(l i j q).1,Rat.mul_comm (B i j)]);rw[I,Giv.d_mul] at g;have R:dot (n+1) (fun j=>(y j:Rat)) (fun j=>B i j)=0:=by
   rcases Rat.mul_eq_zero.1 g.symm with A|A
   . exact absurd A F
   . exact A
  rw[Giv.dc] at R;have A:dot n (B i) (fun j=>(y j:Rat))+B i n*(y n:Rat)=0:=R;have h6:B i n= -(s.getD i 0):=by rw[hB];exact if_neg (Nat.lt_irrefl n)
  rw[h6] at A;grind
 have o:∀(i:Nat) (r:Vec) (v:Rat),M[i]?=some r->s[i]?=some v->dot n r (fun j=>(y j:Rat))=v*(y n:Rat):=fun i r v t d=>by
  have q:i<n:=by have:=(gZ t).1;omega
  have f:=w i q;rw[show s.getD i 0=v by rw[List.getD_eq_getElem?_getD,d];rfl] at f;rw[<-f];refine Qac _ _ _ _ _ (fun j k=>?_);rw[hB]
  show r j*_=(if j<n then _ else _)*_
  rw[if_pos k,show M.getD i (fun _=>0)=r by rw[List.getD_eq_getElem?_getD,t];rfl]
 have J:y n≠0:=fun S=>by
  have K:Sol n M s (fun j=>x j+(y j:Rat)):=fun i r v t d=>by
   rw[Giv.d_add,W i r v t d,o i r v t d,S]
   show v+v*((0:Int):Rat)=v
   rw[Rat.intCast_zero];grind
  have f:∀j,j<n->y j=0:=fun j k=>by
   have g:=O _ K j k;have I:(y j:Rat)=0:=by
    have ab:=g;grind
   exact Rat.intCast_inj.1 (by rw[I];rfl)
  rcases Nat.lt_or_ge G n with g|g
  . exact u (f G g)
  . obtain rfl:G=n:=by omega
    exact u S
 have p:(y n:Rat)≠0:=fun h=>J (Rat.intCast_inj.1 (by rw[h];rfl))
 have C:Sol n M s (fun j=>(y n:Rat)⁻¹*(y j:Rat)):=fun i r v t d=>by
  rw[Giv.d_mul,o i r v t d];have:=Rat.inv_mul_cancel _ p;grind
 have D:∀j,j<n->x j*(y n:Rat)=(y j:Rat):=fun j k=>by
  have f:=O _ C j k;rw[<-f];have:=Rat.inv_mul_cancel _ p;grind
 have L:=fun j=>Nat.le_trans (H j) X
 refine⟨(y n).natAbs,by omega,L n,fun j k=>?_⟩;rcases Int.natAbs_eq (y n) with f|f
 . refine⟨y j,?_,L j⟩
   rw[<-D j k,<-Rat.intCast_natCast,<-f]
 .
  refine⟨-(y j),?_,by rw[Int.natAbs_neg];exact L j⟩;rw[Rat.intCast_neg,<-D j k,<-Rat.intCast_natCast];have g:(((y n).natAbs:Int):Int)= -(y n):=by omega
  rw[g,Rat.intCast_neg];grind
section
variable {P b Q c N e:Nat} {js:List S2} {bs:List B6} {hs:List H3} {vb:List (Nat × Nat × Rat × Rat)} {vh:Vy} {cv ev bv a m:Vec}
theorem GivP.over(g:GivP P b Q c vb bs.length hs.length cv ev bv a)(o:FrV 1048576 js bs hs vb vh)(D:2*js.length=N)(L:2*b+2*c+12<=e)(f:Giv.Settles N bs.length (balM vb bs.length vh) cv ev (freeW vh) (hldM vh bv hs.length) a m)(q:∀I,Giv.Settles N bs.length (balM vb bs.length vh) cv ev (freeW vh) (hldM vh bv hs.length) a I->∀r,r<N->I r=m r):∃Y,0<Y/\Y<=2 ^ (20*e+120+c)/\∀r,r<N->Wh Y (20*e+120+c) (m r):=by
 obtain⟨at_,d⟩:∃l,l=Giv.frs (freeW vh) N:=⟨_,rfl⟩;obtain⟨p,F⟩:∃p,p=Giv.putF bs.length (balM vb bs.length vh) (fun i=>cv i*(stretchV vb (hldM vh bv hs.length) i - ev i)):=⟨_,rfl⟩;have M:=o.b;have U:=o.j;have s:at_.length<=20:=by rw[d];exact Nat.le_trans (Giv.frs_len _ _) (by omega)
 have t:at_.Nodup:=by rw[d];exact List.Nodup.sublist List.filter_sublist List.nodup_range
 have G:∀i,i<at_.length->at_.getD i 0<N:=fun i h=>by
  have:at_.getD i 0∈ at_:=by rw[List.getD_eq_getElem?_getD,gE h];exact List.getElem_mem _
  rw[d] at this;rw[d];exact(Giv.frs_mem.1 this).1
 have u:∀r,freeW vh r=false->¬r∈ at_:=fun r n J=>by
  rw[d] at J;have:=(Giv.frs_mem.1 J).2;rw[n] at this;cases this
 have w:=(Qcj o D d F f.1).2 f;have x:∀y,Sol at_.length (setRows at_ at_.length (Giv.stf bs.length (balM vb bs.length vh) cv)) (setSums at_ at_.length p a) y->∀i,i<at_.length->y i=m (at_.getD i 0):=fun y O i h=>by
  have z:=(Qcj (m:=motTo at_ y (hldM vh bv hs.length) at_.length) o D d F (fun r _ n=>Qd7 (u r n) _ lZ)).1 (O.congr (fun i h=>(Qbm t _ lZ h).symm));rw[<-q _ z _ (G i h),Qbm t _ lZ h]
 have A:=Nat.mul_pos g.fr.pos (Nat.mul_pos g.pos (Nat.mul_pos g.fr.pos g.pos));have R:(2*((at_.length+1)*2 ^ e)) ^ at_.length<=2 ^ (20*e+120):=by
  have V:(2:Nat) ^ 6=64:=by decide
  have z:(at_.length+1)*2 ^ e<=21*2 ^ e:=Nat.mul_le_mul_right _ (by omega);have S:2*((at_.length+1)*2 ^ e)<=2 ^ (6+e):=by rw[Nat.pow_add];omega
  have K:=Nat.pow_le_pow_left S at_.length;rw[<-Nat.pow_mul] at K;refine Nat.le_trans K (Nat.pow_le_pow_right (by decide) ?_);have:=Nat.mul_le_mul_left (6+e) s;omega
 obtain⟨Y,y1,y2,y3⟩:=Qiv (e:=e) (E:=20*e+120) A (by simp[setRows]) (by simp[setSums]) (fun i r C j=>by
  obtain⟨k,_,rfl⟩:=List.mem_map.1 (mO C);unfold partV
  split
  . exact(g.stf M _ _).mono (by omega)
  . exact Wh.zero _ _) (fun i v H=>by
  obtain⟨k,_,rfl⟩:=List.mem_map.1 (mO H)
  exact(g.sum o D F at_ k).mono L) w x R
 refine⟨Y*Q,Nat.mul_pos y1 g.pos,by rw[Nat.pow_add];exact Nat.mul_le_mul y2 g.le,fun r C=>?_⟩;cases n:freeW vh r with
 |false=>
  rw[f.1 r C n];exact((g.hld hs.length lZ r).wide y2).to (Nat.mul_comm _ _) (by omega)
 |true=>
  have B:r∈ at_:=by rw[d];exact Giv.frs_mem.2 ⟨C,n⟩
  obtain⟨i,h,T⟩:=List.getElem_of_mem B;have z:=y3 i h;rw[show at_.getD i 0=r by rw[List.getD_eq_getElem?_getD,gE h,T];rfl] at z;exact z.wide g.le
theorem Qp9{Y K:Nat}(g:0<Q)(d:Q<=2 ^ c)(h:0<Y)(f:Y<=2 ^ K)(j:N<=32)(k:∀i,Wh Q c (a i))(l:∀r,r<N->Wh Y K (m r)):Fits (dot N a m) (c+K+6):=
 (Qck j (fun i n=>(k i).mul (l i n))).fits (Nat.mul_pos g h) (by
   rw[Nat.pow_add,Nat.pow_add]
   exact Nat.le_trans (Nat.mul_le_mul d f) (Nat.le_mul_of_pos_right _ (by decide)))
end
theorem Qiw(a1 a2 a3 at_:Vx)(c1 c2 c3 ct N KT A:Nat)(js:List S2)(q:List B6)(hs:List H3)(vb:List (Nat × Nat × Rat × Rat))(vh:Vy)(cv ev bv t:Vec)(tb:Vt)(w:Vz)(h:GivV w a1 a2 a3 c1 c2 c3 N js q hs vb vh cv ev bv)(hz:FrSized js q hs)(ba:FrameFault js q hs 0 0)(hr:CRow w at_ (textsV tb))(hl:tb.length=q.length)(hq:∀(i:Nat) (s:Vs),tb[i]?=some s->QOf s.data.toList (t i)/\s.size<=1073741824/\Fits (t i) KT)(hf:Rat)(bc:QOf [49,47,50] hf)(bd:0<KT)(be:A=KT+KT+4194305)(f:24*(A+1)+100<68719476000):
 Calls prog 19 #[.agg #[.slice a1 js.length c1,.slice a2 q.length c2,.slice a3 hs.length c3],.slice at_ q.length ct] w (fun e w'=>(∃s:Vs,e=.returned (.tuple #[.string s,.agg #[.int .i64 0,.int .i64 0]])/\QText s.data.toList (dot q.length t (fun i=>t i / cv i)*hf))/\Below w.heap.size w w'):=by
 obtain⟨HG,HZ,b2,HR,HL,HQ,HK⟩:=If h hz ba hr hl hq (And.intro bd (And.intro be f));have n2:=h.fv.b;have b3:=Hi bc;clear h hz ba hr hl hq bd be f bc;obtain⟨B0,aa⟩:=nm w.heap.size;obtain⟨V0,J⟩:=nm ((w.alloc (.cells #[.slice a1 js.length c1,.slice a2 q.length c2,.slice a3 hs.length c3] 26)).alloc (.cells #[.int .i64 0,.int .i64 0] 41));have D:=Ub J;have ak:=Ug J aa;have al:O (SB V0 (B0+1) 41 #[.int .i64 0,.int .i64 0]):=Hi (by rw[<-J,<-aa];exact Qai w _ _ _);obtain⟨ad,b4⟩:=Ia J aa
 have bf:=Hi (Qb9 a1 a2 a3 c1 c2 c3 js q hs V0 (HG.o.gl.below D.o) (HG.o.fr.below D.o) HZ.o b2.o);have bh:w.heap.size<=B0+1:=by omega
 clear J aa;go_enter func19,ntmps19;go_wp2_with fail;rw[ad.o,b4.o];clear ad;go_fit bf.o;rintro e w1 ⟨rfl,am⟩;obtain⟨L,B⟩:=nm (w1.alloc (.cells #[.int .i64 0,.int .i64 0] 41));have E:Bl V0 L:=by rw[<-B];exact am.alloc am.size _
 have k0:L.cell? ⟨w1.heap.size,0,none⟩=some (.int .i64 0):=by rw[<-B];exact(SB.new w1 _ _).cell 0
 obtain⟨an,bi⟩:=Ia (ak.o.below E ak.o.lt) (al.o.below E al.o.lt);have x1:L.cell? ⟨B0,1,none⟩=some (.slice a2 q.length c2):=by
  have h:=an.o.cell 1
  simpa using h
 have F:=Hi (D.o.trans (E.mono D.o.size));obtain⟨V,hV⟩:=nm (L.alloc (.cells #[.bool false,.slice none 0 0,.slice none 0 0] 107));have ap:Bl L V:=by rw[<-hV];exact(Below.refl _ _).alloc lZ _
 have x2:V.cell? ⟨B0,1,none⟩=some (.slice a2 q.length c2):=by
  have h:=(an.o.below ap an.o.lt).cell 1
  simpa using h
 have aj:O (FB 0 1 V L.heap.size):=Hi ⟨_,_,_,by rw[<-hV];exact SB.new L _ _,FF.zero _⟩;have bj:=Hi ap;rw[<-hV,<-B] at x2;rw[<-B] at x1 k0;obtain⟨ad,b5⟩:=Ia hV B;have bk:L.heap.size=w1.heap.size+1:=by rw[<-B];exact World.size_alloc _ _
 clear hV B ap E am bf ak al;go_wp2_with fail
 try rw[b5.o]
 try rw[ad.o]
 obtain⟨G,hG⟩:=nm (w1.heap.size+1);have bl:=Hi (bk.trans hG);rw[bl.o] at aj;simp only[hG];clear x1 x2 k0 hG bk;go_loopw [29] (fun iv wr=>∃k:Nat,k<=q.length/\iv=.int .i64 k/\FB (dot k t (fun i=>t i / cv i)) (k*(A+1)+1) wr G/\Below L.heap.size L wr) (fun iv _=>q.length - (intOf iv).toNat)
 case atStart=>exact⟨0,by omega,rfl,by simpa [dot] using aj.o,bj.o⟩
 case round=>
  obtain⟨k,hk,rfl,bm,d⟩:=hrel;obtain⟨HB,aq,ae⟩:=Ib d bm (F.o.trans (d.mono F.o.size));clear d bm;by_cases b6:k<q.length
  .
   obtain⟨b,ar⟩:∃b,q[k]?=some b:=⟨q[k],gE b6⟩;obtain⟨s,au⟩:∃s,tb[k]?=some s:=⟨tb[k]'(by have:=HL.o;omega),gE _⟩;obtain⟨bb,bo,rfl,ch,e0,e1,e2,e3,e4,e5⟩:=(HG.o.fr.b.below ae.o).bar ar;obtain⟨ab,ao,rfl,b7,t0⟩:=(HR.o.below ae.o).cell k (.string s) (by unfold textsV;rw[List.getElem?_map,au];rfl);obtain⟨bn,av⟩:=Ia (HG.o.ce k b ar) (HQ.o k s au);obtain⟨X,hX⟩:=nm (wr.alloc (.cells #[.int .i64 b.a,.int .i64 b.b,.string b.c,.string b.e,.string b.l,.string b.m] 84));have af:Bl wr X:=by rw[<-hX];exact(Below.refl _ _).alloc lZ _
   have v:=Uc hX;have t1:=ce af b7 t0;rw[<-hX] at t1;obtain⟨M,bp⟩:=Ia af hX;have q1:((k:Int)<(q.length:Int)):=by omega
   have bq:=Hi (FF.ofFits (w:=X) (HG.o.gl.below (ae.o.trans (af.mono ae.o.size))) av.o.1 av.o.2.1 av.o.2.2 HK.o.1);clear hX af ar au;go_wp2_with fail;rw[bp.o];clear e0 e1 e2 e3 e4 e5 t0 t1;refine Makes.use bq.o ?_;intro v4 w4 d hv;obtain⟨x',y',z',rfl⟩:=hv.parts;obtain⟨o1,o2,o3⟩:=hv.1.one;have aw:=Qaa prog o1;have ax:=Qaa prog o2;have ay:=Qaa prog o3;obtain⟨U,hU⟩:=nm (w4.alloc (.cells #[x',y',z'] 107));have ag:Bl w4 U:=by rw[<-hU];exact(Below.refl _ _).alloc lZ _
   have az:=Uc hU;have b8:=Hi (hv.below ag);have br:=(M.o.trans (d.mono M.o.size)).trans (ag.mono (M.o.trans (d.mono M.o.size)).size);obtain⟨P,H,b9⟩:=Ib ((v.o.below d v.o.lt).below ag (v.o.below d v.o.lt).lt) br hU;clear d hv o1 o2 o3 ag br hU v M bp bq;go_wp2_with fail
   try rw[b9.o]
   obtain⟨X0,a0⟩:=nm wr.heap.size;obtain⟨T0,a4⟩:=nm w4.heap.size;rw[a0] at P;rw[a4] at az
   try rw[a0]
   try rw[a4]
   clear aw ax ay;have r:Bl U U.drew:=bR.drew;obtain⟨x,y,z,u,Q⟩:=aq.o.below (H.o.trans (r.mono H.o.size));obtain⟨a5,R,S,T,W⟩:=Id Q u (u.cell 0) (u.cell 1) (u.cell 2);simp only[List.getElem?_toArray,List.getElem?_cons_zero,List.getElem?_cons_succ] at S T W;have Y:=Hi (az.o.below r az.o.lt);obtain⟨a6,a7,a8⟩:=Ib (Y.o.cell 0) (Y.o.cell 1) (Y.o.cell 2);simp only[List.getElem?_toArray,List.getElem?_cons_zero,List.getElem?_cons_succ] at a6 a7 a8;have bt:=Hi (P.o.below r P.o.lt);have bu:=Hi (bt.o.cell 2);simp only[List.getElem?_toArray,List.getElem?_cons_zero,List.getElem?_cons_succ] at bu;obtain⟨bw,I⟩:=Ia (b8.o.below r) (HB.o.trans ((H.o.trans (r.mono H.o.size)).mono HB.o.size))
   obtain⟨g,bx⟩:=Ia (F.o.trans (I.o.mono F.o.size)) (aq.o.below (H.o.trans (r.mono H.o.size)));have Z:k*(A+1)+1+A<68719476000:=by
    have:=HK.o;have h2:(k+1)*(A+1)<=24*(A+1):=Nat.mul_le_mul_right _ (by omega);rw[Nat.succ_mul] at h2;omega
   have ah:=Hi Z;have bz:O (KT+KT<68719476000/\KT+KT+4194305<68719476000):=Hi (by have:=HK.o;omega);have cb:O (k*(A+1)+1+(KT+KT+4194305)<68719476000):=Hi (by have h1:=ah.o;have h2:=HK.o.2.1;omega);clear u Q r Z a0 a4;refine RegG.bg 9 (fun j=>some (39+j)) ?_;refine RegG.pu (c:=?_) [] (fun w d=>?_) ?_;rotate_left
   .
    intro K f;obtain⟨d0,d1,d2⟩:=Jb d R.o.lt S.o T.o W.o;go_simp;exact f
   refine RegG.pu (c:=?_) [] (fun w d=>?_) ?_;rotate_left
   .
    intro K f;obtain⟨d0,d1,d2⟩:=Jb d Y.o.lt a6.o a7.o a8.o;go_simp;exact f
   refine RegG.pu (c:=?_) [] (fun w d=>?_) ?_;rotate_left
   .
    intro K f;obtain⟨d0,d1,d2⟩:=Jb d Y.o.lt a6.o a7.o a8.o;go_simp;exact f
   refine RegG.ca (φ:=FF (t k*t k) (KT+KT)) [1,2] (FF.stays _ _) (fun w d=>?_) ?_
   .
    intro K f;go_simp;exact Makes.use ((bw.o.below d).times (bw.o.below d) bz.o.1) f
   refine RegG.p0 [] ?_;refine RegG.pu (c:=?_) [4] (fun w d=>?_) ?_;rotate_left
   .
    intro K f;have d2:=ce d bt.o.lt bu.o;go_simp;exact f
   refine RegG.ca (φ:=FF (cv k) 4194305) [5] (FF.stays _ _) (fun w d=>?_) ?_
   .
    intro K f;go_simp;exact Makes.use (FF.of (HG.o.gl.below (g.o.trans (d.mono g.o.size))) bn.o.1 bn.o.2.2.1 (by decide) (by decide)) f
   refine RegG.ca (φ:=FF (t k*t k / cv k) (KT+KT+4194305)) [3,6] (FF.stays _ _) (fun w d=>?_) ?_
   .
    intro v3 h3 v6 h6;intro K f;go_simp;exact Makes.use (h3.over h6 bz.o.2) f
   refine RegG.ca (φ:=FF (dot k t (fun i=>t i / cv i)+t k*t k / cv k) (k*(A+1)+1+(KT+KT+4194305)+1)) [0,7] (FF.stays _ _) (fun w d=>?_) ?_
   .
    intro v7 h7;intro K f;go_simp;exact Makes.use ((a5.o.below d).plus h7 cb.o) f
   refine RegG.last (by simp only[List.nil_append,List.cons_append,List.length_append,List.length_cons,List.length_nil,Nat.reduceAdd]) (by rfl) (by rfl) (by kernel_rfl) (fun x2 d=>?_);simp only[FinG,List.nil_append,List.cons_append,Qad,Act.put,List.setIfInBounds_toArray,List.set_cons_zero,List.set_cons_succ,Nat.reduceAdd,Nat.reduceBEq,cond_true,cond_false];intro v3 _ v6 _ v7 _ v8 h8 K f;obtain⟨x',y',z',rfl⟩:=h8.parts;obtain⟨o1,o2,o3⟩:=h8.1.one;have aw:=Qaa prog o1;have ax:=Qaa prog o2;have ay:=Qaa prog o3;have C:=R.o.below d R.o.lt;have f0:=C.free 0;have f1:=C.free 1;have f2:=C.free 2;have c0:=C.cell 0;have c1:=C.cell 1;have c2:=C.cell 2;simp only[List.getElem?_toArray,List.getElem?_cons_zero,List.getElem?_cons_succ] at c0 c1 c2;obtain⟨b0,a9⟩:=Ia ((bx.o.below d).set h8) (I.o.trans (d.mono I.o.size));clear o1 o2 o3 C h8 d
   go_simp;refine f _ _ ?_;clear f c0 c1 c2 f0 f1 f2 aw ax ay;go_wp2;go_roundw
   case rel=>
    have ho:=((((Only.refl G x2).setCell 0 x').setCell 1 y').setCell 2 z');refine⟨k+1,by omega,by go_num,?_,Only.fresh a9.o ho (Nat.le_of_eq bl.o)⟩;have e1:dot (k+1) t (fun i=>t i / cv i)=dot k t (fun i=>t i / cv i)+t k*t k / cv k:=by
     show dot k t (fun i=>t i / cv i)+t k*(t k / cv k)=_
     rw[Rat.div_def,Rat.div_def,Rat.mul_assoc]
    rw[e1,show (k+1)*(A+1)+1=k*(A+1)+1+(KT+KT+4194305)+1 by rw[Nat.succ_mul,HK.o.2.1];omega];exact b0.o
   case measure=>simp[intOf];omega
  .
   obtain rfl:k=q.length:=by omega
   have r:Bl wr wr.drew:=bR.drew;obtain⟨x,y,z,u,Q⟩:=aq.o.below r;obtain⟨a5,R,S,T,W⟩:=Id Q u (u.cell 0) (u.cell 1) (u.cell 2);simp only[List.getElem?_toArray,List.getElem?_cons_zero,List.getElem?_cons_succ] at S T W;have I:=Hi (HB.o.trans (r.mono HB.o.size));obtain⟨g,b1⟩:=Ia (F.o.trans (I.o.mono F.o.size)) (bi.o.below I.o bi.o.lt);have Z:q.length*(A+1)+1+13<68719476000:=by
    have:=HK.o;have h2:q.length*(A+1)<=24*(A+1):=Nat.mul_le_mul_right _ n2;omega
   have ah:=Hi Z;have cc:O (q.length*(A+1)+1+13<=274877906944):=Hi (by have:=ah.o;omega);clear u Q r Z;go_wp2_with fail;refine RegG.bg 6 (fun j=>some (bif j == 5 then 4 else 49+j)) ?_;refine RegG.pu (c:=?_) [] (fun w d=>?_) ?_;rotate_left
   .
    intro K f;obtain⟨d0,d1,d2⟩:=Jb d R.o.lt S.o T.o W.o;go_simp;exact f
   refine RegG.ca (φ:=FF hf 13) [] (FF.stays _ _) (fun w d=>?_) ?_
   .
    intro K f;go_simp;exact Makes.use (FF.of (HG.o.gl.below (g.o.trans (d.mono g.o.size))) b3.o (n:=3) (by decide) (by decide) (by decide)) f
   refine RegG.ca (φ:=FF (dot q.length t (fun i=>t i / cv i)*hf) (q.length*(A+1)+1+13)) [0,1] (FF.stays _ _) (fun w d=>?_) ?_
   .
    intro v1 h1;intro K f;go_simp;exact Makes.use ((a5.o.below d).times h1 ah.o) f
   refine RegG.ca (φ:=TF (dot q.length t (fun i=>t i / cv i)*hf)) [2] (TF.stays _) (fun w d=>?_) ?_
   .
    intro v2 h2;intro K f;go_simp;exact Makes.use (FF.text (HG.o.gl.below (g.o.trans (d.mono g.o.size))) h2 cc.o) f
   refine RegG.p0 [] ?_;refine RegG.ca (φ:=TF (dot q.length t (fun i=>t i / cv i)*hf)) [3] (TF.stays _) (fun w d=>?_) ?_
   .
    intro v1 h1 K f;go_simp;exact f _ _ bR h1
   refine RegG.last (by simp only[List.nil_append,List.cons_append,List.length_append,List.length_cons,List.length_nil,Nat.reduceAdd]) (by rfl) (by rfl) (by kernel_rfl) (fun x2 d=>?_);simp only[FinG,List.nil_append,List.cons_append,Qad,Act.put,List.setIfInBounds_toArray,List.set_cons_zero,List.set_cons_succ,Nat.reduceAdd,Nat.reduceBEq,cond_true,cond_false];intro v1 _ v2 _ v3 _ v5 h5 K f;obtain⟨s,rfl,hs⟩:=h5;obtain⟨cd,ai,a9⟩:=Ib hs (b1.o.below d b1.o.lt) (g.o.trans (d.mono g.o.size));obtain⟨y2,y3,-⟩:=zc ai.o;have cf:=ai.o.free 0;have cg:=ai.o.free 1;clear d hs;go_simp;refine f _ _ ?_;clear f y2 y3 cf cg;go_wp2
   refine bodyPost_ret (Qdi rfl _ _ (B0+1) 41 #[.int .i64 0,.int .i64 0] (0,0) _ rfl ((ai.o.set 0 _).set 1 _) underlying41 rfl Tryz.faultInfo) rfl ?_;exact⟨⟨s,rfl,cd.o⟩,(a9.o.setCell (p:=⟨B0+1,0,none⟩) bh _).setCell (p:=⟨B0+1,1,none⟩) bh _⟩
theorem IsDec.lenG{d:Vu}{n K:Nat}(h:IsDec d n)(b:n<2 ^ K):d.length<=K / 3+1:=by
 have a:n<10 ^ (K / 3+1):=Nat.lt_of_lt_of_le b (Nat.le_trans (Nat.pow_le_pow_right (by decide) (show K<=3*(K / 3+1) by omega)) (by rw[Nat.pow_mul];exact Nat.pow_le_pow_left (by decide) _));rcases h with ⟨_,rfl⟩|⟨_,e,c,rfl⟩
 . simp
 . have:=c.length_le_of_lt (k:=K / 3+1) (by decide) a
   simpa using this
theorem QText.lenG{s:Vs}{q:Rat}{K:Nat}(h:QText s.data.toList q)(a:Fits q K):s.size<=2*(K / 3)+4:=by
 obtain⟨m,⟨k,hk,rfl⟩,h⟩:=h;have e:=hk.lenG a.1;have f:(if q.num<0 then 45 :: k else k).length<=k.length+1:=by split<;>simp
 have b:s.data.toList.length=s.size:=by simp
 rcases h with ⟨_,h⟩|⟨_,d,c,h⟩
 . rw[h] at b;omega
 .
  have g:=c.lenG a.2;rw[h,List.length_append,List.length_cons] at b;omega
theorem qtext_half:QText [49,47,50] (1 / 2):=by
 have b:(1 / 2:Rat).num=1:=by kernel_rfl
 have a:(1 / 2:Rat).den=2:=by kernel_rfl
 refine⟨[49],?_,.inr ⟨by rw[a];decide,[50],?_,rfl⟩⟩
 . rw[b]
   exact⟨[49],.inr ⟨by decide,[1],⟨by simp[Small],by simp[Trim],by simp[val]⟩,by decide⟩,by decide⟩
 . rw[a]
   exact .inr ⟨by decide,[2],⟨by simp[Small],by simp[Trim],by simp[val]⟩,by decide⟩
theorem Qqa:(prog.info? 84).map (fun i=>(i.zero,i.size,i.bytes))=some (some (.agg #[.int .i64 0,.int .i64 0,.string ⟨#[]⟩,.string ⟨#[]⟩,.string ⟨#[]⟩,.string ⟨#[]⟩]),6,80):=by kernel_rfl
theorem Qqb:(prog.info? 86).map (fun i=>(i.zero,i.size,i.bytes))=some (some (.agg #[.int .i64 0,.int .i64 0,.string ⟨#[]⟩]),3,32):=by kernel_rfl
def AnyV:Value->Prop:=fun _=>True
def LAt{α:Type}(c:α->List Value)(t:Vr)(w:Vz)(B:Nat)(a:Vx)(cap:Nat)(es:List α):Prop:=
 es.length<=cap/\((a=none/\es= [])∨∃(g:Nat) (C:Vw),a=some ⟨g,0,none⟩/\B<=g/\SB w g t C/\∀(j:Nat) (u:Value),(es.flatMap c)[j]?=some u->C[j]?=some u)
section
variable {α:Type} {c:α->List Value} {t:Vr} {w w':Vz} {B cap:Nat} {a:Vx} {es:List α}
theorem LAt.row(h:LAt c t w B a cap es):ARow c w a cap es:=by
 obtain⟨b,⟨rfl,rfl⟩|⟨g,C,rfl,_,d,e⟩⟩:=h
 . exact⟨b,⟨fun i u f=>by simp at f⟩⟩
 . exact⟨b,⟨fun j u k=>⟨g,0,rfl,d.lt,by rw[Nat.zero_add,d.cell];exact e j u k⟩⟩⟩
theorem LAt.below(h:LAt c t w B a cap es)(e:Bl w w'):LAt c t w' B a cap es:=by
 obtain⟨b,h|⟨g,C,rfl,f,d,i⟩⟩:=h
 . exact⟨b,.inl h⟩
 . exact⟨b,.inr ⟨g,C,rfl,f,d.below e d.lt,i⟩⟩
theorem LAt.only{k:Nat}{d:Vr}{D:Vw}(h:LAt c t w B a cap es)(i:Only k w w')(j:SB w k d D)(b:t≠d):LAt c t w' B a cap es:=by
 obtain⟨e,h|⟨g,C,rfl,l,f,m⟩⟩:=h
 . exact⟨e,.inl h⟩
 . exact⟨e,.inr ⟨g,C,rfl,l,f.only i (f.unlike j b),m⟩⟩
theorem LAt.mono{B':Nat}(h:LAt c t w B a cap es)(hB:B'<=B):LAt c t w B' a cap es:=by
 obtain⟨b,h|⟨g,C,rfl,d,e,f⟩⟩:=h
 . exact⟨b,.inl h⟩
 . exact⟨b,.inr ⟨g,C,rfl,Nat.le_trans hB d,e,f⟩⟩
theorem LAt.of{sz n:Nat}{K:Value->Prop}{v:Value}(h:Grow w B t sz K v n (es.flatMap c))(f:es.length=n):∃a cap,v=.slice a n cap/\LAt c t w B a cap es:=by
 obtain⟨o,⟨rfl,rfl⟩|⟨g,cap,d,rfl,i,k,l,_,_,m⟩⟩:=h.own
 . exact⟨none,0,rfl,by omega,.inl ⟨rfl,List.length_eq_zero_iff.1 f⟩⟩
 .
  refine⟨_,cap,rfl,by omega,.inr ⟨g,d,rfl,i,k,fun j u b=>?_⟩⟩;rw[<-m] at b;have e:j<n*sz:=by
   have:=(gZ b).1;rw[List.length_take] at this;omega
  rw[List.getElem?_take_of_lt e] at b
  simpa using b
theorem Qix{sz:Nat}(f:∀e,(c e).length=sz):∀(es:List α) (i:Nat) (e b:α) (d:Nat) (v:Value),es[i]?=some e->d<sz->(c e).set d v=c b->(es.set i b).flatMap c=(es.flatMap c).set (i*sz+d) v
 | [],i,e,b,d,v,h,_,_=>by cases h
 |t :: l,0,e,b,d,v,h,hd,he=>by
  obtain rfl:=Option.some.inj h;simp only[List.set_cons_zero,List.flatMap_cons,Nat.zero_mul,Nat.zero_add];rw[<-he,List.set_append_left _ _ (by rw[f];exact hd)]
 |t :: l,i+1,e,b,d,v,h,hd,he=>by
  have g:=Qix f l i e b d v h hd he;simp only[List.set_cons_succ,List.flatMap_cons];rw[g,List.set_append_right _ _ (by rw[f,Nat.succ_mul];omega)]
  congr 2
  rw[f,Nat.succ_mul];omega
theorem LAt.set{sz i d:Nat}{e k:α}{v:Value}(l:∀e,(c e).length=sz)(h:LAt c t w B a cap es)(m:es[i]?=some e)(s:d<sz)(y:(c e).set d v=c k):∃g:Nat,a=some ⟨g,0,none⟩/\B<=g/\(∃C,SB w g t C)/\(∃u,w.cell? ⟨g,i*sz+d,none⟩=some u)/\LAt c t (w.setCell ⟨g,i*sz+d,none⟩ v) B a cap (es.set i k)/\Only g w (w.setCell ⟨g,i*sz+d,none⟩ v):=by
 obtain⟨z,⟨rfl,rfl⟩|⟨g,C,rfl,x,n,o⟩⟩:=h
 . cases m
 .
  refine⟨g,rfl,x,⟨C,n⟩,?_,⟨by simpa using z,.inr ⟨g,C.setIfInBounds (i*sz+d) v,rfl,x,n.set _ _,fun j u f=>?_⟩⟩,(Only.refl g w).setCell _ _⟩
  . obtain⟨u,A⟩:∃u,(c e)[d]?=some u:=⟨_,gE (by rw[l];exact s)⟩
    exact⟨u,by rw[n.cell];exact o _ u (Qa8 l es i e d u m A)⟩
  .
   rw[Qix l es i e k d v m s y,List.getElem?_set] at f;rw[Array.getElem?_setIfInBounds]
   split at f
   .
    rename_i b;subst b
    split at f
    .
     rename_i hl;obtain⟨p,q⟩:∃p,(es.flatMap c)[i*sz+d]?=some p:=⟨_,gE hl⟩;have r:=(Array.getElem?_eq_some_iff.1 (o _ p q)).1;rw[if_pos rfl,if_pos r];exact f
    . cases f
   .
    rename_i b;rw[if_neg b];exact o j u f
end
theorem Qiy{α:Type}{c:α->List Value}{sz:Nat}{w:Vz}{cap:Nat}{es:List α}(d:∀e,(c e).length=sz)(f:0<sz)(h:ARow c w none cap es):es= []:=by
 cases es with
 |nil=>rfl
 |cons r l=>
  obtain⟨b,g,e,_⟩:=h.at d f (i:=0) (e:=r) rfl;cases e
theorem Qqc(a:Vx)(cap:Nat)(es:List B6)(w:Vz)(h:ARow B6.cells w a cap es)(hl:es.length<=1048576):
 Calls prog 78 #[.slice a es.length cap] w fun e w'=>(∃v,e=.returned v/\Grow w' w.heap.size 84 6 AnyV v es.length (es.flatMap B6.cells))/\Below w.heap.size w w':=by
 obtain⟨F,p,f,g,hz2⟩:=info_parts Qqa;have G:∀(w:Vz) (a:Vx) (n c n' q:Nat),(binOp .eql 23 (.slice a n c) (.slice none n' q)).run prog w=.ok (.bool a.isNone) w:=fun w a n c n' q=>Lib.run_eql_slice_nil w _ _ a n c n' q underlying23
 have H:=Hi h;clear h;cases a with
 |none=>
  obtain rfl:=Qiy (sz:=6) (fun _=>rfl) (by decide) H.o;clear p f g hz2;go_enter func78,ntmps78;go_wp2;go_ret;exact⟨⟨_,rfl,Grow.nil _ _ _ _ _⟩,Below.refl _ _⟩
 |some ad=>
  obtain⟨W,hW⟩:=nm (w.alloc (.cells #[] 84));have d:Bl w W:=by rw[<-hW];exact(Below.refl _ _).alloc lZ _
  have i:Grow W w.heap.size 84 6 AnyV (.slice (some ⟨w.heap.size,0,none⟩) 0 0) 0 []:=by rw[<-hW];exact Grow.made w _ _ _
  obtain⟨I,w',r,l,m,s⟩:=i.app (P:=prog) (ty:=23) underlying23 p f g hz2 rfl (by decide) (fun _ _=>trivial) ad es.length cap (es.flatMap B6.cells) (Qay (sz:=6) (fun _=>rfl) es) (fun j u x=>by
   obtain⟨b,y,e,z,A⟩:=H.o.row.cell j u x;cases e;rw[Qas]
   exact ce d z A) (Qib (fun e=>e.one) es) (fun _ _=>trivial) (by omega) (by decide) d.size
  rw[<-hW] at r;obtain⟨C,D,E⟩:=Ib r l (d.grown m d.size (fun k hk=>by simp[Value.ownBlock] at hk;omega));clear r l m s i d hW p f g hz2;go_enter func78,ntmps78;go_wp2_with (at_builtin;refine Qb7 _ rfl _ _ 23 23 rfl (.slice (some ⟨w.heap.size,0,none⟩) 0 0) (.slice (some ad) es.length cap) _ _ rfl rfl C.o ?_);go_wp2;go_ret;refine⟨⟨_,rfl,?_⟩,E.o⟩;have:=D.o;rw[Nat.zero_add,List.nil_append] at this;exact this
theorem Qqd(a:Vx)(cap:Nat)(es:List H3)(w:Vz)(h:ARow H3.cells w a cap es)(hl:es.length<=1048576):
 Calls prog 79 #[.slice a es.length cap] w fun e w'=>(∃v,e=.returned v/\Grow w' w.heap.size 86 3 AnyV v es.length (es.flatMap H3.cells))/\Below w.heap.size w w':=by
 obtain⟨F,p,f,g,hz2⟩:=info_parts Qqb;have G:∀(w:Vz) (a:Vx) (n c n' q:Nat),(binOp .eql 24 (.slice a n c) (.slice none n' q)).run prog w=.ok (.bool a.isNone) w:=fun w a n c n' q=>Lib.run_eql_slice_nil w _ _ a n c n' q underlying24
 have H:=Hi h;clear h;cases a with
 |none=>
  obtain rfl:=Qiy (sz:=3) (fun _=>rfl) (by decide) H.o;clear p f g hz2;go_enter func79,ntmps79;go_wp2;go_ret;exact⟨⟨_,rfl,Grow.nil _ _ _ _ _⟩,Below.refl _ _⟩
 |some ad=>
  obtain⟨W,hW⟩:=nm (w.alloc (.cells #[] 86));have d:Bl w W:=by rw[<-hW];exact(Below.refl _ _).alloc lZ _
  have i:Grow W w.heap.size 86 3 AnyV (.slice (some ⟨w.heap.size,0,none⟩) 0 0) 0 []:=by rw[<-hW];exact Grow.made w _ _ _
  obtain⟨I,w',r,l,m,s⟩:=i.app (P:=prog) (ty:=24) underlying24 p f g hz2 rfl (by decide) (fun _ _=>trivial) ad es.length cap (es.flatMap H3.cells) (Qay (sz:=3) (fun _=>rfl) es) (fun j u x=>by
   obtain⟨b,y,e,z,A⟩:=H.o.row.cell j u x;cases e;rw[Qas]
   exact ce d z A) (Qib (fun e=>e.one) es) (fun _ _=>trivial) (by omega) (by decide) d.size
  rw[<-hW] at r;obtain⟨C,D,E⟩:=Ib r l (d.grown m d.size (fun k hk=>by simp[Value.ownBlock] at hk;omega));clear r l m s i d hW p f g hz2;go_enter func79,ntmps79;go_wp2_with (at_builtin;refine Qb7 _ rfl _ _ 24 24 rfl (.slice (some ⟨w.heap.size,0,none⟩) 0 0) (.slice (some ad) es.length cap) _ _ rfl rfl C.o ?_);go_wp2;go_ret;refine⟨⟨_,rfl,?_⟩,E.o⟩;have:=D.o;rw[Nat.zero_add,List.nil_append] at this;exact this
def qBar(b:B6):B6:={ b with e:=⟨#[48]⟩ }
def qHold(h:H3):H3:={ h with q:=⟨#[48]⟩ }
def upTo{α:Type}(f:α->α)(k:Nat)(l:List α):List α:=(l.take k).map f++l.drop k
section
variable {α:Type} {f:α->α} {l:List α} {k:Nat} {e:α}
theorem Qiz:upTo f 0 l=l:=by simp[upTo]
theorem Qi0(h:k=l.length):upTo f k l=l.map f:=by subst h;simp[upTo]
theorem Qi1(h:l[k]?=some e):(upTo f k l)[k]?=some e:=by
 have hk:=(gZ h).1;unfold upTo;rw[List.getElem?_append_right (by simp;omega),List.getElem?_drop];simp only[List.length_map,List.length_take];rw[show k+(k - min k l.length)=k by omega];exact h
theorem Qi2(h:l[k]?=some e):(upTo f k l).set k (f e)=upTo f (k+1) l:=by
 have hk:=(gZ h).1;unfold upTo;rw[List.set_append_right _ _ (by simp;omega),List.take_add_one,h];simp only[List.length_map,List.length_take,Option.toList_some,List.map_append,List.map_cons,List.map_nil,List.append_assoc,List.singleton_append];rw[show k - min k l.length=0 by omega]
 congr 1
 rw[List.drop_eq_getElem_cons hk,List.set_cons_zero]
end
def GrF{α:Type}(c:α->List Value)(t:Vr)(sz B:Nat)(es:List α):Fact:=fun v w=>Grow w B t sz AnyV v es.length (es.flatMap c)
theorem GrF.stays{α:Type}(c:α->List Value)(t:Vr)(sz B:Nat)(a:List α):Stays (GrF c t sz B a):=fun _ _ _ b h=>Grow.below h b
theorem Qqe{a:Vx}{b B:Nat}{c:List B6}{w:Vz}(h:ARow B6.cells w a b c)(hl:c.length<=1048576)(hB:B<=w.heap.size):Calls prog 78 #[.slice a c.length b] w (Makes w (GrF B6.cells 84 6 B c)):=
 (Qqc a b c w h hl).mono fun e w' ⟨⟨v,d,g⟩,i⟩=>⟨v,d,i,Grow.mono g hB⟩
theorem Qqf{a:Vx}{b B:Nat}{c:List H3}{w:Vz}(h:ARow H3.cells w a b c)(hl:c.length<=1048576)(hB:B<=w.heap.size):Calls prog 79 #[.slice a c.length b] w (Makes w (GrF H3.cells 86 3 B c)):=
 (Qqd a b c w h hl).mono fun e w' ⟨⟨v,d,g⟩,i⟩=>⟨v,d,i,Grow.mono g hB⟩
def QuietSays(a1:Vx)(c1 nj:Nat)(bs:List B6)(hs:List H3)(w:Vz):Fact:=fun v w'=>∃(a2 a3:Vx) (c2 c3:Nat),v=.agg #[.slice a1 nj c1,.slice a2 (bs.map qBar).length c2,.slice a3 (hs.map qHold).length c3]/\LAt B6.cells 84 w' w.heap.size a2 c2 (bs.map qBar)/\LAt H3.cells 86 w' w.heap.size a3 c3 (hs.map qHold)
theorem Qqg(D a2 a3:Vx)(c1 c2 c3:Nat)(E:List S2)(p:List B6)(q:List H3)(w:Vz)(hf:FrRow w D a2 a3 c1 c2 c3 E p q)(n2:p.length<=1048576)(n3:q.length<=1048576):
 Calls prog 28 #[.agg #[.slice D E.length c1,.slice a2 p.length c2,.slice a3 q.length c3]] w (Makes w (QuietSays D c1 E.length p q w)):=by
 have HF:=Hi hf;obtain⟨B0,B⟩:=nm w.heap.size;obtain⟨V,N⟩:=nm (((w.alloc (.cells #[.slice D E.length c1,.slice a2 p.length c2,.slice a3 q.length c3] 26)).alloc (.cells #[.slice none 0 0,.slice none 0 0,.slice none 0 0] 26)).drew);have v:O (Bl w V):=Hi (by rw[<-N];exact(Below.new2 w _ _).drew);have x:O (SB V B0 26 #[.slice D E.length c1,.slice a2 p.length c2,.slice a3 q.length c3]):=Hi (by rw[<-N,<-B];exact(SB.new w _ _).alloc _);have P:O (SB V (B0+1) 26 #[.slice none 0 0,.slice none 0 0,.slice none 0 0]):=Hi (by rw[<-N,<-B];exact Qai w _ _ _);obtain⟨Q,R⟩:=Ia (x.o.cell 1) (x.o.cell 2);simp only[List.getElem?_toArray,List.getElem?_cons_zero,List.getElem?_cons_succ] at Q R;obtain⟨S,T⟩:=Ia N B;clear hf N B;go_enter func28,ntmps28;go_wp2_with fail
 refine RegG.bg 7 (fun j=>some (bif j == 6 then 3 else 7+j)) ?_;rw[S.o,T.o];clear S;refine RegG.p0 [] ?_;refine RegG.pu (c:=?_) [0] (fun w a=>?_) ?_;rotate_left
 .
  intro K y;have d0:=ce a x.o.lt Q.o;go_simp;exact y
 refine RegG.ca (φ:=GrF B6.cells 84 6 V.heap.size p) [1] (GrF.stays _ _ _ _ _) (fun w a=>?_) ?_
 .
  intro K y;go_simp;exact Makes.use (Qqe ((HF.o.b.below v.o).below a) n2 a.size) y
 refine RegG.p0 [] ?_;refine RegG.pu (c:=?_) [3] (fun w a=>?_) ?_;rotate_left
 .
  intro K y;have d0:=ce a x.o.lt R.o;go_simp;exact y
 refine RegG.ca (φ:=GrF H3.cells 86 3 V.heap.size q) [4] (GrF.stays _ _ _ _ _) (fun w a=>?_) ?_
 .
  intro K y;go_simp;exact Makes.use (Qqf ((HF.o.h.below v.o).below a) n3 a.size) y
 refine RegG.ca (φ:=GrF B6.cells 84 6 V.heap.size p) [2] (GrF.stays _ _ _ _ _) (fun w a=>?_) ?_
 .
  intro v1 h1 K y;go_simp;exact y _ _ bR h1
 refine RegG.last (by simp only[List.nil_append,List.cons_append,List.length_append,List.length_cons,List.length_nil,Nat.reduceAdd]) (by rfl) (by rfl) (by kernel_rfl) (fun u a=>?_);simp only[FinG,List.nil_append,List.cons_append,Qad,Act.put,List.setIfInBounds_toArray,List.set_cons_zero,List.set_cons_succ,Nat.reduceAdd,Nat.reduceBEq,cond_true,cond_false];intro v2 _ v5 h5 v6 h6 K y;go_simp;refine y _ _ ?_;obtain⟨U,d2,rfl,W⟩:=LAt.of h6 rfl;obtain⟨X,d3,rfl,Y⟩:=LAt.of h5 rfl;obtain⟨aa,ab,ad⟩:=Ib W Y a;clear y h5 h6 W Y a;go_wp2_with fail;go_loopw [15] (fun F wr=>∃k:Nat,k<=p.length/\F=.int .i64 k/\LAt B6.cells 84 wr V.heap.size U d2 (upTo qBar k p)/\LAt H3.cells 86 wr V.heap.size X d3 q/\Below V.heap.size V wr) (fun F _=>p.length - (intOf F).toNat)
 case atStart=>exact⟨0,by omega,rfl,by rw[Qiz];exact aa.o,ab.o,ad.o⟩
 case round=>
  obtain⟨k,hk,rfl,m,n,a⟩:=hrel;obtain⟨G,Z⟩:=Ia n a;by_cases H:k<p.length
  .
   obtain⟨b,r⟩:∃b,p[k]?=some b:=⟨p[k],gE H⟩;obtain⟨g,rfl,I,⟨C,s⟩,⟨u0,ae⟩,i,t⟩:=m.set (sz:=6) (d:=3) (fun _=>rfl) (Qi1 r) (by decide) (show (B6.cells b).set 3 (.string ⟨#[48]⟩)=B6.cells (qBar b) from rfl);rw[Qi2 r] at i;have f0:=s.free (k*6+3);have z:=Hi i;have A:=Hi (n.only t s (by decide));have J:=Hi (Only.fresh a t I);have q1:((k:Int)<(p.length:Int)):=by omega
   clear m n a s i t r;go_wp2;go_roundw
   case rel=>exact⟨k+1,by omega,by go_num,z.o,A.o,J.o⟩
   case measure=>simp[intOf];omega
  .
   obtain rfl:k=p.length:=by omega
   rw[Qi0 rfl] at m;have L:=Hi m;clear m n a;go_wp2_with fail;go_loopw [25] (fun F wr=>∃k:Nat,k<=q.length/\F=.int .i64 k/\LAt H3.cells 86 wr V.heap.size X d3 (upTo qHold k q)/\LAt B6.cells 84 wr V.heap.size U d2 (p.map qBar)/\Below V.heap.size V wr) (fun F _=>q.length - (intOf F).toNat)
   case atStart=>exact⟨0,by omega,rfl,by rw[Qiz];exact G.o,L.o,Z.o⟩
   case round=>
    obtain⟨k,hk,rfl,n,m,a⟩:=hrel;obtain⟨L,Z⟩:=Ia m a;by_cases H:k<q.length
    .
     obtain⟨b,r⟩:∃b,q[k]?=some b:=⟨q[k],gE H⟩;obtain⟨g,rfl,I,⟨C,s⟩,⟨u0,ae⟩,i,t⟩:=n.set (sz:=3) (d:=2) (fun _=>rfl) (Qi1 r) (by decide) (show (H3.cells b).set 2 (.string ⟨#[48]⟩)=H3.cells (qHold b) from rfl);rw[Qi2 r] at i;have f0:=s.free (k*3+2);have z:=Hi i;have A:=Hi (m.only t s (by decide));have J:=Hi (Only.fresh a t I);have q1:((k:Int)<(q.length:Int)):=by omega
     clear m n a s i t r;go_wp2;go_roundw
     case rel=>exact⟨k+1,by omega,by go_num,z.o,A.o,J.o⟩
     case measure=>simp[intOf];omega
    .
     obtain rfl:k=q.length:=by omega
     rw[Qi0 rfl] at n;have G:=Hi n;have hx:=x.o.below Z.o x.o.lt;have M:=P.o.below Z.o P.o.lt;have x0:wr.cell? ⟨B0,0,none⟩=some (.slice D E.length c1):=by
      have h:=hx.cell 0
      simpa using h
     obtain⟨y0,y1,y2,-⟩:=zc M;have f0:=M.free 0;have f1:=M.free 1;have f2:=M.free 2;have HY:=Hi M;clear m n a hx M;go_wp2;refine bodyPost_ret (results_cell_row rfl _ _ (B0+1) 26 #[.slice D E.length c1,.slice U p.length d2,.slice X q.length d3] (0,0) _ rfl (((HY.o.set 0 _).set 1 _).set 2 _) underlying26 rfl Tryz.frameInfo) rfl ?_;have ho:=(((Only.refl (B0+1) wr).setCell 0 (.slice D E.length c1)).setCell 1 (.slice U p.length d2)).setCell 2 (.slice X q.length d3)
     refine⟨_,rfl,Only.fresh (v.o.trans (Z.o.mono v.o.size)) ho (by have:=T.o;omega),U,X,d2,d3,by rw[List.length_map,List.length_map],(L.o.only ho HY.o (by decide)).mono v.o.size,(G.o.only ho HY.o (by decide)).mono v.o.size⟩
section
open Go Go.RowKit
def OneOX(P:Program)(ops:Array Oper)(Q:Exit→Act→World→Prop)(o:Oper)(N:Act→World→Prop)(a:Act)(w:World):Prop:=
 ∀K:Act→World→Prop,Shut (∀a' w',N a' w'→K a' w')→if Region.wanted o (yielded ops a.tmps)=true then Oper.wp P o a w K Q else K (a.put o.dst undef) w
section
variable {P:Program} {ops:Array Oper} {Q:Exit→Act→World→Prop} {R:World→World→Prop}
theorem RegX.pu(j:RelOK R){m n:Nat}{a:Act}{w0:World}{d:Nat→Option Tmp}{Φ:List Fact}{i:Nat}{o:Oper}{c:Value}{N:World→Prop}(f:List Nat)(h:∀w,R w0 w→N w)(k:RegX R P ops Q m n a w0 d (Φ++ [Is c]))
 (l:Φ.length=i:=by simp only[List.nil_append,List.cons_append,List.length_append,List.length_cons,List.length_nil,Nat.reduceAdd];exact rfl)
 (p:ops[i]?=some o:=by simp only[List.getElem?_toArray,List.getElem?_cons_zero,List.getElem?_cons_succ];exact rfl)
 (q:JsOK ops i f=true:=by kernel_rfl)
 (e:∀w,Given d Φ w (fun b=>∀K:Value→World→Prop,Shut (K c w)→if Region.wanted o (yielded ops b.tmps)=true then Oper.wp P o b w (fun g w'=>g.defers=b.defers∧K (left o.dst g) w') Nope else K undef w) f a=N w:=by intro w;simp only[Given,List.nil_append,List.cons_append,List.getD_cons_zero,List.getD_cons_succ,Qad,Act.put,List.setIfInBounds_toArray,List.set_cons_zero,List.set_cons_succ,Nat.reduceAdd,Nat.reduceBEq,cond_true,cond_false];exact rfl):RegX R P ops Q m n a w0 d Φ:=
 RegX.is j f l p q (fun w r=>by rw[e w];exact h w r) k
theorem RegX.ca{m n:Nat}{a:Act}{w0:World}{c:Nat→Option Tmp}{Φ:List Fact}{i:Nat}{o:Oper}{φ:Fact}{N:World→Prop}(d:List Nat)(g:StaysX R φ)(h:∀w,R w0 w→N w)(j:RegX R P ops Q m n a w0 c (Φ++ [φ]))
 (k:Φ.length=i:=by simp only[List.nil_append,List.cons_append,List.length_append,List.length_cons,List.length_nil,Nat.reduceAdd];exact rfl)
 (l:ops[i]?=some o:=by simp only[List.getElem?_toArray,List.getElem?_cons_zero,List.getElem?_cons_succ];exact rfl)
 (p:JsOK ops i d=true:=by kernel_rfl)
 (e:∀w,Given c Φ w (fun b=>∀K:Value→World→Prop,Shut (∀v w',R w w'→φ v w'→K v w')→if Region.wanted o (yielded ops b.tmps)=true then Oper.wp P o b w (fun f w'=>f.defers=b.defers∧K (left o.dst f) w') Nope else K undef w) d a=N w:=by intro w;simp only[Given,List.nil_append,List.cons_append,List.getD_cons_zero,List.getD_cons_succ,Qad,Act.put,List.setIfInBounds_toArray,List.set_cons_zero,List.set_cons_succ,Nat.reduceAdd,Nat.reduceBEq,cond_true,cond_false];exact rfl):RegX R P ops Q m n a w0 c Φ:=
 RegX.step d k l p g (fun w q=>by rw[e w];exact h w q) j
theorem RegX.bg{id n:Nat}{a:Act}{w:World}(R:World→World→Prop)(m:Nat)(b:Nat→Option Tmp)(h:RegX R P ops Q m n a w.drew b [])
 (e:P.follows .mixedOrders=true:=by kernel_rfl) (c:DstsOK ops m b=true:=by kernel_rfl) (d:RegOK ops n=true:=by kernel_rfl) (f:a.tmps.size=n:=by rfl):(Code.region id ops true).wp P Q a w:=RegX.begin m b e c d f h
end
end
section
open Go Go.RowKit
section
variable {P:Program} {ops:Array Oper} {Q:Exit→Act→World→Prop} {R:World→World→Prop}
def TwoOK(ops:Array Oper)(m:Nat)(U:List Nat):Bool:=
 WaitedTo ops (m+1) && ((List.range m).all fun j=>U.contains j || (List.range (m+1)).any fun k=>!U.contains k && (depsOf ops k).contains j) &&
  U.all fun u=>decide (u<m) && match ops[m]? with
   |some o=>o.dst.isNone && match dstOf ops u with
    |some d=>!(o.looksAt ops).contains d
    |none=>true
   |none=>false
def restOf(m:Nat)(U:List Nat):List Nat:=(List.range m).filter fun j=>!U.contains j
def StillStep(P:Program)(ops:Array Oper)(R:World→World→Prop)(a0:Act)(w0:World)(ds:Nat→Option Tmp)(Φ:List Fact)(u:Nat):Prop:=
 ∃o js,ops[u]?=some o∧JsOK ops u js=true∧∀w,R w0 w→Given ds Φ w (fun b=>∀K:Value→World→Prop,Shut (∀v,Φ.getD u NoF v w→K v w)→if Region.wanted o (yielded ops b.tmps)=true then Oper.wp P o b w (fun a' w'=>a'.defers=b.defers∧K (left o.dst a') w') Nope else K undef w) js a0
theorem AtX.exec{n:Nat}(F:RegFine ops n){e:Act}{w0:World}{Φ:List Fact}{L:List Nat}{f:Array Bool}{xs:Nat→Value}{a:Act}{w:World}(p:e.tmps.size=n)(H:AtX R P ops e w0 Φ L f xs a w){i:Nat}{o:Oper}(r:ops[i]?=some o){I:List Nat}(s:∀j∈ I,j∈ L)(u:∀j∈ L,∀d,dstOf ops j=some d→d∈ o.looksAt ops→j∈ I):
 execOp a.eval o=execOp (putL ops xs I e).eval o∧Region.wanted o (yielded ops a.tmps)=Region.wanted o (yielded ops (putL ops xs I e).tmps):=by
 have k:∀t,t∈ o.looksAt ops→a.tmps[t]?=(putL ops xs I e).tmps[t]?:=by
  intro t l;rw[H.act];by_cases m:∃j∈ L,dstOf ops j=some t
  · obtain⟨j,h,c⟩:=m
    rw[Qb4 F c L e p h,Qb4 F c _ e p (u j h t c l)]
  · rw[Qbp L e (fun j h c=>m ⟨j,h,c⟩),Qbp _ e (fun j h c=>m ⟨j,s j h,c⟩)]
 constructor
 ·
  refine execOp_congr o (fun v b=>F.sel i o v b r) (fun x y=>?_);cases x with
  |tmp t=>
   have:=k t (List.mem_append_left _ (List.mem_filterMap.2 ⟨.tmp t,by simpa using y,rfl⟩));simp only[Act.eval,Array.getD_eq_getD_getElem?,this]
  |_=>rfl
 ·
  unfold Region.wanted;cases hg:o.guard with
  |none=>rfl
  |some gw=>
   obtain⟨g,q⟩:=gw;have z:yielded ops a.tmps g=yielded ops (putL ops xs I e).tmps g:=by
    unfold yielded;cases l:(ops[g]?).bind (·.dst) with
    |none=>rfl
    |some t=>
     have:=k t (by simp[Oper.looksAt,hg,l]);simp only[Option.bind_some,this]
   simp only[z]
theorem Qu7(hR:RelOK R){n:Nat}(F:RegFine ops n){r:Act}{w0:World}{Φ:List Fact}(X:r.tmps.size=n){Y:Nat→Option Tmp}{m:Nat}{o2:Oper}{U:List Nat}(E:∀j,j<m→Y j=dstOf ops j)(hm:Φ.length=m)(hk:m+2=ops.size)(aa:StepsOX R P ops r w0 Y Φ)(G:ops[m+1]?=some o2)(t:∀u∈ U,u<m)(hw:WaitedTo ops (m+1)=true)(ab:dstOf ops m=none)
 (hU:∀u∈ U,StillStep P ops R r w0 Y Φ u) {w:World} {ys:Nat→Value} (hM:Given Y Φ w (fun b=>OneOX P ops Q o2 (Q .normal) b w) U (putL ops ys (restOf m U) r)):
 ∀(g:Nat) (L:List Nat) (c:Array Bool) (xs:Nat→Value) (a:Act),AtX R P ops r w0 (Φ++ [fun _ _=>True]) L c xs a w→m∈ L→(∀j∈ restOf m U,j∈ L∧xs j=ys j)→L.length+g=ops.size→wpAny P .any ops Q g c a w:=by
 have I:∀{v:Value} {w':World},¬(Φ++ [fun _ _=>True]).getD (m+1) NoF v w':=fun {v w'} h=>by
  rw[List.getD_eq_getElem?_getD,List.getElem?_eq_none (by simp;omega)] at h;exact h
 have q:∀j,j<m→(Φ++ [fun _ _=>True]).getD j NoF=Φ.getD j NoF:=fun j f=>by
  rw[List.getD_eq_getElem?_getD,List.getD_eq_getElem?_getD,List.getElem?_append_left (by omega)]
 have J:∀j,StaysX R ((Φ++ [fun _ _=>True]).getD j NoF):=by
  intro j;rcases Nat.lt_trichotomy j m with h|h|h
  · rw[q j h]
    exact(aa j _ (by rw[List.getD_eq_getElem?_getD,List.getElem?_eq_getElem (by omega)];rfl)).1
  ·
   subst h;rw[List.getD_eq_getElem?_getD,List.getElem?_append_right (by omega),hm,Nat.sub_self];exact fun _ _ _ _ _=>trivial
  · rw[List.getD_eq_getElem?_getD,List.getElem?_eq_none (by simp;omega)]
    exact fun _ _ _ _ h=>h
 intro g
 induction g with
 |zero=>
  intro L c xs a H x z hf;have k:=Qlz L ops.size H.nodup H.lt (by omega);exact absurd (H.facts _ (k (m+1) (by omega))) I
 |succ g ih=>
  intro L c xs a H x z hf;refine⟨fun h=>absurd (H.facts _ (H.none_ready F h (m+1) (by omega))) I,fun i hi=>?_⟩;obtain⟨K,D,Z,o,A⟩:=H.ready hi;have M:dstOf ops i=o.dst:=by unfold dstOf;rw[A];rfl
  rcases Nat.lt_or_ge i m with h|h
  ·
   have ad:i∈ U:=by
    apply Classical.byContradiction;intro hc;exact D (z i (List.mem_filter.2 ⟨List.mem_range.2 h,by simpa using hc⟩)).1
   obtain⟨o',js,O,S,hs⟩:=hU i ad;rw[A] at O;cases O;obtain⟨e1,e2⟩:=H.same F X A D Z S;have s:=(JsOK.spec A S).1;have B:=Given.use (xs:=xs) _ _ (fun j f=>E j (by have:=F.low i j (s j f);omega)) (hs w H.base) (fun j f=>by
    have T:=H.facts j (Z j (s j f));rw[q j (by have:=F.low i j (s j f);omega)] at T
    exact T)
   refine Qg6 (b:=putL ops xs js r) (N:=fun v w'=>w'=w∧Φ.getD i NoF v w) A (fun d ae=>?_) e1 e2 (B (fun v w'=>w'=w∧Φ.getD i NoF v w) (fun v C=>⟨rfl,C⟩)) ?_
   · rw[Qg4,X]
     exact F.fits i d (M.trans ae)
   ·
    have V:∀v u,(Φ.getD i NoF v w)→(u=v∨o.dst=none)→wpAny P .any ops Q g (c.setIfInBounds i true) (a.put o.dst u) w:=fun v u C hu=>by
     have H':=H.next hR F X K D Z J (hR.refl w) (v:=v) (by rw[q i h];exact C) M hu;refine ih _ _ _ _ H' (List.mem_append_left _ x) (fun j f=>⟨List.mem_append_left _ (z j f).1,?_⟩) (by simp;omega);have:j≠i:=fun e=>D (e ▸ (z j f).1)
     simp only[if_neg this];exact(z j f).2
    rintro v w' (⟨rfl,C⟩|⟨hnone,rfl,C⟩)
    · exact V v v C (.inl rfl)
    · exact V undef v C (.inr hnone)
  ·
   have af:i=m+1:=by
    rcases Nat.lt_or_ge m i with B|B
    · omega
    · exact absurd x (by rw[show m=i by omega];exact D)
   subst af;rw[A] at G;cases G;have k:=WaitedTo.down hw F Z H.closed;have ah:m+1≤L.length:=by
    have:=(List.nodup_range (n:=m+1)).length_le_of_subset (l₂:=L) (fun j f=>k j (List.mem_range.1 f))
    simpa using this
   have ag:g=0:=by omega
   subst ag;have eI:putL ops ys (restOf m U) r=putL ops xs (restOf m U) r:=Qg2 _ _ (fun j f=>(z j f).2.symm);rw[eI] at hM;have B:=Given.use (xs:=xs) U _ (fun j f=>E j (t j f)) hM (fun j f=>by
    have T:=H.facts j (k j (by have:=t j f;omega));rw[q j (t j f)] at T
    exact T)
   rw[←Qg1] at B;have e:putL ops xs L r=putL ops xs (restOf m U++U) r:=by
    have e1:putL ops xs L r=putL ops xs (m :: (restOf m U++U)) r:=by
     refine Qg5 F X (fun j=>⟨fun f=>?_,fun f=>?_⟩)
     ·
      have ai:=H.lt j f;rcases Nat.lt_trichotomy j m with y|y|y
      ·
       refine List.mem_cons_of_mem _ (List.mem_append.2 ?_);by_cases hc:j∈ U
       · exact .inr hc
       · exact .inl (List.mem_filter.2 ⟨List.mem_range.2 y,by simpa using hc⟩)
      · rw[y];exact List.mem_cons_self
      · exact absurd f (by rw[show j=m+1 by omega];exact D)
     ·
      rcases List.mem_cons.1 f with rfl|f
      · exact x
      ·
       rcases List.mem_append.1 f with y|y
       · exact(z j y).1
       · exact k j (by have:=t j y;omega)
    rw[e1]
    show putL ops xs (restOf m U++U) (r.put (dstOf ops m) (xs m))=_
    rw[ab];rfl
   rw[←e,←H.act] at B;have p:Region.ready .any ops (c.setIfInBounds (m+1) true)= []:=by
    cases hr:Region.ready .any ops (c.setIfInBounds (m+1) true) with
    |nil=>rfl
    |cons j js=>
     obtain⟨W,o',g2,_⟩:=mem_ready.1 (show j∈ Region.ready .any ops (c.setIfInBounds (m+1) true) by rw[hr];exact List.mem_cons_self);have f:=(Array.getElem?_eq_some_iff.1 g2).1;by_cases he:j=m+1
     ·
      subst he;rw[Array.getD_eq_getD_getElem?,Array.getElem?_setIfInBounds_self_of_lt (by rw[H.size];exact f)] at W;cases W
     ·
      rw[Array.getD_eq_getD_getElem?,Array.getElem?_setIfInBounds_ne (fun h=>he h.symm),H.marks j f] at W;simp only[Option.getD_some,decide_eq_false_iff_not] at W;exact absurd (k j (by omega)) W
   exact wpOp_step A (fun K' hK=>B K' (fun a' w' hq=>hK a' w' ⟨p,hq⟩))
theorem RegX.twoU(W:RelOK R){n:Nat}{o:Act}{w0:World}{x:Nat→Option Tmp}{Φ:List Fact}{m:Nat}{D E:Oper}(U:List Nat)(hm:Φ.length=m)(hk:m+2=ops.size)(r:ops[m]?=some D)(Y:ops[m+1]?=some E)(y:D.dst=none)(Z:TwoOK ops m U=true)(hU:∀u∈ U,StillStep P ops R o w0 x Φ u)
 (h:∀w,R w0 w→Given x Φ w (fun b=>∀K:World→Prop,Shut (∀w',R w w'→Given x Φ w' (fun z=>OneOX P ops Q E (Q .normal) z w') U b→K w')→if Region.wanted D (yielded ops b.tmps)=true then Oper.wp P D b w (fun a' w'=>a'.defers=b.defers∧K w') Nope else K w) (restOf m U) o):RegX R P ops Q m n o w0 x Φ:=fun A F X B=>by
 unfold TwoOK at Z;simp only[Bool.and_eq_true,List.all_eq_true,List.mem_range,Bool.or_eq_true,List.any_eq_true,Bool.not_eq_true',List.contains_eq_mem,decide_eq_true_eq,decide_eq_false_iff_not] at Z;obtain⟨⟨G,aa⟩,I⟩:=Z;have J:dstOf ops m=none:=by unfold dstOf;rw[r];exact y
 have M:=fun u hu=>(I u hu).1
 refine Ql0 W F X A (by omega) B (fun L c xs a w H O=>?_) (fun i L c xs a w t H hi ak hf=>?_) ops.size [] _ (fun _=>undef) o w0 (AtX.begin W) (by simp)
 ·
  have:=H.facts m (O m (by omega));rw[List.getD_eq_getElem?_getD,List.getElem?_eq_none (by omega)] at this;exact this.elim
 ·
  obtain⟨ab,ad,C,_⟩:=H.ready hi;have s:∀j∈ L,j<m:=fun j g=>by
   rcases Nat.lt_or_ge j m with p|p
   · exact p
   ·
    have:=H.facts j g;rw[List.getD_eq_getElem?_getD,List.getElem?_eq_none (by omega)] at this;exact this.elim
  have ae:i=m:=by
   rcases Nat.lt_or_ge m i with p|p
   ·
    have e:i=m+1:=by omega
    subst e;exact absurd (s m (WaitedTo.down G F C H.closed m (by omega))) (by omega)
   · omega
  subst ae;have af:∀k j,k+j+1=i→j ∉ U→j∈ L:=by
   intro k
   induction k using Nat.strongRecOn with
   |_ k ih=>
    intro j g l;rcases aa j (by omega) with p|⟨q,hq,ag,hc⟩
    · exact absurd p l
    ·
     have:=F.low q j hc;by_cases ah:q=i
     · subst ah;exact C j hc
     · exact H.closed q (ih (i - q - 1) (by omega) q (by omega) ag) j hc
  have f:∀j∈ restOf i U,j∈ L:=fun j g=>by
   obtain⟨p,h2⟩:=List.mem_filter.1 g;have:=List.mem_range.1 p;exact af (i - j - 1) j (by omega) (by simpa using h2)
  have p:=Given.use (xs:=xs) (restOf i U) o (fun j g=>A j (List.mem_range.1 (List.mem_filter.1 g).1)) (h w H.base) (fun j g=>H.facts j (f j g));obtain⟨e1,e2⟩:=H.exec F X r f (fun j g d ai aj=>by
   refine List.mem_filter.2 ⟨List.mem_range.2 (s j g),?_⟩;have l:j ∉ U:=fun l=>by
    have S:=(I j l).2;rw[r] at S;simp only[Bool.and_eq_true] at S;have h4:=S.2;rw[ai] at h4;simp only[Bool.not_eq_true',decide_eq_false_iff_not] at h4;exact h4 aj
   simpa using l)
  have T:∀j,StaysX R (Φ.getD j NoF):=by
   intro j;rcases Nat.lt_or_ge j Φ.length with h|h
   · exact(B j _ (by rw[List.getD_eq_getElem?_getD,List.getElem?_eq_getElem h];rfl)).1
   · rw[List.getD_eq_getElem?_getD,List.getElem?_eq_none h]
     exact fun _ _ _ _ h=>h
  refine Qg6 (b:=putL ops xs (restOf i U) o) (N:=fun v w'=>R w w'∧Given x Φ w' (fun z=>OneOX P ops Q E (Q .normal) z w') U (putL ops xs (restOf i U) o)) r (fun d hd=>by rw[y] at hd;cases hd) e1 e2 ?_ ?_
  · have h2:=p (fun w'=>R w w'∧Given x Φ w' (fun z=>OneOX P ops Q E (Q .normal) z w') U (putL ops xs (restOf i U) o)) (fun w' a b=>⟨a,b⟩)
    exact h2
  ·
   have V:∀u w',(R w w'∧Given x Φ w' (fun z=>OneOX P ops Q E (Q .normal) z w') U (putL ops xs (restOf i U) o))→wpAny P .any ops Q t (c.setIfInBounds i true) (a.put D.dst u) w':=fun u w' ⟨hb,hM⟩=>by
    have Hn:AtX R P ops o w0 (Φ++ [fun _ _=>True]) L c xs a w:=⟨H.nodup,H.lt,H.size,H.marks,H.closed,H.act,fun j g=>by
     have S:=H.facts j g;have:=s j g;rw[List.getD_eq_getElem?_getD,List.getElem?_append_left (by omega),←List.getD_eq_getElem?_getD]
     exact S,H.base⟩
    have H':=Hn.next W F X ab ad C (fun j=>by
     rcases Nat.lt_trichotomy j Φ.length with h|h|h
     · rw[List.getD_eq_getElem?_getD,List.getElem?_append_left (by omega),←List.getD_eq_getElem?_getD]
       exact T j
     ·
      subst h;rw[List.getD_eq_getElem?_getD,List.getElem?_append_right (Nat.le_refl _),Nat.sub_self];exact fun _ _ _ _ _=>trivial
     · rw[List.getD_eq_getElem?_getD,List.getElem?_eq_none (by simp;omega)]
       exact fun _ _ _ _ h=>h) hb (v:=undef) (by rw[List.getD_eq_getElem?_getD,List.getElem?_append_right (by omega),hm,Nat.sub_self];trivial) J (u:=u) (.inr rfl)
    have e3:a.put none u=a:=rfl;rw[e3] at H';rw[y,e3];exact Qu7 W F X A hm hk B Y M G J hU hM t _ _ _ _ H' (List.mem_append_right _ (by simp)) (fun j g=>⟨List.mem_append_left _ (f j g),by
     have:j≠i:=fun e=>by have:=s j (f j g);omega
     simp only[if_neg this]⟩) (by simp;omega)
   rintro v w' (hv|⟨_,hv⟩)
   · exact V v w' hv
   · exact V v w' hv
end
end
def NewS(t:Vr)(C:Vw)(B:Nat):Fact:=fun v w=>∃b:Nat,v=.pointer (some ⟨b,0,none⟩)/\B<=b/\SB w b t C
structure ApR (t tm:Vr) (B:Nat) (xs ys:Vv) (w w':Vz):Prop where
 os:w'.os=w.os
 tape:w'.tape=w.tape
 output:w'.output=w.output
 size:w.heap.size<=w'.heap.size
 block:∀k,k<w.heap.size->(k<B∨(∀C,¬SB w k t C)/\∀C,¬SB w k tm C)->w'.heap[k]?=w.heap[k]?
 moved:∀k C,SB w k tm C->∃C',SB w' k tm C'/\C'.size=C.size
 old:∀k C,SB w k t C->∃C',SB w' k t C'/\C'.size=C.size/\(C.toList.take xs.length=xs->C'.toList.take xs.length=xs)/\(C.toList.take (xs.length+ys.length)=xs++ys->C'.toList.take (xs.length+ys.length)=xs++ys)
section
variable {t tm:Vr} {B:Nat} {xs ys:Vv} {w w':Vz}
theorem ApR.of_below(h:Bl w w'):ApR t tm B xs ys w w':=
 ⟨h.os,h.tape,h.output,h.size,fun k hk _=>h.block k hk,fun k C hC=>⟨C,hC.below h hC.lt,rfl⟩,fun k C hC=>⟨C,hC.below h hC.lt,rfl,id,id⟩⟩
theorem ApR.ok:RelOK (ApR t tm B xs ys):=by
 refine⟨fun w=>ApR.of_below bR,fun {u v w} h k=>⟨k.os.trans h.os,k.tape.trans h.tape,k.output.trans h.output,Nat.le_trans h.size k.size,fun i o p=>?_,fun i C hC=>?_,fun i C hC=>?_⟩⟩
 .
  have q:=h.block i o p;rw[<-q];have c:∀d,(∀C,¬SB u i d C)->∀C,¬SB v i d C:=fun d r C hC=>r C (by unfold SB at hC ⊢;rw[<-q];exact hC)
  exact k.block i (Nat.lt_of_lt_of_le o h.size) (p.imp id (fun ⟨a,b⟩=>⟨c _ a,c _ b⟩))
 .
  obtain⟨e,f,g⟩:=h.moved i C hC;obtain⟨j,l,m⟩:=k.moved i e f;exact⟨j,l,m.trans g⟩
 .
  obtain⟨e,f,g,s,x⟩:=h.old i C hC;obtain⟨j,l,m,y,z⟩:=k.old i e f;exact⟨j,l,m.trans g,fun n=>y (s n),fun n=>z (x n)⟩
theorem ApR.below(h:ApR t tm B xs ys w w')(hB:B<=w.heap.size):Below B w w':=⟨h.os,h.tape,h.output,h.size,fun k hk=>h.block k (by omega) (.inl hk)⟩
theorem SB.typed{k:Nat}{b t2:Vr}{C D:Vw}(c:SB w k b C)(a:SB w k t2 D):b=t2:=by
 unfold SB at c a;rw[c] at a;have d:=Option.some.inj a;injection d
theorem ApR.sb(h:ApR t tm B xs ys w w'){k:Nat}{c:Vr}{C:Vw}(a:SB w k c C)(d:c≠t)(b:c≠tm):SB w' k c C:=by
 have f:=h.block k a.lt (.inr ⟨fun D e=>d (a.typed e),fun D e=>b (a.typed e)⟩);unfold SB at a ⊢;rw[f];exact a
theorem NewS.staysX{c:Vr}{C:Vw}{B':Nat}(d:c≠t)(a:c≠tm):StaysX (ApR t tm B xs ys) (NewS c C B'):=fun _ _ _ f ⟨b,e,g,h⟩=>⟨b,e,g,f.sb h d a⟩
def NewM(tm:Vr)(n B:Nat):Fact:=fun v w=>∃(b:Nat) (C:Vw),v=.pointer (some ⟨b,0,none⟩)/\B<=b/\SB w b tm C/\C.size=n
theorem NewM.staysX{n B':Nat}:StaysX (ApR t tm B xs ys) (NewM tm n B'):=fun _ _ _ a ⟨b,C,e,c,d,f⟩=>by
 obtain⟨g,h,i⟩:=a.moved b C d;exact⟨b,g,e,c,h,i.trans f⟩
theorem ApR.of_only{k:Nat}{C D:Vw}(a:Only k w w')(c:SB w k tm C)(f:SB w' k tm D)(h:D.size=C.size)(hB:B<=k)(g:t≠tm):ApR t tm B xs ys w w':=
 ⟨a.os,a.tape,a.output,a.size,fun i j d=>a.block i j (fun e=>by
   subst e;rcases d with d|⟨_,d⟩
   . omega
   . exact d C c),fun i E b=>by
   by_cases e:i=k
   .
    subst e;have l:C=E:=by
     unfold SB at c b;rw[c] at b;have m:=Option.some.inj b;injection m
    subst l;exact⟨D,f,h⟩
   . exact⟨E,b.only a e,rfl⟩,fun i E b=>⟨E,b.only a (fun e=>g (by subst e;exact b.typed c)),rfl,id,id⟩⟩
end
def gvBar(b:Int):B6:=⟨0,b,tx1,⟨#[]⟩,⟨#[]⟩,⟨#[]⟩⟩
def gvB:List B6:=[gvBar 1,gvBar 2]
def gvH:List H3:=[⟨1,1,⟨#[]⟩⟩,⟨1,2,⟨#[]⟩⟩,⟨2,1,⟨#[]⟩⟩,⟨2,2,⟨#[]⟩⟩]
def gvL:List L3:=[⟨0,tx1,⟨#[50]⟩⟩]
def gvVB:List (Nat × Nat × Rat × Rat):=[(0,1,1,0),(0,2,0,1)]
def gvVH:List Nat:=[2,3,4,5]
def gvVS:List (Nat × Rat × Rat):=[(0,1,2)]
theorem qe_of:QOf (⟨#[]⟩:ByteArray).data.toList 0:=QOf.empty
theorem Qi3:FrSized cornerJ gvB gvH:=by
 refine⟨corner_sized.1,?_,?_⟩
 .
  intro b a;simp[gvB,gvBar] at a;rcases a with rfl|rfl<;>exact⟨by decide,by decide,by decide,by decide⟩
 .
  intro x c;simp[gvH] at c;rcases c with rfl|rfl|rfl|rfl<;>decide
theorem Qqh:FrV 1048576 cornerJ gvB gvH gvVB gvVH:=by
 refine⟨by decide,by decide,by decide,rfl,rfl,?_,?_,by decide⟩
 .
  intro i b p d e
  match i,d,e with
  |0,d,e=>
   cases d;cases e;exact⟨rfl,rfl,by decide,_,_,0,0,1,0,rfl,rfl,by decide,by decide,by decide,by decide,q0_of,q0_of,q1_of,q0_of,by decide +kernel,by decide +kernel⟩
  |1,d,e=>
   cases d;cases e;exact⟨rfl,rfl,by decide,_,_,0,0,0,1,rfl,rfl,by decide,by decide,by decide,by decide,q0_of,q0_of,q0_of,q1_of,by decide +kernel,by decide +kernel⟩
  |n+2,d,e=>cases d
 .
  intro i h r a c
  match i,a,c with
  |0,a,c=>
   cases a;cases c;exact⟨1,rfl,by decide,rfl⟩
  |1,a,c=>
   cases a;cases c;exact⟨1,rfl,by decide,rfl⟩
  |2,a,c=>
   cases a;cases c;exact⟨2,rfl,by decide,rfl⟩
  |3,a,c=>
   cases a;cases c;exact⟨2,rfl,by decide,rfl⟩
  |n+4,a,c=>cases a
theorem Qi4:FrameFault cornerJ gvB gvH 0 0:=by
 refine .inr (.inr ⟨by rintro(h|h|h|h)<;>exact absurd h (by decide),?_,.inr ⟨?_,rfl,rfl⟩⟩)
 .
  intro i x a
  match i,a with
  |0,a=>
   cases a;exact .inr ⟨⟨by decide,by decide⟩,⟨by decide,by decide⟩,_,_,rfl,rfl,0,0,1,0,1,0,0,q0_of,q0_of,q1_of,q0_of,q1_of,qe_of,qe_of,by decide +kernel⟩
  |1,a=>
   cases a;exact .inr ⟨⟨by decide,by decide⟩,⟨by decide,by decide⟩,_,_,rfl,rfl,0,0,0,1,1,0,0,q0_of,q0_of,q0_of,q1_of,q1_of,qe_of,qe_of,by decide +kernel⟩
  |n+2,a=>cases a
 .
  intro i x a
  match i,a with
  |0,a=>cases a;decide
  |1,a=>cases a;decide
  |2,a=>cases a;decide
  |3,a=>cases a;decide
  |n+4,a=>cases a
theorem Qqi:∀(i:Nat) (l:L3) (p:Nat × Rat × Rat),gvL[i]?=some l->gvVS[i]?=some p->LoadV 3 l p:=by
 intro i l p hl a
 match i,hl,a with
 |0,hl,a=>
  cases hl;cases a;exact⟨rfl,by decide,q1_of,q2_of,by decide,by decide⟩
 |n+1,hl,a=>cases hl
theorem Qd8(i:Nat):agn gvVS i=if i=0 then -1 else if i=1 then -2 else 0:=by
 have e:agn gvVS=agnStep (fun _=>0) (0,1,2):=rfl;rw[e];by_cases a:i=0
 .
  subst a;rw[if_pos rfl];decide +kernel
 .
  by_cases b:i=1
  .
   subst b;rw[if_neg (by decide),if_pos rfl];decide +kernel
  . rw[if_neg a,if_neg b,Qe4 (by simpa using a) (by simpa using b)]
theorem Qqj{b:Nat}:Wh 1 (b+1) (-2):=⟨-2,by decide +kernel,by rw[Nat.pow_add];have:0<2 ^ b:=Nat.pow_pos (by decide);omega⟩
theorem Qqk(b:Nat):GivP 1 (b+1) 1 (b+1) gvVB gvB.length gvH.length (fun _=>1) (fun _=>0) (fun _=>0) (agn gvVS):=by
 refine⟨⟨by decide,Nat.one_le_two_pow,fun p a=>?_⟩,by decide,Nat.one_le_two_pow,fun i _=>⟨Qaz (.inr (.inl rfl)),Qaz (.inl rfl)⟩,fun i _=>Qaz (.inl rfl),fun i=>?_⟩
 . simp only[gvVB,List.mem_cons,List.not_mem_nil,or_false] at a
   rcases a with rfl|rfl<;>exact⟨Qaz (by decide +kernel),Qaz (by decide +kernel)⟩
 .
  rw[Qd8]
  split
  . exact Qaz (.inr (.inr rfl))
  .
   split
   . exact Qqj
   . exact Qaz (.inl rfl)
theorem Qql:∀k i,Fits (agn (gvVS.take k) i) 10:=fun k i=>by
 match k with
 |0=>exact Fits.zero.mono (by decide)
 |k+1=>
  have e:gvVS.take (k+1)=gvVS:=by simp[gvVS]
  rw[e,Qd8]
  split
  . exact⟨by decide +kernel,by decide +kernel⟩
  .
   split
   . exact⟨by decide +kernel,by decide +kernel⟩
   . exact Fits.zero.mono (by decide)
theorem Qqm(m:Vec):Giv.Settles 6 2 (balM gvVB 2 gvVH) (fun _=>1) (fun _=>0) (freeW gvVH) (hldM gvVH (fun _=>0) 4) (agn gvVS) m↔(m 0=1/\m 1=2/\m 2=0/\m 3=0/\m 4=0/\m 5=0):=by
 have f0:freeW gvVH 0=true:=by decide
 have f1:freeW gvVH 1=true:=by decide
 have f2:freeW gvVH 2=false:=by decide
 have f3:freeW gvVH 3=false:=by decide
 have f4:freeW gvVH 4=false:=by decide
 have f5:freeW gvVH 5=false:=by decide
 have y:=fun w=>by
  have l:∀k,hldM gvVH (fun _=>0) k w=0:=fun k=>by
   induction k with
   |zero=>rfl
   |succ k G=>
    unfold hldM
    split
    . rfl
    . exact G
  exact l 4
 have b:balM gvVB 2 gvVH 0 0=1:=by decide +kernel
 have c:balM gvVB 2 gvVH 1 0=0:=by decide +kernel
 have o:balM gvVB 2 gvVH 2 0= -1:=by decide +kernel
 have p:balM gvVB 2 gvVH 3 0=0:=by decide +kernel
 have q:balM gvVB 2 gvVH 4 0=0:=by decide +kernel
 have r:balM gvVB 2 gvVH 5 0=0:=by decide +kernel
 have d:balM gvVB 2 gvVH 0 1=0:=by decide +kernel
 have e:balM gvVB 2 gvVH 1 1=1:=by decide +kernel
 have s:balM gvVB 2 gvVH 2 1=0:=by decide +kernel
 have t:balM gvVB 2 gvVH 3 1=0:=by decide +kernel
 have u:balM gvVB 2 gvVH 4 1=0:=by decide +kernel
 have v:balM gvVB 2 gvVH 5 1= -1:=by decide +kernel
 have z:Giv.sOf 6 (balM gvVB 2 gvVH) m 0= -(m 0)+m 2:=by
  simp only[Giv.sOf,dot,b,c,o,p,q,r];grind
 have A:Giv.sOf 6 (balM gvVB 2 gvVH) m 1= -(m 1)+m 5:=by
  simp only[Giv.sOf,dot,d,e,s,t,u,v];grind
 have B:Giv.putF 2 (balM gvVB 2 gvVH) (Giv.tOf 6 (balM gvVB 2 gvVH) (fun _=>1) (fun _=>0) m) 0= -(m 0)+m 2:=by
  simp only[Giv.putF,Giv.tOf,dot,b,d,z,A];grind
 have C:Giv.putF 2 (balM gvVB 2 gvVH) (Giv.tOf 6 (balM gvVB 2 gvVH) (fun _=>1) (fun _=>0) m) 1= -(m 1)+m 5:=by
  simp only[Giv.putF,Giv.tOf,dot,c,e,z,A];grind
 have D:agn gvVS 0= -1:=by rw[Qd8];rfl
 have E:agn gvVS 1= -2:=by rw[Qd8];rfl
 constructor
 .
  intro⟨h,F⟩;have x:=F 0 (by decide) f0;have k1:=F 1 (by decide) f1;have k2:=h 2 (by decide) f2;have i:=h 3 (by decide) f3;have j:=h 4 (by decide) f4;have f:=h 5 (by decide) f5;rw[B,D] at x;rw[C,E] at k1;rw[y] at k2 i j f;exact⟨by grind,by grind,k2,i,j,f⟩
 .
  intro⟨x,k1,k2,i,j,f⟩;refine⟨fun w g a=>?_,fun w g a=>?_⟩
  .
   rw[y]
   match w,g,a with
   |0,_,a=>rw[f0] at a;cases a
   |1,_,a=>rw[f1] at a;cases a
   |2,_,_=>exact k2
   |3,_,_=>exact i
   |4,_,_=>exact j
   |5,_,_=>exact f
   |n+6,g,_=>omega
  .
   match w,g,a with
   |0,_,_=>rw[B,D,x,k2];decide +kernel
   |1,_,_=>rw[C,E,k1,f];decide +kernel
   |2,_,a=>rw[f2] at a;cases a
   |3,_,a=>rw[f3] at a;cases a
   |4,_,a=>rw[f4] at a;cases a
   |5,_,a=>rw[f5] at a;cases a
   |n+6,g,_=>omega
theorem qt2:QText (⟨#[50]⟩:ByteArray).data.toList 2:=⟨[50],⟨[50],.inr ⟨by decide,[2],⟨fun d a=>by simp at a;omega,.inr (by simp),by simp[val]⟩,by decide⟩,by decide⟩,.inl ⟨by decide,rfl⟩⟩
theorem qtm2:QText (⟨#[45,50]⟩:ByteArray).data.toList (-2):=⟨[45,50],⟨[50],.inr ⟨by decide,[2],⟨fun d a=>by simp at a;omega,.inr (by simp),by simp[val]⟩,by decide⟩,by decide⟩,.inl ⟨by decide,rfl⟩⟩
theorem qt52:QText (⟨#[53,47,50]⟩:ByteArray).data.toList (5 / 2):=by
 have b:(5 / 2:Rat).num=5:=by kernel_rfl
 have a:(5 / 2:Rat).den=2:=by kernel_rfl
 refine⟨[53],?_,.inr ⟨by rw[a];decide,[50],?_,rfl⟩⟩
 . rw[b]
   exact⟨[53],.inr ⟨by decide,[5],⟨by simp[Small],by simp[Trim],by simp[val]⟩,by decide⟩,by decide⟩
 . rw[a]
   exact .inr ⟨by decide,[2],⟨by simp[Small],by simp[Trim],by simp[val]⟩,by decide⟩
theorem Qc4{s t:Vs}{q:Rat}(h:QText s.data.toList q)(k:QText t.data.toList q):s=t:=by
 have:=h.inj k;cases s;cases t
 congr 1
 exact Array.toList_inj.1 this
theorem Qqn{w w':Vz}{e:Ending}{u:Nat}(h:MoveSays w 3 2 4 u gvVB gvVH (fun _=>1) (fun _=>0) (fun _=>0) (agn gvVS) e w'):
 ∃(j k n:Nat) (C:Vw),e=.returned (.tuple #[.agg #[.slice (some ⟨j,0,none⟩) 3 3,.slice (some ⟨k,0,none⟩) 2 2,.slice (some ⟨n,0,none⟩) 4 4],.agg #[.int .i64 0,.int .i64 0]])/\
  SB w' j 34 C/\C[0]?=some (.string ⟨#[49]⟩)/\C[1]?=some (.string ⟨#[50]⟩)/\SB w' k 32 (textsV [⟨#[45,49]⟩,⟨#[45,50]⟩]).toArray/\Below w.heap.size w w':=by
 have b:=fun m=>Qqm m
 obtain⟨h|h|⟨j,k,n,v,tb,J,m,t,rfl,hl,f,g,d,a,_,_,p,i,_⟩,x⟩:=h
 . exact absurd ((b (vec [1,2,0,0,0,0])).2 (by decide +kernel)) (h.2 _)
 .
  obtain⟨_,m,y,z,A,r,K,c⟩:=h;obtain⟨l,x1,x2,x3,q,o⟩:=(b m).1 z;obtain⟨B,y1,y2,y3,D,E⟩:=(b y).1 A
  exfalso
  have e:r=0∨r=1∨r=2∨r=3∨r=4∨r=5:=by omega
  rcases e with rfl|rfl|rfl|rfl|rfl|rfl
  . exact c (l.trans B.symm)
  . exact c (x1.trans y1.symm)
  . exact c (x2.trans y2.symm)
  . exact c (x3.trans y3.symm)
  . exact c (q.trans D.symm)
  . exact c (o.trans E.symm)
 .
  obtain⟨l,x1,x2,x3,q,o⟩:=(b m).1 i;have t0:t 0= -1:=by
   rw[p]
   show (1:Rat)*((1:Rat)*(m 2 - m 0)+0*(m 3 - m 1) - 0)= -1
   rw[l,x2];grind
  have t1:t 1= -2:=by
   rw[p]
   show (1:Rat)*((0:Rat)*(m 4 - m 0)+1*(m 5 - m 1) - 0)= -2
   rw[x1,o];grind
  match v,hl,g,f with
  | [s0,s1,s2],_,g,f=>
    obtain⟨s,k1⟩:=g 0 s0 rfl;rw[show 2*0=0 from rfl,l] at s;rw[show 2*0+1=1 from rfl,x1] at k1;have F:=Qc4 s qt1;have G:=Qc4 k1 qt2;refine⟨j,k,n,_,rfl,f,?_,?_,?_,x⟩
    . simp[S2.cells,F]
    . simp[S2.cells,G]
    .
     match tb,a,d with
     | [b0,b1],a,d=>
       have H:=Qc4 (t0 ▸ a.2 0 b0 rfl) qtm;have I:=Qc4 (t1 ▸ a.2 1 b1 rfl) qtm2;rw[H,I] at d;exact d
     | [],a,_=>exact absurd a.1 (by decide)
     | [_],a,_=>exact absurd a.1 (by simp)
     |_ :: _ :: _ :: _,a,_=>exact absurd a.1 (by simp)
end Go.Proofs.YtkkadnoecklepaaGreatDoor
