import Derived.Test.YtkkadnoecklepaaGreatDoorG21GivR
namespace Go.Proofs.YtkkadnoecklepaaGreatDoor
open Go.RowKit
open Go.Proofs.Tryz
set_option linter.unusedSimpArgs false
set_option linter.unusedVariables false
set_option maxHeartbeats 8000000
set_option maxRecDepth 1000000
theorem Qo1{n P e E:Nat}{M:List Vec}{s:List Rat}{x:Vec}(hP:0<P)(hl:M.length=n)(T:s.length=n)(U:∀(i:Nat) (r:Vec),M[i]?=some r->∀j,Wh P e (r j))(V:∀(i:Nat) (v:Rat),s[i]?=some v->Wh P e v)(W:Sol n M s x)(O:∀y,Sol n M s y->∀i,i<n->y i=x i)(X:(2*((n+1)*2 ^ e)) ^ n<=2 ^ E):∃Y,0<Y/\Y<=2 ^ E/\∀i,i<n->Wh Y E (x i):=by
 have F:(P:Rat)≠0:=fun h=>by
  have f:P=0:=Rat.natCast_inj.1 (by rw[h];rfl);omega
 obtain⟨B,hB⟩:∃B:Nat->Nat->Rat,B=fun i j=>if j<n then (M.getD i (fun _=>0)) j else -(s.getD i 0):=⟨_,rfl⟩
 have l:∀i j,i<n->B i j*(P:Rat)=(((B i j*(P:Rat)).num:Int):Rat)/\((B i j*(P:Rat)).num).natAbs<=2 ^ e:=fun i j q=>by
  have Z:Wh P e (B i j):=by
   rw[hB]
   show Wh P e (if j<n then _ else _)
   split
   .
    refine U i _ ?_ j;rw[List.getD_eq_getElem?_getD,gE (by omega)];rfl
   .
    refine(V i _ ?_).neg;rw[List.getD_eq_getElem?_getD,gE (by omega)];rfl
  obtain⟨z,e1,hz⟩:=Z;rw[e1,Rat.num_intCast];exact⟨rfl,hz⟩
 obtain⟨y,⟨G,aa,u⟩,hy,H⟩:=Sg.siegel n (2 ^ e) (Nat.pow_pos (by decide)) (fun i j=>(B i j*(P:Rat)).num) (fun i j q k=>by
  have:=(l i j q).2
  omega)
 have w:∀i,i<n->dot n (B i) (fun j=>(y j:Rat))=s.getD i 0*(y n:Rat):=fun i q=>by
  have f:=hy i q;have g:=Qd8 (n+1) (fun j=>(B i j*(P:Rat)).num) y;rw[f] at g;have I:dot (n+1) (fun j=>(y j:Rat)) (fun j=>(((B i j*(P:Rat)).num:Int):Rat))=dot (n+1) (fun j=>(y j:Rat)) (fun j=>(P:Rat)*B i j):=Qac _ _ _ _ _ (fun j _=>by rw[<-(l i j q).1,Rat.mul_comm (B i j)]);rw[I,Giv.d_mul] at g;have R:dot (n+1) (fun j=>(y j:Rat)) (fun j=>B i j)=0:=by
   rcases Rat.mul_eq_zero.1 g.symm with A|A
   . exact absurd A F
   . exact A
  rw[Giv.dc] at R;have A:dot n (B i) (fun j=>(y j:Rat))+B i n*(y n:Rat)=0:=R;have h6:B i n= -(s.getD i 0):=by rw[hB];exact if_neg (Nat.lt_irrefl n)
  rw[h6] at A;grind
 have o:∀(i:Nat) (r:Vec) (v:Rat),M[i]?=some r->s[i]?=some v->dot n r (fun j=>(y j:Rat))=v*(y n:Rat):=fun i r v t d=>by
  have q:i<n:=by have:=(gZ t).1;omega
  have f:=w i q;rw[show s.getD i 0=v by rw[List.getD_eq_getElem?_getD,d];rfl] at f;rw[<-f];refine Qac _ _ _ _ _ (fun j k=>?_);rw[hB]
  show r j*_=(if j<n then _ else _)*_
  rw[if_pos k,show M.getD i (fun _=>0)=r by rw[List.getD_eq_getElem?_getD,t];rfl]
 have J:y n≠0:=fun S=>by
  have K:Sol n M s (fun j=>x j+(y j:Rat)):=fun i r v t d=>by
   rw[Giv.d_add,W i r v t d,o i r v t d,S]
   show v+v*((0:Int):Rat)=v
   rw[Rat.intCast_zero];grind
  have f:∀j,j<n->y j=0:=fun j k=>by
   have g:=O _ K j k;have I:(y j:Rat)=0:=by
    have ab:x j+(y j:Rat)=x j:=g;grind
   exact Rat.intCast_inj.1 (by rw[I];rfl)
  rcases Nat.lt_or_ge G n with g|g
  . exact u (f G g)
  . obtain rfl:G=n:=by omega
    exact u S
 have p:(y n:Rat)≠0:=fun h=>J (Rat.intCast_inj.1 (by rw[h];rfl))
 have C:Sol n M s (fun j=>(y n:Rat)⁻¹*(y j:Rat)):=fun i r v t d=>by
  rw[Giv.d_mul,o i r v t d];have:=Rat.inv_mul_cancel _ p;grind
 have D:∀j,j<n->x j*(y n:Rat)=(y j:Rat):=fun j k=>by
  have f:=O _ C j k;rw[<-f];have:=Rat.inv_mul_cancel _ p;grind
 have L:=fun j=>Nat.le_trans (H j) X
 refine⟨(y n).natAbs,by omega,L n,fun j k=>?_⟩;rcases Int.natAbs_eq (y n) with f|f
 . refine⟨y j,?_,L j⟩
   rw[<-D j k,<-Rat.intCast_natCast,<-f]
 .
  refine⟨-(y j),?_,by rw[Int.natAbs_neg];exact L j⟩;rw[Rat.intCast_neg,<-D j k,<-Rat.intCast_natCast];have g:(((y n).natAbs:Int):Int)= -(y n):=by omega
  rw[g,Rat.intCast_neg];grind
section
variable {P b Q c N e:Nat} {js:List S2} {bs:List B6} {hs:List H3} {vb:List (Nat × Nat × Rat × Rat)} {vh:Vy} {cv ev bv a m:Vec}
theorem GivP.over(h:GivP P b Q c vb bs.length hs.length cv ev bv a)(q:FrV 1048576 js bs hs vb vh)(F:2*js.length=N)(M:2*b+2*c+12<=e)(g:Giv.Settles N bs.length (balM vb bs.length vh) cv ev (freeW vh) (hldM vh bv hs.length) a m)(s:∀J,Giv.Settles N bs.length (balM vb bs.length vh) cv ev (freeW vh) (hldM vh bv hs.length) a J->∀r,r<N->J r=m r):∃Y,0<Y/\Y<=2 ^ (20*e+120+c)/\∀r,r<N->Wh Y (20*e+120+c) (m r):=by
 obtain⟨d,f⟩:∃l,l=Giv.frs (freeW vh) N:=⟨_,rfl⟩;obtain⟨p,G⟩:∃p,p=Giv.putF bs.length (balM vb bs.length vh) (fun i=>cv i*(stretchV vb (hldM vh bv hs.length) i - ev i)):=⟨_,rfl⟩;have O:=q.b;have V:=q.j;have t:d.length<=20:=by rw[f];exact Nat.le_trans (Giv.frs_len _ _) (by omega)
 have u:d.Nodup:=by rw[f];exact List.Nodup.sublist List.filter_sublist List.nodup_range
 have H:∀i,i<d.length->d.getD i 0<N:=fun i n=>by
  have:d.getD i 0∈ d:=by rw[List.getD_eq_getElem?_getD,gE n];exact List.getElem_mem _
  rw[f] at this;rw[f];exact(Giv.frs_mem.1 this).1
 have w:∀r,freeW vh r=false->¬r∈ d:=fun r o K=>by
  rw[f] at K;have:=(Giv.frs_mem.1 K).2;rw[o] at this;cases this
 have x:=(Qb9 q F f G g.1).2 g;have z:∀y,Sol d.length (setRows d d.length (Giv.stf bs.length (balM vb bs.length vh) cv)) (setSums d d.length p a) y->∀i,i<d.length->y i=m (d.getD i 0):=fun y R i n=>by
  have A:=(Qb9 (m:=motTo d y (hldM vh bv hs.length) d.length) q F f G (fun r _ o=>Qdt (w r o) _ lZ)).1 (R.congr (fun i n=>(Qbi u _ lZ n).symm));rw[<-s _ A _ (H i n),Qbi u _ lZ n]
 have B:0<P*(Q*(P*Q)):=Nat.mul_pos h.fr.pos (Nat.mul_pos h.pos (Nat.mul_pos h.fr.pos h.pos));have S:(2*((d.length+1)*2 ^ e)) ^ d.length<=2 ^ (20*e+120):=by
  have W:(2:Nat) ^ 6=64:=by decide
  have A:(d.length+1)*2 ^ e<=21*2 ^ e:=Nat.mul_le_mul_right _ (by omega);have T:2*((d.length+1)*2 ^ e)<=2 ^ (6+e):=by rw[Nat.pow_add];omega
  have L:=Nat.pow_le_pow_left T d.length;rw[<-Nat.pow_mul] at L;refine Nat.le_trans L (Nat.pow_le_pow_right (by decide) ?_);have:=Nat.mul_le_mul_left (6+e) t;omega
 obtain⟨Y,y1,y2,y3⟩:=Qo1 (e:=e) (E:=20*e+120) B (by simp[setRows]) (by simp[setSums]) (fun i r D j=>by
  obtain⟨k,_,rfl⟩:=List.mem_map.1 (mO D);unfold partV
  split
  . exact(h.stf O _ _).mono (by omega)
  . exact Wh.zero _ _) (fun i v I=>by
  obtain⟨k,_,rfl⟩:=List.mem_map.1 (mO I)
  exact(h.sum q F G d k).mono M) x z S
 refine⟨Y*Q,Nat.mul_pos y1 h.pos,by rw[Nat.pow_add];exact Nat.mul_le_mul y2 h.le,fun r D=>?_⟩;cases o:freeW vh r with
 |false=>
  rw[g.1 r D o];exact((h.hld hs.length lZ r).wide y2).to (Nat.mul_comm _ _) (by omega)
 |true=>
  have C:r∈ d:=by rw[f];exact Giv.frs_mem.2 ⟨D,o⟩
  obtain⟨i,n,U⟩:=List.getElem_of_mem C;have A:=y3 i n;rw[show d.getD i 0=r by rw[List.getD_eq_getElem?_getD,gE n,U];rfl] at A;exact A.wide h.le
theorem Qo2{Y K:Nat}(g:0<Q)(d:Q<=2 ^ c)(h:0<Y)(f:Y<=2 ^ K)(j:N<=32)(k:∀i,Wh Q c (a i))(l:∀r,r<N->Wh Y K (m r)):Fits (dot N a m) (c+K+6):=
 (Qcu j (fun i n=>(k i).mul (l i n))).fits (Nat.mul_pos g h) (by
   rw[Nat.pow_add,Nat.pow_add]
   exact Nat.le_trans (Nat.mul_le_mul d f) (Nat.le_mul_of_pos_right _ (by decide)))
end
theorem Qii(a1 a2 a3 bd:Vx)(c1 c2 c3 ct N v B:Nat)(js:List S2)(q:List B6)(hs:List H3)(vb:List (Nat × Nat × Rat × Rat))(vh:Vy)(C ev bv t:Vec)(tb:Vt)(w:Vz)(h:GivV w a1 a2 a3 c1 c2 c3 N js q hs vb vh C ev bv)(hz:FrSized js q hs)(be:FrameFault js q hs 0 0)(hr:CRow w bd (textsV tb))(hl:tb.length=q.length)(hq:∀(i:Nat) (s:Vs),tb[i]?=some s->QOf s.data.toList (t i)/\s.size<=1073741824/\Fits (t i) v)(hf:Rat)(bf:QOf [49,47,50] hf)(bh:0<v)(bi:B=v+v+4194305)(f:24*(B+1)+100<68719476000):
 Calls prog 19 #[.agg #[.slice a1 js.length c1,.slice a2 q.length c2,.slice a3 hs.length c3],.slice bd q.length ct] w (fun e w'=>(∃s:Vs,e=.returned (.tuple #[.string s,.agg #[.int .i64 0,.int .i64 0]])/\QText s.data.toList (dot q.length t (fun i=>t i / C i)*hf))/\Below w.heap.size w w'):=by
 obtain⟨HG,HZ,b5,HR,HL,HQ,HK⟩:=If h hz be hr hl hq (And.intro bh (And.intro bi f));have n2:=h.fv.b;have b6:=Hi bf;clear h hz be hr hl hq bh bi f bf;obtain⟨B0,ae⟩:=nm w.heap.size;obtain⟨V0,M⟩:=nm ((w.alloc (.cells #[.slice a1 js.length c1,.slice a2 q.length c2,.slice a3 hs.length c3] 26)).alloc (.cells #[.int .i64 0,.int .i64 0] 41));have F:=Ub M;have am:=Ug M ae;have an:O (SB V0 (B0+1) 41 #[.int .i64 0,.int .i64 0]):=Hi (by rw[<-M,<-ae];exact Qa1 w _ _ _);obtain⟨af,b7⟩:=Ia M ae
 have bj:=Hi (Qha a1 a2 a3 c1 c2 c3 js q hs V0 (HG.o.gl.below F.o) (HG.o.fr.below F.o) HZ.o b5.o);have bk:w.heap.size<=B0+1:=by omega
 clear M ae;go_enter func19,ntmps19;go_wp2_with fail;rw[af.o,b7.o];clear af;go_fit bj.o;rintro e w1 ⟨rfl,ap⟩;obtain⟨P,D⟩:=nm (w1.alloc (.cells #[.int .i64 0,.int .i64 0] 41));have H:Bl V0 P:=by rw[<-D];exact ap.alloc ap.size _
 have k0:P.cell? ⟨w1.heap.size,0,none⟩=some (.int .i64 0):=by rw[<-D];exact(SB.new w1 _ _).cell 0
 obtain⟨aq,bl⟩:=Ia (am.o.below H am.o.lt) (an.o.below H an.o.lt);have x1:P.cell? ⟨B0,1,none⟩=some (.slice a2 q.length c2):=by
  have h:=aq.o.cell 1
  simpa using h
 have I:=Hi (F.o.trans (H.mono F.o.size));obtain⟨V,hV⟩:=nm (P.alloc (.cells #[.bool false,.slice none 0 0,.slice none 0 0] 107));have ar:Bl P V:=by rw[<-hV];exact(Below.refl _ _).alloc lZ _
 have x2:V.cell? ⟨B0,1,none⟩=some (.slice a2 q.length c2):=by
  have h:=(aq.o.below ar aq.o.lt).cell 1
  simpa using h
 have al:O (FB 0 1 V P.heap.size):=Hi ⟨_,_,_,by rw[<-hV];exact SB.new P _ _,FF.zero _⟩;have bm:=Hi ar;rw[<-hV,<-D] at x2;rw[<-D] at x1 k0;obtain⟨af,b8⟩:=Ia hV D;have bn:P.heap.size=w1.heap.size+1:=by rw[<-D];exact World.size_alloc _ _
 clear hV D ar H ap bj am an;go_wp2_with fail
 try rw[b8.o]
 try rw[af.o]
 obtain⟨G,hG⟩:=nm (w1.heap.size+1);have bp:=Hi (bn.trans hG);rw[bp.o] at al;simp only[hG];clear x1 x2 k0 hG bn;go_loopw [29] (fun iv wr=>∃k:Nat,k<=q.length/\iv=.int .i64 k/\FB (dot k t (fun i=>t i / C i)) (k*(B+1)+1) wr G/\Below P.heap.size P wr) (fun iv _=>q.length - (intOf iv).toNat)
 case atStart=>exact⟨0,by omega,rfl,by simpa [dot] using al.o,bm.o⟩
 case round=>
  obtain⟨k,hk,rfl,bq,d⟩:=hrel;obtain⟨HB,au,ag⟩:=Ib d bq (I.o.trans (d.mono I.o.size));clear d bq;by_cases b9:k<q.length
  .
   obtain⟨b,av⟩:∃b,q[k]?=some b:=⟨q[k],gE b9⟩;obtain⟨s,aw⟩:∃s,tb[k]?=some s:=⟨tb[k]'(by have:=HL.o;omega),gE _⟩;obtain⟨bb,bo,rfl,ck,e0,e1,e2,e3,e4,e5⟩:=(HG.o.fr.b.below ag.o).bar av;obtain⟨ab,ao,rfl,cb,t0⟩:=(HR.o.below ag.o).cell k (.string s) (by unfold textsV;rw[List.getElem?_map,aw];rfl);obtain⟨br,ax⟩:=Ia (HG.o.ce k b av) (HQ.o k s aw);obtain⟨X,hX⟩:=nm (wr.alloc (.cells #[.int .i64 b.a,.int .i64 b.b,.string b.c,.string b.e,.string b.l,.string b.m] 84));have ah:Bl wr X:=by rw[<-hX];exact(Below.refl _ _).alloc lZ _
   have A:=Uc hX;have t1:X.cell? ⟨ab,ao+k,none⟩=some (.string s):=ce ah cb t0;rw[<-hX] at t1;obtain⟨Q,bt⟩:=Ia ah hX;have q1:((k:Int)<(q.length:Int)):=by omega
   have bu:=Hi (FF.ofFits (w:=X) (HG.o.gl.below (ag.o.trans (ah.mono ag.o.size))) ax.o.1 ax.o.2.1 ax.o.2.2 HK.o.1);clear hX ah av aw;go_wp2_with fail;rw[bt.o];clear e0 e1 e2 e3 e4 e5 t0 t1;refine Makes.use bu.o ?_;intro v4 w4 d hv;obtain⟨x',y',z',rfl⟩:=hv.parts;obtain⟨o1,o2,o3⟩:=hv.1.one;have ay:=Qaa prog o1;have az:=Qaa prog o2;have a0:=Qaa prog o3;obtain⟨U,hU⟩:=nm (w4.alloc (.cells #[x',y',z'] 107));have ai:Bl w4 U:=by rw[<-hU];exact(Below.refl _ _).alloc lZ _
   have a4:=Uc hU;have cc:=Hi (hv.below ai);have bw:Bl wr U:=(Q.o.trans (d.mono Q.o.size)).trans (ai.mono (Q.o.trans (d.mono Q.o.size)).size);obtain⟨R,J,cd⟩:=Ib ((A.o.below d A.o.lt).below ai (A.o.below d A.o.lt).lt) bw hU;clear d hv o1 o2 o3 ai bw hU A Q bt bu;go_wp2_with fail
   try rw[cd.o]
   obtain⟨X0,a5⟩:=nm wr.heap.size;obtain⟨T0,a6⟩:=nm w4.heap.size;rw[a5] at R;rw[a6] at a4
   try rw[a5]
   try rw[a6]
   clear ay az a0;have r:Bl U U.drew:=bR.drew;obtain⟨x,y,z,u,S⟩:=au.o.below (J.o.trans (r.mono J.o.size));obtain⟨a7,T,W,Y,Z⟩:=Id S u (u.cell 0) (u.cell 1) (u.cell 2);simp only[List.getElem?_toArray,List.getElem?_cons_zero,List.getElem?_cons_succ] at W Y Z;have aa:=Hi (a4.o.below r a4.o.lt);obtain⟨a8,a9,ba⟩:=Ib (aa.o.cell 0) (aa.o.cell 1) (aa.o.cell 2);simp only[List.getElem?_toArray,List.getElem?_cons_zero,List.getElem?_cons_succ] at a8 a9 ba;have bx:=Hi (R.o.below r R.o.lt);have bz:=Hi (bx.o.cell 2);simp only[List.getElem?_toArray,List.getElem?_cons_zero,List.getElem?_cons_succ] at bz;obtain⟨b0,L⟩:=Ia (cc.o.below r) (HB.o.trans ((J.o.trans (r.mono J.o.size)).mono HB.o.size))
   obtain⟨g,b1⟩:=Ia (I.o.trans (L.o.mono I.o.size)) (au.o.below (J.o.trans (r.mono J.o.size)));have ad:k*(B+1)+1+B<68719476000:=by
    have:=HK.o;have h2:(k+1)*(B+1)<=24*(B+1):=Nat.mul_le_mul_right _ (by omega);rw[Nat.succ_mul] at h2;omega
   have aj:=Hi ad;have b2:O (v+v<68719476000/\v+v+4194305<68719476000):=Hi (by have:=HK.o;omega);have cf:O (k*(B+1)+1+(v+v+4194305)<68719476000):=Hi (by have h1:=aj.o;have h2:=HK.o.2.1;omega);clear u S r ad a5 a6;refine RegG.bg 9 (fun j=>some (39+j)) ?_;refine RegG.pu (c:=?_) [] (fun w d=>?_) ?_;rotate_left
   .
    intro K f;obtain⟨d0,d1,d2⟩:=Jb d T.o.lt W.o Y.o Z.o;go_simp;exact f
   refine RegG.pu (c:=?_) [] (fun w d=>?_) ?_;rotate_left
   .
    intro K f;obtain⟨d0,d1,d2⟩:=Jb d aa.o.lt a8.o a9.o ba.o;go_simp;exact f
   refine RegG.pu (c:=?_) [] (fun w d=>?_) ?_;rotate_left
   .
    intro K f;obtain⟨d0,d1,d2⟩:=Jb d aa.o.lt a8.o a9.o ba.o;go_simp;exact f
   refine RegG.ca (φ:=FF (t k*t k) (v+v)) [1,2] (FF.stays _ _) (fun w d=>?_) ?_
   .
    intro K f;go_simp;exact Makes.use ((b0.o.below d).times (b0.o.below d) b2.o.1) f
   refine RegG.pu (c:=?_) [] (fun w d=>?_) ?_;rotate_left
   .
    intro K f;go_simp;exact f
   refine RegG.pu (c:=?_) [4] (fun w d=>?_) ?_;rotate_left
   .
    intro K f;have d2:=ce d bx.o.lt bz.o;go_simp;exact f
   refine RegG.ca (φ:=FF (C k) 4194305) [5] (FF.stays _ _) (fun w d=>?_) ?_
   .
    intro K f;go_simp;exact Makes.use (FF.of (HG.o.gl.below (g.o.trans (d.mono g.o.size))) br.o.1 br.o.2.2.1 (by decide) (by decide)) f
   refine RegG.ca (φ:=FF (t k*t k / C k) (v+v+4194305)) [3,6] (FF.stays _ _) (fun w d=>?_) ?_
   .
    intro v3 h3 v6 h6;intro K f;go_simp;exact Makes.use (h3.over h6 b2.o.2) f
   refine RegG.ca (φ:=FF (dot k t (fun i=>t i / C i)+t k*t k / C k) (k*(B+1)+1+(v+v+4194305)+1)) [0,7] (FF.stays _ _) (fun w d=>?_) ?_
   .
    intro v7 h7;intro K f;go_simp;exact Makes.use ((a7.o.below d).plus h7 cf.o) f
   refine RegG.last (by simp only[List.nil_append,List.cons_append,List.length_append,List.length_cons,List.length_nil,Nat.reduceAdd]) (by rfl) (by rfl) (by kernel_rfl) (fun x2 d=>?_);simp only[FinG,List.nil_append,List.cons_append,Qad,Act.put,List.setIfInBounds_toArray,List.set_cons_zero,List.set_cons_succ,Nat.reduceAdd,Nat.reduceBEq,cond_true,cond_false];intro v3 _ v6 _ v7 _ v8 h8 K f;obtain⟨x',y',z',rfl⟩:=h8.parts;obtain⟨o1,o2,o3⟩:=h8.1.one;have ay:=Qaa prog o1;have az:=Qaa prog o2;have a0:=Qaa prog o3;have E:=T.o.below d T.o.lt;have f0:=E.free 0;have f1:=E.free 1;have f2:=E.free 2;have c0:=E.cell 0;have c1:=E.cell 1;have c2:=E.cell 2;simp only[List.getElem?_toArray,List.getElem?_cons_zero,List.getElem?_cons_succ] at c0 c1 c2;obtain⟨b3,bc⟩:=Ia ((b1.o.below d).set h8) (L.o.trans (d.mono L.o.size));clear o1 o2 o3 E h8 d
   go_simp;refine f _ _ ?_;clear f c0 c1 c2 f0 f1 f2 ay az a0;go_wp2;go_roundw
   case rel=>
    have ho:=((((Only.refl G x2).setCell 0 x').setCell 1 y').setCell 2 z');refine⟨k+1,by omega,by go_num,?_,Only.fresh bc.o ho (Nat.le_of_eq bp.o)⟩;have e1:dot (k+1) t (fun i=>t i / C i)=dot k t (fun i=>t i / C i)+t k*t k / C k:=by
     show dot k t (fun i=>t i / C i)+t k*(t k / C k)=_
     rw[Rat.div_def,Rat.div_def,Rat.mul_assoc]
    rw[e1,show (k+1)*(B+1)+1=k*(B+1)+1+(v+v+4194305)+1 by rw[Nat.succ_mul,HK.o.2.1];omega];exact b3.o
   case measure=>simp[intOf];omega
  .
   obtain rfl:k=q.length:=by omega
   have r:Bl wr wr.drew:=bR.drew;obtain⟨x,y,z,u,S⟩:=au.o.below r;obtain⟨a7,T,W,Y,Z⟩:=Id S u (u.cell 0) (u.cell 1) (u.cell 2);simp only[List.getElem?_toArray,List.getElem?_cons_zero,List.getElem?_cons_succ] at W Y Z;have L:=Hi (HB.o.trans (r.mono HB.o.size));obtain⟨g,b4⟩:=Ia (I.o.trans (L.o.mono I.o.size)) (bl.o.below L.o bl.o.lt);have ad:q.length*(B+1)+1+13<68719476000:=by
    have:=HK.o;have h2:q.length*(B+1)<=24*(B+1):=Nat.mul_le_mul_right _ n2;omega
   have aj:=Hi ad;have cg:O (q.length*(B+1)+1+13<=274877906944):=Hi (by have:=aj.o;omega);clear u S r ad;go_wp2_with fail;refine RegG.bg 6 (fun j=>some (bif j == 5 then 4 else 49+j)) ?_;refine RegG.pu (c:=?_) [] (fun w d=>?_) ?_;rotate_left
   .
    intro K f;obtain⟨d0,d1,d2⟩:=Jb d T.o.lt W.o Y.o Z.o;go_simp;exact f
   refine RegG.ca (φ:=FF hf 13) [] (FF.stays _ _) (fun w d=>?_) ?_
   .
    intro K f;go_simp;exact Makes.use (FF.of (HG.o.gl.below (g.o.trans (d.mono g.o.size))) b6.o (n:=3) (by decide) (by decide) (by decide)) f
   refine RegG.ca (φ:=FF (dot q.length t (fun i=>t i / C i)*hf) (q.length*(B+1)+1+13)) [0,1] (FF.stays _ _) (fun w d=>?_) ?_
   .
    intro v1 h1;intro K f;go_simp;exact Makes.use ((a7.o.below d).times h1 aj.o) f
   refine RegG.ca (φ:=TF (dot q.length t (fun i=>t i / C i)*hf)) [2] (TF.stays _) (fun w d=>?_) ?_
   .
    intro v2 h2;intro K f;go_simp;exact Makes.use (FF.text (HG.o.gl.below (g.o.trans (d.mono g.o.size))) h2 cg.o) f
   refine RegG.pu (c:=?_) [] (fun w d=>?_) ?_;rotate_left
   .
    intro K f;go_simp;exact f
   refine RegG.ca (φ:=TF (dot q.length t (fun i=>t i / C i)*hf)) [3] (TF.stays _) (fun w d=>?_) ?_
   .
    intro v1 h1 K f;go_simp;exact f _ _ bR h1
   refine RegG.last (by simp only[List.nil_append,List.cons_append,List.length_append,List.length_cons,List.length_nil,Nat.reduceAdd]) (by rfl) (by rfl) (by kernel_rfl) (fun x2 d=>?_);simp only[FinG,List.nil_append,List.cons_append,Qad,Act.put,List.setIfInBounds_toArray,List.set_cons_zero,List.set_cons_succ,Nat.reduceAdd,Nat.reduceBEq,cond_true,cond_false];intro v1 _ v2 _ v3 _ v5 h5 K f;obtain⟨s,rfl,hs⟩:=h5;obtain⟨ch,ak,bc⟩:=Ib hs (b4.o.below d b4.o.lt) (g.o.trans (d.mono g.o.size));obtain⟨y2,y3,-⟩:=zc ak.o;have ci:x2.frozen? ⟨B0+1,0,none⟩=false:=ak.o.free 0;have cj:x2.frozen? ⟨B0+1,1,none⟩=false:=ak.o.free 1;clear d hs;go_simp;refine f _ _ ?_;clear f y2 y3 ci cj;go_wp2
   refine bodyPost_ret (Qbk rfl _ _ (B0+1) 41 #[.int .i64 0,.int .i64 0] (0,0) _ rfl ((ak.o.set 0 _).set 1 _) underlying41 rfl Tryz.faultInfo) rfl ?_;exact⟨⟨s,rfl,ch.o⟩,(bc.o.setCell (p:=⟨B0+1,0,none⟩) bk _).setCell (p:=⟨B0+1,1,none⟩) bk _⟩
theorem Qo3(u v:Vec)(p:Nat × Rat × Rat):agnStep (fun i=>u i+v i) p=fun i=>u i+agnStep v p i:=funext fun i=>by
 by_cases a:i=2*p.1
 . rw[a,agn_x,agn_x]
   grind
 .
  by_cases b:i=2*p.1+1
  . rw[b,agn_y,agn_y]
    grind
  . rw[Qc8 a b,Qc8 a b]
theorem Qij:∀(vs:List (Nat × Rat × Rat)) (u v:Vec),vs.foldl agnStep (fun i=>u i+v i)=fun i=>u i+vs.foldl agnStep v i
 | [],u,v=>rfl
 |p :: vs,u,v=>by
  rw[List.foldl_cons,Qo3,Qij vs u (agnStep v p)];rfl
theorem Qo4(a b:List (Nat × Rat × Rat)):agn (a++b)=fun i=>agn a i+agn b i:=by
 unfold agn;rw[List.foldl_append];generalize a.foldl agnStep (fun _=>0)=u;have e:u=fun i=>u i+(fun _=>(0:Rat)) i:=funext fun i=>by show u i=u i+(0:Rat);grind
 have h:=Qij b u (fun _=>0);rw[<-e] at h;exact h
theorem IsDec.lenG{d:Vu}{n K:Nat}(h:IsDec d n)(b:n<2 ^ K):d.length<=K / 3+1:=by
 have a:n<10 ^ (K / 3+1):=Nat.lt_of_lt_of_le b (Nat.le_trans (Nat.pow_le_pow_right (by decide) (show K<=3*(K / 3+1) by omega)) (by rw[Nat.pow_mul];exact Nat.pow_le_pow_left (by decide) _));rcases h with ⟨_,rfl⟩|⟨_,e,c,rfl⟩
 . simp
 . have:=c.length_le_of_lt (k:=K / 3+1) (by decide) a
   simpa using this
theorem QText.lenG{s:Vs}{q:Rat}{K:Nat}(h:QText s.data.toList q)(a:Fits q K):s.size<=2*(K / 3)+4:=by
 obtain⟨m,⟨k,hk,rfl⟩,h⟩:=h;have e:=hk.lenG a.1;have f:(if q.num<0 then 45 :: k else k).length<=k.length+1:=by split<;>simp
 have b:s.data.toList.length=s.size:=by simp
 rcases h with ⟨_,h⟩|⟨_,d,c,h⟩
 . rw[h] at b;omega
 .
  have g:=c.lenG a.2;rw[h,List.length_append,List.length_cons] at b;omega
theorem qtext_half:QText [49,47,50] (1 / 2):=by
 have b:(1 / 2:Rat).num=1:=by kernel_rfl
 have a:(1 / 2:Rat).den=2:=by kernel_rfl
 refine⟨[49],?_,.inr ⟨by rw[a];decide,[50],?_,rfl⟩⟩
 . rw[b]
   exact⟨[49],.inr ⟨by decide,[1],⟨by simp[Small],by simp[Trim],by simp[val]⟩,by decide⟩,by decide⟩
 . rw[a]
   exact .inr ⟨by decide,[2],⟨by simp[Small],by simp[Trim],by simp[val]⟩,by decide⟩
theorem Qo5:(prog.info? 84).map (fun i=>(i.zero,i.size,i.bytes))=some (some (.agg #[.int .i64 0,.int .i64 0,.string ⟨#[]⟩,.string ⟨#[]⟩,.string ⟨#[]⟩,.string ⟨#[]⟩]),6,80):=by kernel_rfl
theorem Qo6:(prog.info? 86).map (fun i=>(i.zero,i.size,i.bytes))=some (some (.agg #[.int .i64 0,.int .i64 0,.string ⟨#[]⟩]),3,32):=by kernel_rfl
theorem Qik:(prog.info? 36).map (fun i=>(i.zero,i.size,i.bytes))=some (some (.agg #[.int .i64 0,.string ⟨#[]⟩,.string ⟨#[]⟩]),3,40):=by kernel_rfl
def AnyV:Value->Prop:=fun _=>True
def LAt{α:Type}(c:α->List Value)(t:Vr)(w:Vz)(B:Nat)(a:Vx)(cap:Nat)(es:List α):Prop:=
 es.length<=cap/\((a=none/\es= [])∨∃(g:Nat) (C:Vw),a=some ⟨g,0,none⟩/\B<=g/\SB w g t C/\∀(j:Nat) (u:Value),(es.flatMap c)[j]?=some u->C[j]?=some u)
section
variable {α:Type} {c:α->List Value} {t:Vr} {w w':Vz} {B cap:Nat} {a:Vx} {es:List α}
theorem LAt.row(h:LAt c t w B a cap es):ARow c w a cap es:=by
 obtain⟨b,⟨rfl,rfl⟩|⟨g,C,rfl,_,d,e⟩⟩:=h
 . exact⟨b,⟨fun i u f=>by simp at f⟩⟩
 . exact⟨b,⟨fun j u k=>⟨g,0,rfl,d.lt,by rw[Nat.zero_add,d.cell];exact e j u k⟩⟩⟩
theorem LAt.below(h:LAt c t w B a cap es)(e:Bl w w'):LAt c t w' B a cap es:=by
 obtain⟨b,h|⟨g,C,rfl,f,d,i⟩⟩:=h
 . exact⟨b,.inl h⟩
 . exact⟨b,.inr ⟨g,C,rfl,f,d.below e d.lt,i⟩⟩
theorem LAt.only{k:Nat}{d:Vr}{D:Vw}(h:LAt c t w B a cap es)(i:Only k w w')(j:SB w k d D)(b:t≠d):LAt c t w' B a cap es:=by
 obtain⟨e,h|⟨g,C,rfl,l,f,m⟩⟩:=h
 . exact⟨e,.inl h⟩
 . exact⟨e,.inr ⟨g,C,rfl,l,f.only i (f.unlike j b),m⟩⟩
theorem LAt.mono{B':Nat}(h:LAt c t w B a cap es)(hB:B'<=B):LAt c t w B' a cap es:=by
 obtain⟨b,h|⟨g,C,rfl,d,e,f⟩⟩:=h
 . exact⟨b,.inl h⟩
 . exact⟨b,.inr ⟨g,C,rfl,Nat.le_trans hB d,e,f⟩⟩
theorem LAt.of{sz n:Nat}{K:Value->Prop}{v:Value}(h:Grow w B t sz K v n (es.flatMap c))(f:es.length=n):∃a cap,v=.slice a n cap/\LAt c t w B a cap es:=by
 obtain⟨o,⟨rfl,rfl⟩|⟨g,cap,d,rfl,i,k,l,_,_,m⟩⟩:=h.own
 . exact⟨none,0,rfl,by omega,.inl ⟨rfl,List.length_eq_zero_iff.1 f⟩⟩
 .
  refine⟨_,cap,rfl,by omega,.inr ⟨g,d,rfl,i,k,fun j u b=>?_⟩⟩;rw[<-m] at b;have e:j<n*sz:=by
   have:=(gZ b).1;rw[List.length_take] at this;omega
  rw[List.getElem?_take_of_lt e] at b
  simpa using b
theorem Qil{sz:Nat}(f:∀e,(c e).length=sz):∀(es:List α) (i:Nat) (e b:α) (d:Nat) (v:Value),es[i]?=some e->d<sz->(c e).set d v=c b->(es.set i b).flatMap c=(es.flatMap c).set (i*sz+d) v
 | [],i,e,b,d,v,h,_,_=>by cases h
 |t :: l,0,e,b,d,v,h,hd,he=>by
  obtain rfl:=Option.some.inj h;simp only[List.set_cons_zero,List.flatMap_cons,Nat.zero_mul,Nat.zero_add];rw[<-he,List.set_append_left _ _ (by rw[f];exact hd)]
 |t :: l,i+1,e,b,d,v,h,hd,he=>by
  have g:=Qil f l i e b d v h hd he;simp only[List.set_cons_succ,List.flatMap_cons];rw[g,List.set_append_right _ _ (by rw[f,Nat.succ_mul];omega)]
  congr 2
  rw[f,Nat.succ_mul];omega
theorem LAt.set{sz i d:Nat}{e k:α}{v:Value}(l:∀e,(c e).length=sz)(h:LAt c t w B a cap es)(m:es[i]?=some e)(s:d<sz)(y:(c e).set d v=c k):∃g:Nat,a=some ⟨g,0,none⟩/\B<=g/\(∃C,SB w g t C)/\(∃u,w.cell? ⟨g,i*sz+d,none⟩=some u)/\LAt c t (w.setCell ⟨g,i*sz+d,none⟩ v) B a cap (es.set i k)/\Only g w (w.setCell ⟨g,i*sz+d,none⟩ v):=by
 obtain⟨z,⟨rfl,rfl⟩|⟨g,C,rfl,x,n,o⟩⟩:=h
 . cases m
 .
  refine⟨g,rfl,x,⟨C,n⟩,?_,⟨by simpa using z,.inr ⟨g,C.setIfInBounds (i*sz+d) v,rfl,x,n.set _ _,fun j u f=>?_⟩⟩,(Only.refl g w).setCell _ _⟩
  . obtain⟨u,A⟩:∃u,(c e)[d]?=some u:=⟨_,gE (by rw[l];exact s)⟩
    exact⟨u,by rw[n.cell];exact o _ u (Qbr l es i e d u m A)⟩
  .
   rw[Qil l es i e k d v m s y,List.getElem?_set] at f;rw[Array.getElem?_setIfInBounds]
   split at f
   .
    rename_i b;subst b
    split at f
    .
     rename_i hl;obtain⟨p,q⟩:∃p,(es.flatMap c)[i*sz+d]?=some p:=⟨_,gE hl⟩;have r:=(Array.getElem?_eq_some_iff.1 (o _ p q)).1;rw[if_pos rfl,if_pos r];exact f
    . cases f
   .
    rename_i b;rw[if_neg b];exact o j u f
end
theorem Qdu{α:Type}{c:α->List Value}{sz:Nat}{w:Vz}{cap:Nat}{es:List α}(d:∀e,(c e).length=sz)(f:0<sz)(h:ARow c w none cap es):es= []:=by
 cases es with
 |nil=>rfl
 |cons r l=>
  obtain⟨b,g,e,_⟩:=h.at d f (i:=0) (e:=r) rfl;cases e
theorem Qo7(a:Vx)(cap:Nat)(es:List B6)(w:Vz)(h:ARow B6.cells w a cap es)(hl:es.length<=1048576):
 Calls prog 78 #[.slice a es.length cap] w fun e w'=>(∃v,e=.returned v/\Grow w' w.heap.size 84 6 AnyV v es.length (es.flatMap B6.cells))/\Below w.heap.size w w':=by
 obtain⟨F,p,f,g,hz2⟩:=info_parts Qo5;have G:∀(w:Vz) (a:Vx) (n c n' q:Nat),(binOp .eql 23 (.slice a n c) (.slice none n' q)).run prog w=.ok (.bool a.isNone) w:=fun w a n c n' q=>Lib.run_eql_slice_nil w _ _ a n c n' q underlying23
 have H:=Hi h;clear h;cases a with
 |none=>
  obtain rfl:=Qdu (sz:=6) (fun _=>rfl) (by decide) H.o;clear p f g hz2;go_enter func78,ntmps78;go_wp2;go_ret;exact⟨⟨_,rfl,Grow.nil _ _ _ _ _⟩,Below.refl _ _⟩
 |some ad=>
  obtain⟨W,hW⟩:=nm (w.alloc (.cells #[] 84));have d:Bl w W:=by rw[<-hW];exact(Below.refl _ _).alloc lZ _
  have i:Grow W w.heap.size 84 6 AnyV (.slice (some ⟨w.heap.size,0,none⟩) 0 0) 0 []:=by rw[<-hW];exact Grow.made w _ _ _
  obtain⟨I,w',r,l,m,s⟩:=i.app (P:=prog) (ty:=23) underlying23 p f g hz2 rfl (by decide) (fun _ _=>trivial) ad es.length cap (es.flatMap B6.cells) (Qas (sz:=6) (fun _=>rfl) es) (fun j u x=>by
   obtain⟨b,y,e,z,A⟩:=H.o.row.cell j u x;cases e;rw[Qao]
   exact ce d z A) (Qdo (fun e=>e.one) es) (fun _ _=>trivial) (by omega) (by decide) d.size
  rw[<-hW] at r;obtain⟨C,D,E⟩:=Ib r l (d.grown m d.size (fun k hk=>by simp[Value.ownBlock] at hk;omega));clear r l m s i d hW p f g hz2;go_enter func78,ntmps78;go_wp2_with (at_builtin;refine Qbl _ rfl _ _ 23 23 rfl (.slice (some ⟨w.heap.size,0,none⟩) 0 0) (.slice (some ad) es.length cap) _ _ rfl rfl C.o ?_);go_wp2;go_ret;refine⟨⟨_,rfl,?_⟩,E.o⟩;have:=D.o;rw[Nat.zero_add,List.nil_append] at this;exact this
theorem Qo8(a:Vx)(cap:Nat)(es:List H3)(w:Vz)(h:ARow H3.cells w a cap es)(hl:es.length<=1048576):
 Calls prog 79 #[.slice a es.length cap] w fun e w'=>(∃v,e=.returned v/\Grow w' w.heap.size 86 3 AnyV v es.length (es.flatMap H3.cells))/\Below w.heap.size w w':=by
 obtain⟨F,p,f,g,hz2⟩:=info_parts Qo6;have G:∀(w:Vz) (a:Vx) (n c n' q:Nat),(binOp .eql 24 (.slice a n c) (.slice none n' q)).run prog w=.ok (.bool a.isNone) w:=fun w a n c n' q=>Lib.run_eql_slice_nil w _ _ a n c n' q underlying24
 have H:=Hi h;clear h;cases a with
 |none=>
  obtain rfl:=Qdu (sz:=3) (fun _=>rfl) (by decide) H.o;clear p f g hz2;go_enter func79,ntmps79;go_wp2;go_ret;exact⟨⟨_,rfl,Grow.nil _ _ _ _ _⟩,Below.refl _ _⟩
 |some ad=>
  obtain⟨W,hW⟩:=nm (w.alloc (.cells #[] 86));have d:Bl w W:=by rw[<-hW];exact(Below.refl _ _).alloc lZ _
  have i:Grow W w.heap.size 86 3 AnyV (.slice (some ⟨w.heap.size,0,none⟩) 0 0) 0 []:=by rw[<-hW];exact Grow.made w _ _ _
  obtain⟨I,w',r,l,m,s⟩:=i.app (P:=prog) (ty:=24) underlying24 p f g hz2 rfl (by decide) (fun _ _=>trivial) ad es.length cap (es.flatMap H3.cells) (Qas (sz:=3) (fun _=>rfl) es) (fun j u x=>by
   obtain⟨b,y,e,z,A⟩:=H.o.row.cell j u x;cases e;rw[Qao]
   exact ce d z A) (Qdo (fun e=>e.one) es) (fun _ _=>trivial) (by omega) (by decide) d.size
  rw[<-hW] at r;obtain⟨C,D,E⟩:=Ib r l (d.grown m d.size (fun k hk=>by simp[Value.ownBlock] at hk;omega));clear r l m s i d hW p f g hz2;go_enter func79,ntmps79;go_wp2_with (at_builtin;refine Qbl _ rfl _ _ 24 24 rfl (.slice (some ⟨w.heap.size,0,none⟩) 0 0) (.slice (some ad) es.length cap) _ _ rfl rfl C.o ?_);go_wp2;go_ret;refine⟨⟨_,rfl,?_⟩,E.o⟩;have:=D.o;rw[Nat.zero_add,List.nil_append] at this;exact this
theorem Qo9(a:Vx)(cap:Nat)(es:List L3)(w:Vz)(h:ARow L3.cells w a cap es)(hl:es.length<=1048576):
 Calls prog 29 #[.slice a es.length cap] w fun e w'=>(∃v,e=.returned v/\Grow w' w.heap.size 36 3 AnyV v es.length (es.flatMap L3.cells))/\Below w.heap.size w w':=by
 obtain⟨F,p,f,g,hz2⟩:=info_parts Qik;have G:∀(w:Vz) (a:Vx) (n c n' q:Nat),(binOp .eql 27 (.slice a n c) (.slice none n' q)).run prog w=.ok (.bool a.isNone) w:=fun w a n c n' q=>Lib.run_eql_slice_nil w _ _ a n c n' q underlying27
 have H:=Hi h;clear h;cases a with
 |none=>
  obtain rfl:=Qdu (sz:=3) (fun _=>rfl) (by decide) H.o;clear p f g hz2;go_enter func29,ntmps29;go_wp2;go_ret;exact⟨⟨_,rfl,Grow.nil _ _ _ _ _⟩,Below.refl _ _⟩
 |some ad=>
  obtain⟨W,hW⟩:=nm (w.alloc (.cells #[] 36));have d:Bl w W:=by rw[<-hW];exact(Below.refl _ _).alloc lZ _
  have i:Grow W w.heap.size 36 3 AnyV (.slice (some ⟨w.heap.size,0,none⟩) 0 0) 0 []:=by rw[<-hW];exact Grow.made w _ _ _
  obtain⟨I,w',r,l,m,s⟩:=i.app (P:=prog) (ty:=27) underlying27 p f g hz2 rfl (by decide) (fun _ _=>trivial) ad es.length cap (es.flatMap L3.cells) (Qas (sz:=3) (fun _=>rfl) es) (fun j u x=>by
   obtain⟨b,y,e,z,A⟩:=H.o.row.cell j u x;cases e;rw[Qao]
   exact ce d z A) (Qdo (fun e=>e.one) es) (fun _ _=>trivial) (by omega) (by decide) d.size
  rw[<-hW] at r;obtain⟨C,D,E⟩:=Ib r l (d.grown m d.size (fun k hk=>by simp[Value.ownBlock] at hk;omega));clear r l m s i d hW p f g hz2;go_enter func29,ntmps29;go_wp2_with (at_builtin;refine Qbl _ rfl _ _ 27 27 rfl (.slice (some ⟨w.heap.size,0,none⟩) 0 0) (.slice (some ad) es.length cap) _ _ rfl rfl C.o ?_);go_wp2;go_ret;refine⟨⟨_,rfl,?_⟩,E.o⟩;have:=D.o;rw[Nat.zero_add,List.nil_append] at this;exact this
def qBar(b:B6):B6:={ b with e:=⟨#[48]⟩ }
def qHold(h:H3):H3:={ h with q:=⟨#[48]⟩ }
def upTo{α:Type}(f:α->α)(k:Nat)(l:List α):List α:=(l.take k).map f++l.drop k
section
variable {α:Type} {f:α->α} {l:List α} {k:Nat} {e:α}
theorem Qim:upTo f 0 l=l:=by simp[upTo]
theorem Qin(h:k=l.length):upTo f k l=l.map f:=by subst h;simp[upTo]
theorem Qio(h:l[k]?=some e):(upTo f k l)[k]?=some e:=by
 have hk:=(gZ h).1;unfold upTo;rw[List.getElem?_append_right (by simp;omega),List.getElem?_drop];simp only[List.length_map,List.length_take];rw[show k+(k - min k l.length)=k by omega];exact h
theorem Qip(h:l[k]?=some e):(upTo f k l).set k (f e)=upTo f (k+1) l:=by
 have hk:=(gZ h).1;unfold upTo;rw[List.set_append_right _ _ (by simp;omega),List.take_add_one,h];simp only[List.length_map,List.length_take,Option.toList_some,List.map_append,List.map_cons,List.map_nil,List.append_assoc,List.singleton_append];rw[show k - min k l.length=0 by omega]
 congr 1
 rw[List.drop_eq_getElem_cons hk,List.set_cons_zero]
end
def GrF{α:Type}(c:α->List Value)(t:Vr)(sz B:Nat)(es:List α):Fact:=fun v w=>Grow w B t sz AnyV v es.length (es.flatMap c)
theorem GrF.stays{α:Type}(c:α->List Value)(t:Vr)(sz B:Nat)(a:List α):Stays (GrF c t sz B a):=fun _ _ _ b h=>Grow.below h b
theorem Qpa{a:Vx}{b B:Nat}{c:List B6}{w:Vz}(h:ARow B6.cells w a b c)(hl:c.length<=1048576)(hB:B<=w.heap.size):Calls prog 78 #[.slice a c.length b] w (Makes w (GrF B6.cells 84 6 B c)):=
 (Qo7 a b c w h hl).mono fun e j ⟨⟨v,d,g⟩,i⟩=>⟨v,d,i,Grow.mono g hB⟩
theorem Qpb{a:Vx}{b B:Nat}{c:List H3}{w:Vz}(h:ARow H3.cells w a b c)(hl:c.length<=1048576)(hB:B<=w.heap.size):Calls prog 79 #[.slice a c.length b] w (Makes w (GrF H3.cells 86 3 B c)):=
 (Qo8 a b c w h hl).mono fun e j ⟨⟨v,d,g⟩,i⟩=>⟨v,d,i,Grow.mono g hB⟩
def QuietSays(a1:Vx)(c1 nj:Nat)(bs:List B6)(hs:List H3)(w:Vz):Fact:=fun v w'=>∃(a2 a3:Vx) (c2 c3:Nat),v=.agg #[.slice a1 nj c1,.slice a2 (bs.map qBar).length c2,.slice a3 (hs.map qHold).length c3]/\LAt B6.cells 84 w' w.heap.size a2 c2 (bs.map qBar)/\LAt H3.cells 86 w' w.heap.size a3 c3 (hs.map qHold)
theorem Qpc(D Z a3:Vx)(c1 c2 c3:Nat)(E:List S2)(p:List B6)(q:List H3)(w:Vz)(hf:FrRow w D Z a3 c1 c2 c3 E p q)(n2:p.length<=1048576)(n3:q.length<=1048576):
 Calls prog 28 #[.agg #[.slice D E.length c1,.slice Z p.length c2,.slice a3 q.length c3]] w (Makes w (QuietSays D c1 E.length p q w)):=by
 have HF:=Hi hf;obtain⟨Y,B⟩:=nm w.heap.size;obtain⟨V,hV⟩:=nm (((w.alloc (.cells #[.slice D E.length c1,.slice Z p.length c2,.slice a3 q.length c3] 26)).alloc (.cells #[.slice none 0 0,.slice none 0 0,.slice none 0 0] 26)).drew);have x:O (Bl w V):=Hi (by rw[<-hV];exact(Below.new2 w _ _).drew);have y:O (SB V Y 26 #[.slice D E.length c1,.slice Z p.length c2,.slice a3 q.length c3]):=Hi (by rw[<-hV,<-B];exact(SB.new w _ _).alloc _);have N:O (SB V (Y+1) 26 #[.slice none 0 0,.slice none 0 0,.slice none 0 0]):=Hi (by rw[<-hV,<-B];exact Qa1 w _ _ _);obtain⟨P,Q⟩:=Ia (y.o.cell 1) (y.o.cell 2);simp only[List.getElem?_toArray,List.getElem?_cons_zero,List.getElem?_cons_succ] at P Q;obtain⟨R,S⟩:=Ia hV B;clear hf hV B;go_enter func28,ntmps28;go_wp2_with fail
 refine RegG.bg 7 (fun j=>some (bif j == 6 then 3 else 7+j)) ?_;rw[R.o,S.o];clear R;refine RegG.pu (c:=?_) [] (fun w a=>?_) ?_;rotate_left
 .
  intro K r;go_simp;exact r
 refine RegG.pu (c:=?_) [0] (fun w a=>?_) ?_;rotate_left
 .
  intro K r;have d0:=ce a y.o.lt P.o;go_simp;exact r
 refine RegG.ca (φ:=GrF B6.cells 84 6 V.heap.size p) [1] (GrF.stays _ _ _ _ _) (fun w a=>?_) ?_
 .
  intro K r;go_simp;exact Makes.use (Qpa ((HF.o.b.below x.o).below a) n2 a.size) r
 refine RegG.pu (c:=?_) [] (fun w a=>?_) ?_;rotate_left
 .
  intro K r;go_simp;exact r
 refine RegG.pu (c:=?_) [3] (fun w a=>?_) ?_;rotate_left
 .
  intro K r;have d0:=ce a y.o.lt Q.o;go_simp;exact r
 refine RegG.ca (φ:=GrF H3.cells 86 3 V.heap.size q) [4] (GrF.stays _ _ _ _ _) (fun w a=>?_) ?_
 .
  intro K r;go_simp;exact Makes.use (Qpb ((HF.o.h.below x.o).below a) n3 a.size) r
 refine RegG.ca (φ:=GrF B6.cells 84 6 V.heap.size p) [2] (GrF.stays _ _ _ _ _) (fun w a=>?_) ?_
 .
  intro v1 h1 K r;go_simp;exact r _ _ bR h1
 refine RegG.last (by simp only[List.nil_append,List.cons_append,List.length_append,List.length_cons,List.length_nil,Nat.reduceAdd]) (by rfl) (by rfl) (by kernel_rfl) (fun u a=>?_);simp only[FinG,List.nil_append,List.cons_append,Qad,Act.put,List.setIfInBounds_toArray,List.set_cons_zero,List.set_cons_succ,Nat.reduceAdd,Nat.reduceBEq,cond_true,cond_false];intro v2 _ v5 h5 v6 h6 K r;go_simp;refine r _ _ ?_;obtain⟨b2,d2,rfl,T⟩:=LAt.of h6 rfl;obtain⟨U,d3,rfl,W⟩:=LAt.of h5 rfl;obtain⟨aa,ab,ad⟩:=Ib T W a;clear r h5 h6 T W a;go_wp2_with fail;go_loopw [15] (fun F wr=>∃k:Nat,k<=p.length/\F=.int .i64 k/\LAt B6.cells 84 wr V.heap.size b2 d2 (upTo qBar k p)/\LAt H3.cells 86 wr V.heap.size U d3 q/\Below V.heap.size V wr) (fun F _=>p.length - (intOf F).toNat)
 case atStart=>exact⟨0,by omega,rfl,by rw[Qim];exact aa.o,ab.o,ad.o⟩
 case round=>
  obtain⟨k,hk,rfl,m,n,a⟩:=hrel;obtain⟨G,X⟩:=Ia n a;by_cases H:k<p.length
  .
   obtain⟨b,s⟩:∃b,p[k]?=some b:=⟨p[k],gE H⟩;obtain⟨g,rfl,I,⟨C,t⟩,⟨u0,ae⟩,i,v⟩:=m.set (sz:=6) (d:=3) (fun _=>rfl) (Qio s) (by decide) (show (B6.cells b).set 3 (.string ⟨#[48]⟩)=B6.cells (qBar b) from rfl);rw[Qip s] at i;have f0:=t.free (k*6+3);have z:=Hi i;have A:=Hi (n.only v t (by decide));have J:=Hi (Only.fresh a v I);have q1:((k:Int)<(p.length:Int)):=by omega
   clear m n a t i v s;go_wp2;go_roundw
   case rel=>exact⟨k+1,by omega,by go_num,z.o,A.o,J.o⟩
   case measure=>simp[intOf];omega
  .
   obtain rfl:k=p.length:=by omega
   rw[Qin rfl] at m;have L:=Hi m;clear m n a;go_wp2_with fail;go_loopw [25] (fun F wr=>∃k:Nat,k<=q.length/\F=.int .i64 k/\LAt H3.cells 86 wr V.heap.size U d3 (upTo qHold k q)/\LAt B6.cells 84 wr V.heap.size b2 d2 (p.map qBar)/\Below V.heap.size V wr) (fun F _=>q.length - (intOf F).toNat)
   case atStart=>exact⟨0,by omega,rfl,by rw[Qim];exact G.o,L.o,X.o⟩
   case round=>
    obtain⟨k,hk,rfl,n,m,a⟩:=hrel;obtain⟨L,X⟩:=Ia m a;by_cases H:k<q.length
    .
     obtain⟨b,s⟩:∃b,q[k]?=some b:=⟨q[k],gE H⟩;obtain⟨g,rfl,I,⟨C,t⟩,⟨u0,ae⟩,i,v⟩:=n.set (sz:=3) (d:=2) (fun _=>rfl) (Qio s) (by decide) (show (H3.cells b).set 2 (.string ⟨#[48]⟩)=H3.cells (qHold b) from rfl);rw[Qip s] at i;have f0:=t.free (k*3+2);have z:=Hi i;have A:=Hi (m.only v t (by decide));have J:=Hi (Only.fresh a v I);have q1:((k:Int)<(q.length:Int)):=by omega
     clear m n a t i v s;go_wp2;go_roundw
     case rel=>exact⟨k+1,by omega,by go_num,z.o,A.o,J.o⟩
     case measure=>simp[intOf];omega
    .
     obtain rfl:k=q.length:=by omega
     rw[Qin rfl] at n;have G:=Hi n;have hx:=y.o.below X.o y.o.lt;have M:=N.o.below X.o N.o.lt;have x0:wr.cell? ⟨Y,0,none⟩=some (.slice D E.length c1):=by
      have h:=hx.cell 0
      simpa using h
     obtain⟨y0,y1,y2,-⟩:=zc M;have f0:=M.free 0;have f1:=M.free 1;have f2:=M.free 2;have HY:=Hi M;clear m n a hx M;go_wp2;refine bodyPost_ret (results_cell_row rfl _ _ (Y+1) 26 #[.slice D E.length c1,.slice b2 p.length d2,.slice U q.length d3] (0,0) _ rfl (((HY.o.set 0 _).set 1 _).set 2 _) underlying26 rfl Tryz.frameInfo) rfl ?_;have ho:=(((Only.refl (Y+1) wr).setCell 0 (.slice D E.length c1)).setCell 1 (.slice b2 p.length d2)).setCell 2 (.slice U q.length d3)
     refine⟨_,rfl,Only.fresh (x.o.trans (X.o.mono x.o.size)) ho (by have:=S.o;omega),b2,U,d2,d3,by rw[List.length_map,List.length_map],(L.o.only ho HY.o (by decide)).mono x.o.size,(G.o.only ho HY.o (by decide)).mono x.o.size⟩
section
open Go Go.RowKit
structure RelOK (R:World→World→Prop):Prop where
 refl:∀w,R w w
 trans:∀{u v w},R u v→R v w→R u w
def StaysX(R:World→World→Prop)(φ:Fact):Prop:=∀v w w',R w w'→φ v w→φ v w'
theorem Is.staysX(R:World→World→Prop)(c:Value):StaysX R (Is c):=fun _ _ _ _ h=>h
def StepOX(R:World→World→Prop)(P:Program)(ops:Array Oper)(a0:Act)(w0:World)(ds:Nat→Option Tmp)(Φ:List Fact)(o:Oper)(js:List Nat)(φ:Fact):Prop:=
 ∀w,R w0 w→Given ds Φ w (fun b=>∀K:Value→World→Prop,Shut (∀v w',R w w'→φ v w'→K v w')→if Region.wanted o (yielded ops b.tmps)=true then Oper.wp P o b w (fun a' w'=>a'.defers=b.defers∧K (left o.dst a') w') Nope else K undef w) js a0
def StepsOX(R:World→World→Prop)(P:Program)(ops:Array Oper)(a0:Act)(w0:World)(ds:Nat→Option Tmp)(Φ:List Fact):Prop:=
 ∀i φ,Φ[i]?=some φ→StaysX R φ∧∃o js,ops[i]?=some o∧JsOK ops i js=true∧StepOX R P ops a0 w0 ds Φ o js φ
def RegX(R:World→World→Prop)(P:Program)(ops:Array Oper)(Q:Exit→Act→World→Prop)(m n:Nat)(a0:Act)(w0:World)(ds:Nat→Option Tmp)(Φ:List Fact):Prop:=
 (∀j,j<m→ds j=dstOf ops j)→RegFine ops n→a0.tmps.size=n→StepsOX R P ops a0 w0 ds Φ→wpAny P .any ops Q ops.size (Array.replicate ops.size false) a0 w0
structure AtX (R:World→World→Prop) (P:Program) (ops:Array Oper) (a0:Act) (w0:World) (Φ:List Fact) (L:List Nat) (listed:Array Bool) (xs:Nat→Value) (a:Act) (w:World):Prop where
 nodup:L.Nodup
 lt:∀j∈ L,j<ops.size
 size:listed.size=ops.size
 marks:∀j,j<ops.size→listed[j]?=some (decide (j∈ L))
 closed:∀i∈ L,∀j∈ depsOf ops i,j∈ L
 act:a=putL ops xs L a0
 facts:∀j∈ L,Φ.getD j NoF (xs j) w
 base:R w0 w
def OneOX(P:Program)(ops:Array Oper)(Q:Exit→Act→World→Prop)(o:Oper)(N:Act→World→Prop)(a:Act)(w:World):Prop:=
 ∀K:Act→World→Prop,Shut (∀a' w',N a' w'→K a' w')→if Region.wanted o (yielded ops a.tmps)=true then Oper.wp P o a w K Q else K (a.put o.dst undef) w
section
variable {P:Program} {ops:Array Oper} {Q:Exit→Act→World→Prop} {R:World→World→Prop}
theorem RegX.begin{id n:Nat}{b:Act}{w:World}(m:Nat)(d:Nat→Option Tmp)(e:P.follows .mixedOrders=true)(a:DstsOK ops m d=true)(c:RegOK ops n=true)(f:b.tmps.size=n)
 (h:RegX R P ops Q m n b w.drew d []):(Code.region id ops true).wp P Q b w:=
 wp_region_any e (h (fun j g=>by
  unfold DstsOK at a;simp only[List.all_eq_true,List.mem_range,beq_iff_eq] at a
  exact(a j g).symm) (RegFine.of c) f (fun i φ k=>by cases k))
theorem RegX.step{m n:Nat}{c:Act}{w0:World}{d:Nat→Option Tmp}{Φ:List Fact}{i:Nat}{o:Oper}{φ:Fact}(e:List Nat)(x:Φ.length=i)(s:ops[i]?=some o)(b:JsOK ops i e=true)
 (y:StaysX R φ) (h:StepOX R P ops c w0 d Φ o e φ) (z:RegX R P ops Q m n c w0 d (Φ++ [φ])):RegX R P ops Q m n c w0 d Φ:=fun f F A g=>by
 refine z f F A (fun k ψ hk=>?_);have B:k<Φ.length+1:=by
  have:=(List.getElem?_eq_some_iff.1 hk).1
  simpa using this
 have a:∀k,k≤Φ.length→∀j∈ depsOf ops k,Φ.getD j NoF=(Φ++ [φ]).getD j NoF:=fun k hk j b=>by
  have:=F.low k j b;rw[List.getD_eq_getElem?_getD,List.getD_eq_getElem?_getD,List.getElem?_append_left (by omega)]
 rcases Nat.lt_or_ge k Φ.length with t|t
 ·
  rw[List.getElem?_append_left t] at hk;obtain⟨C,D,l,u,v,E⟩:=g k ψ hk;exact⟨C,D,l,u,v,fun w p=>Given.more _ _ (fun j b=>a k (by omega) j ((JsOK.spec u v).1 j b)) (E w p)⟩
 ·
  have q:k=Φ.length:=by omega
  subst q;rw[List.getElem?_append_right (Nat.le_refl _)] at hk;simp only[Nat.sub_self,List.getElem?_cons_zero,Option.some.injEq] at hk;subst hk;subst x;exact⟨y,o,e,s,b,fun w p=>Given.more _ _ (fun j r=>a _ (Nat.le_refl _) j ((JsOK.spec s b).1 j r)) (h w p)⟩
theorem RegX.is(q:RelOK R){m n:Nat}{k:Act}{w0:World}{g:Nat→Option Tmp}{Φ:List Fact}{i:Nat}{o:Oper}{c:Value}(a:List Nat)(r:Φ.length=i)(s:ops[i]?=some o)(t:JsOK ops i a=true)
 (h:∀w,R w0 w→Given g Φ w (fun b=>∀K:Value→World→Prop,Shut (K c w)→if Region.wanted o (yielded ops b.tmps)=true then Oper.wp P o b w (fun e d=>e.defers=b.defers∧K (left o.dst e) d) Nope else K undef w) a k)
 (u:RegX R P ops Q m n k w0 g (Φ++ [Is c])):RegX R P ops Q m n k w0 g Φ:=
 RegX.step a r s t (Is.staysX R c) (fun w x=>by
  have l:=h w x;revert l;generalize k=f;intro l;have p:∀(a:List Nat) (f:Act),Given g Φ w (fun b=>∀K:Value→World→Prop,Shut (K c w)→if Region.wanted o (yielded ops b.tmps)=true then Oper.wp P o b w (fun e d=>e.defers=b.defers∧K (left o.dst e) d) Nope else K undef w) a f→Given g Φ w (fun b=>∀K:Value→World→Prop,Shut (∀v d,R w d→Is c v d→K v d)→if Region.wanted o (yielded ops b.tmps)=true then Oper.wp P o b w (fun e d=>e.defers=b.defers∧K (left o.dst e) d) Nope else K undef w) a f:=by
   intro a
   induction a with
   |nil=>intro f h K y;exact h K (y c w (q.refl _) rfl)
   |cons j a z=>intro f h v A;exact z _ (h v A)
  exact p a f l) u
theorem AtX.ready{k:Act}{w0:World}{Φ:List Fact}{L:List Nat}{b:Array Bool}{xs:Nat→Value}{a:Act}{w:World}(H:AtX R P ops k w0 Φ L b xs a w){i:Nat}(l:i∈ Region.ready .any ops b):
 i<ops.size∧i ∉ L∧(∀j∈ depsOf ops i,j∈ L)∧∃o,ops[i]?=some o:=by
 obtain⟨h,o,f,m⟩:=mem_ready.1 l;have c:i<ops.size:=(Array.getElem?_eq_some_iff.1 f).1;have n:=H.marks i c;rw[Array.getD_eq_getD_getElem?,n] at h;refine⟨c,by simpa using h,fun j p=>?_,o,f⟩;obtain⟨e,q,r,rfl⟩:=(Qel f).1 p;have d:=m e q r;rcases Nat.lt_or_ge e.on ops.size with g|g
 · rw[Array.getD_eq_getD_getElem?,H.marks _ g] at d
   simpa using d
 · rw[Array.getD_eq_getD_getElem?,Array.getElem?_eq_none (by rw[H.size];exact g)] at d
   cases d
theorem AtX.next(t:RelOK R){n:Nat}(F:RegFine ops n){g:Act}{w0:World}{Φ:List Fact}{L:List Nat}{b:Array Bool}{xs:Nat→Value}{a:Act}{w l:World}(D:g.tmps.size=n)(H:AtX R P ops g w0 Φ L b xs a w){i:Nat}(E:i<ops.size)(q:i ∉ L)(z:∀j∈ depsOf ops i,j∈ L)
 (m:∀j,StaysX R (Φ.getD j NoF)) (r:R w l) {v:Value} (A:Φ.getD i NoF v l) {d:Option Tmp} (o:dstOf ops i=d) {u:Value} (B:u=v∨d=none):
 AtX R P ops g w0 Φ (L++ [i]) (b.setIfInBounds i true) (fun j=>if j=i then v else xs j) (a.put d u) l:=by
 refine⟨?_,?_,?_,?_,?_,?_,?_,?_⟩
 · exact List.nodup_append.2 ⟨H.nodup,by simp,fun x C y s=>by simp at s;subst s;exact fun e=>q (e ▸ C)⟩
 ·
  intro j c;rcases List.mem_append.1 c with h|h
  · exact H.lt j h
  · simp at h;omega
 · simp[H.size]
 ·
  intro j c;by_cases f:j=i
  ·
   subst f;rw[Array.getElem?_setIfInBounds_self_of_lt (by rw[H.size];exact c)];simp
  · rw[Array.getElem?_setIfInBounds_ne (fun h=>f h.symm),H.marks j c]
    simp[f]
 ·
  intro k hk j c;rcases List.mem_append.1 hk with h|h
  · exact List.mem_append_left _ (H.closed k h j c)
  ·
   simp at h;subst h;exact List.mem_append_left _ (z j c)
 ·
  rw[Qem,H.act];have e:putL ops (fun j=>if j=i then v else xs j) L g=putL ops xs L g:=Qen L g (fun j c=>if_neg (fun f:j=i=>q (f ▸ c)));rw[e]
  show _=(putL ops xs L g).put (dstOf ops i) (if i=i then v else xs i)
  rw[if_pos rfl,o];rcases B with rfl|rfl<;>rfl
 ·
  intro j c;by_cases f:j=i
  · subst f
    simpa using A
  ·
   have p:j∈ L:=by
    rcases List.mem_append.1 c with h|h
    · exact h
    · simp at h;exact absurd h f
   simp only[if_neg f];exact m j _ _ _ r (H.facts j p)
 · exact t.trans H.base r
theorem AtX.same{n:Nat}(F:RegFine ops n){d:Act}{w0:World}{Φ:List Fact}{L:List Nat}{f:Array Bool}{xs:Nat→Value}{a:Act}{w:World}(s:d.tmps.size=n)(H:AtX R P ops d w0 Φ L f xs a w){i:Nat}{o:Oper}(u:ops[i]?=some o)(v:i ∉ L)(z:∀j∈ depsOf ops i,j∈ L){l:List Nat}(k:JsOK ops i l=true):
 execOp a.eval o=execOp (putL ops xs l d).eval o∧Region.wanted o (yielded ops a.tmps)=Region.wanted o (yielded ops (putL ops xs l d).tmps):=by
 obtain⟨A,B⟩:=JsOK.spec u k;have m:∀t,t∈ o.looksAt ops→a.tmps[t]?=(putL ops xs l d).tmps[t]?:=by
  intro t p;rw[H.act];by_cases q:∃j∈ L,dstOf ops j=some t
  ·
   obtain⟨j,k,c⟩:=q;have r:i≠j:=fun e=>v (e ▸ k)
   rcases B j t r c p with h|h
   · rw[Qa9 F c L d s k,Qa9 F c _ d s h]
   · exact absurd (H.closed j k i h) v
  · rw[Qa3 L d (fun j k c=>q ⟨j,k,c⟩),Qa3 _ d (fun j k c=>q ⟨j,z j (A j k),c⟩)]
 constructor
 ·
  refine execOp_congr o (fun C b=>F.sel i o C b u) (fun x D=>?_);cases x with
  |tmp t=>
   have:=m t (List.mem_append_left _ (List.mem_filterMap.2 ⟨.tmp t,by simpa using D,rfl⟩));simp only[Act.eval,Array.getD_eq_getD_getElem?,this]
  |_=>rfl
 ·
  unfold Region.wanted;cases hg:o.guard with
  |none=>rfl
  |some gw=>
   obtain⟨g,y⟩:=gw;have E:yielded ops a.tmps g=yielded ops (putL ops xs l d).tmps g:=by
    unfold yielded;cases p:(ops[g]?).bind (·.dst) with
    |none=>rfl
    |some t=>
     have:=m t (by simp[Oper.looksAt,hg,p]);simp only[Option.bind_some,this]
   simp only[E]
theorem AtX.come(E:RelOK R){n:Nat}(F:RegFine ops n){p:Act}{w0:World}{Φ:List Fact}{L:List Nat}{c:Array Bool}{xs:Nat→Value}{a:Act}{w:World}(x:p.tmps.size=n){G:Nat→Option Tmp}{m:Nat}(z:∀j,j<m→G j=dstOf ops j)(W:Φ.length≤m)(q:StepsOX R P ops p w0 G Φ)(H:AtX R P ops p w0 Φ L c xs a w){i:Nat}(M:i∈ Region.ready .any ops c)(hl:i<Φ.length)
 {K:Act→World→Prop} (I:∀A J e,AtX R P ops p w0 Φ (L++ [i]) (c.setIfInBounds i true) A J e→K J e):wpOp P ops Q i K a w:=by
 obtain⟨r,B,y,o,l⟩:=H.ready M;have hφ:Φ[i]?=some (Φ.getD i NoF):=by rw[List.getD_eq_getElem?_getD,List.getElem?_eq_getElem hl];rfl
 obtain⟨_,X,O,s,g,S⟩:=q i _ hφ;rw[l] at s;cases s;have f:∀j,StaysX R (Φ.getD j NoF):=by
  intro j;rcases Nat.lt_or_ge j Φ.length with h|h
  · exact(q j _ (by rw[List.getD_eq_getElem?_getD,List.getElem?_eq_getElem h];rfl)).1
  · rw[List.getD_eq_getElem?_getD,List.getElem?_eq_none h]
    exact fun _ _ _ _ h=>h
 obtain⟨T,U⟩:=H.same F x l B y g;have V:=Given.use (xs:=xs) _ _ (fun j C=>z j (by have:=F.low i j ((JsOK.spec l g).1 j C);omega)) (S w H.base) (fun j C=>H.facts j (y j ((JsOK.spec l g).1 j C)));have k:dstOf ops i=o.dst:=by unfold dstOf;rw[l];rfl
 refine Qep (b:=putL ops xs O p) (N:=fun v e=>R w e∧Φ.getD i NoF v e) l (fun d D=>?_) T U (V (fun v e=>R w e∧Φ.getD i NoF v e) (fun v e t u=>⟨t,u⟩)) ?_
 · rw[Qeo,x]
   exact F.fits i d (k.trans D)
 ·
  rintro v e (⟨t,u⟩|⟨hnone,t,u⟩)
  · exact I _ _ _ (H.next E F x r B y f t u k (.inl rfl))
  · exact I _ _ _ (H.next E F x r B y f t u k (.inr hnone))
theorem AtX.none_ready{n:Nat}(F:RegFine ops n){g:Act}{w0:World}{Φ:List Fact}{L:List Nat}{b:Array Bool}{xs:Nat→Value}{a:Act}{w:World}(H:AtX R P ops g w0 Φ L b xs a w)(h:Region.ready .any ops b= []):∀j,j<ops.size→j∈ L:=by
 intro j
 induction j using Nat.strongRecOn with
 |_ j ih=>
  intro c;by_cases f:j∈ L
  · exact f
  ·
   have:j∈ Region.ready .any ops b:=mem_ready.2 ⟨by rw[Array.getD_eq_getD_getElem?,H.marks j c];simp[f],ops[j],Array.getElem?_eq_getElem c,fun e i k=>by
    have l:=(Qel (Array.getElem?_eq_getElem c)).2 ⟨e,i,k,rfl⟩;have d:=F.low j _ l;rw[Array.getD_eq_getD_getElem?,H.marks _ (by omega)]
    simpa using ih _ d (by omega)⟩
   rw[h] at this;cases this
theorem Qtp(s:RelOK R){n:Nat}(F:RegFine ops n){g:Act}{w0:World}{Φ:List Fact}(t:g.tmps.size=n){p:Nat→Option Tmp}{m:Nat}(k:∀j,j<m→p j=dstOf ops j)(u:Φ.length≤m)(l:StepsOX R P ops g w0 p Φ)
 (d:∀L b xs a w,AtX R P ops g w0 Φ L b xs a w→(∀j,j<ops.size→j∈ L)→Q .normal a w)
 (f:∀i L b xs a w c,AtX R P ops g w0 Φ L b xs a w→i∈ Region.ready .any ops b→Φ.length≤i→L.length+(c+1)=ops.size→wpOp P ops Q i (wpAny P .any ops Q c (b.setIfInBounds i true)) a w):
 ∀(c:Nat) (L:List Nat) (b:Array Bool) (xs:Nat→Value) (a:Act) (w:World),AtX R P ops g w0 Φ L b xs a w→L.length+c=ops.size→wpAny P .any ops Q c b a w:=by
 intro c
 induction c with
 |zero=>
  intro L b xs a w H q;have e:=Qgr L ops.size H.nodup H.lt (by omega);refine⟨?_,d _ _ _ _ _ H e⟩;cases hr:Region.ready .any ops b with
  |nil=>rfl
  |cons i C=>
   obtain⟨v,x,_⟩:=H.ready (i:=i) (by rw[hr];exact List.mem_cons_self);exact absurd (e i v) x
 |succ c y=>
  intro L b xs a w H q;refine⟨fun h=>d _ _ _ _ _ H (H.none_ready F h),fun i r=>?_⟩;rcases Nat.lt_or_ge i Φ.length with h|h
  · exact H.come s F t k u l r h (fun o z A B=>y _ _ o z A B (by simp;omega))
  · exact f i L b xs a w c H r h q
theorem AtX.begin(b:RelOK R){a:Act}{w0:World}{Φ:List Fact}{xs:Nat→Value}:AtX R P ops a w0 Φ [] (Array.replicate ops.size false) xs a w0:=
 ⟨by simp,by simp,by simp,fun j c=>by simp[c],by simp,rfl,by simp,b.refl _⟩
theorem RegX.pu(j:RelOK R){m n:Nat}{a:Act}{w0:World}{d:Nat→Option Tmp}{Φ:List Fact}{i:Nat}{o:Oper}{c:Value}{N:World→Prop}(f:List Nat)(h:∀w,R w0 w→N w)(k:RegX R P ops Q m n a w0 d (Φ++ [Is c]))
 (l:Φ.length=i:=by simp only[List.nil_append,List.cons_append,List.length_append,List.length_cons,List.length_nil,Nat.reduceAdd];exact rfl)
 (p:ops[i]?=some o:=by simp only[List.getElem?_toArray,List.getElem?_cons_zero,List.getElem?_cons_succ];exact rfl)
 (q:JsOK ops i f=true:=by kernel_rfl)
 (e:∀w,Given d Φ w (fun b=>∀K:Value→World→Prop,Shut (K c w)→if Region.wanted o (yielded ops b.tmps)=true then Oper.wp P o b w (fun g r=>g.defers=b.defers∧K (left o.dst g) r) Nope else K undef w) f a=N w:=by intro w;simp only[Given,List.nil_append,List.cons_append,List.getD_cons_zero,List.getD_cons_succ,Qad,Act.put,List.setIfInBounds_toArray,List.set_cons_zero,List.set_cons_succ,Nat.reduceAdd,Nat.reduceBEq,cond_true,cond_false];exact rfl):RegX R P ops Q m n a w0 d Φ:=
 RegX.is j f l p q (fun w s=>by rw[e w];exact h w s) k
theorem RegX.ca{m n:Nat}{c:Act}{w0:World}{d:Nat→Option Tmp}{Φ:List Fact}{i:Nat}{o:Oper}{φ:Fact}{N:World→Prop}(f:List Nat)(j:StaysX R φ)(h:∀w,R w0 w→N w)(k:RegX R P ops Q m n c w0 d (Φ++ [φ]))
 (l:Φ.length=i:=by simp only[List.nil_append,List.cons_append,List.length_append,List.length_cons,List.length_nil,Nat.reduceAdd];exact rfl)
 (p:ops[i]?=some o:=by simp only[List.getElem?_toArray,List.getElem?_cons_zero,List.getElem?_cons_succ];exact rfl)
 (q:JsOK ops i f=true:=by kernel_rfl)
 (e:∀w,Given d Φ w (fun b=>∀K:Value→World→Prop,Shut (∀v a,R w a→φ v a→K v a)→if Region.wanted o (yielded ops b.tmps)=true then Oper.wp P o b w (fun g a=>g.defers=b.defers∧K (left o.dst g) a) Nope else K undef w) f c=N w:=by intro w;simp only[Given,List.nil_append,List.cons_append,List.getD_cons_zero,List.getD_cons_succ,Qad,Act.put,List.setIfInBounds_toArray,List.set_cons_zero,List.set_cons_succ,Nat.reduceAdd,Nat.reduceBEq,cond_true,cond_false];exact rfl):RegX R P ops Q m n c w0 d Φ:=
 RegX.step f l p q j (fun w r=>by rw[e w];exact h w r) k
theorem RegX.bg{id n:Nat}{a:Act}{w:World}(R:World→World→Prop)(m:Nat)(b:Nat→Option Tmp)(h:RegX R P ops Q m n a w.drew b [])
 (e:P.follows .mixedOrders=true:=by kernel_rfl) (c:DstsOK ops m b=true:=by kernel_rfl) (d:RegOK ops n=true:=by kernel_rfl) (f:a.tmps.size=n:=by rfl):(Code.region id ops true).wp P Q a w:=RegX.begin m b e c d f h
end
end
section
open Go Go.RowKit
section
variable {P:Program} {ops:Array Oper} {Q:Exit→Act→World→Prop} {R:World→World→Prop}
def TwoOK(ops:Array Oper)(m:Nat)(U:List Nat):Bool:=
 WaitedTo ops (m+1) && ((List.range m).all fun j=>U.contains j || (List.range (m+1)).any fun k=>!U.contains k && (depsOf ops k).contains j) &&
  U.all fun u=>decide (u<m) && match ops[m]? with
   |some o=>o.dst.isNone && match dstOf ops u with
    |some d=>!(o.looksAt ops).contains d
    |none=>true
   |none=>false
def restOf(m:Nat)(U:List Nat):List Nat:=(List.range m).filter fun j=>!U.contains j
def StillStep(P:Program)(ops:Array Oper)(R:World→World→Prop)(a0:Act)(w0:World)(ds:Nat→Option Tmp)(Φ:List Fact)(u:Nat):Prop:=
 ∃o js,ops[u]?=some o∧JsOK ops u js=true∧∀w,R w0 w→Given ds Φ w (fun b=>∀K:Value→World→Prop,Shut (∀v,Φ.getD u NoF v w→K v w)→if Region.wanted o (yielded ops b.tmps)=true then Oper.wp P o b w (fun a' w'=>a'.defers=b.defers∧K (left o.dst a') w') Nope else K undef w) js a0
theorem AtX.exec{n:Nat}(F:RegFine ops n){e:Act}{w0:World}{Φ:List Fact}{L:List Nat}{f:Array Bool}{xs:Nat→Value}{a:Act}{w:World}(p:e.tmps.size=n)(H:AtX R P ops e w0 Φ L f xs a w){i:Nat}{o:Oper}(r:ops[i]?=some o){I:List Nat}(s:∀j∈ I,j∈ L)(u:∀j∈ L,∀d,dstOf ops j=some d→d∈ o.looksAt ops→j∈ I):
 execOp a.eval o=execOp (putL ops xs I e).eval o∧Region.wanted o (yielded ops a.tmps)=Region.wanted o (yielded ops (putL ops xs I e).tmps):=by
 have k:∀t,t∈ o.looksAt ops→a.tmps[t]?=(putL ops xs I e).tmps[t]?:=by
  intro t l;rw[H.act];by_cases m:∃j∈ L,dstOf ops j=some t
  · obtain⟨j,h,c⟩:=m
    rw[Qa9 F c L e p h,Qa9 F c _ e p (u j h t c l)]
  · rw[Qa3 L e (fun j h c=>m ⟨j,h,c⟩),Qa3 _ e (fun j h c=>m ⟨j,s j h,c⟩)]
 constructor
 ·
  refine execOp_congr o (fun v b=>F.sel i o v b r) (fun x y=>?_);cases x with
  |tmp t=>
   have:=k t (List.mem_append_left _ (List.mem_filterMap.2 ⟨.tmp t,by simpa using y,rfl⟩));simp only[Act.eval,Array.getD_eq_getD_getElem?,this]
  |_=>rfl
 ·
  unfold Region.wanted;cases hg:o.guard with
  |none=>rfl
  |some gw=>
   obtain⟨g,q⟩:=gw;have z:yielded ops a.tmps g=yielded ops (putL ops xs I e).tmps g:=by
    unfold yielded;cases l:(ops[g]?).bind (·.dst) with
    |none=>rfl
    |some t=>
     have:=k t (by simp[Oper.looksAt,hg,l]);simp only[Option.bind_some,this]
   simp only[z]
theorem Qtq(hR:RelOK R){n:Nat}(F:RegFine ops n){r:Act}{w0:World}{Φ:List Fact}(Y:r.tmps.size=n){Z:Nat→Option Tmp}{m:Nat}{o2:Oper}{U:List Nat}(G:∀j,j<m→Z j=dstOf ops j)(hm:Φ.length=m)(hk:m+2=ops.size)(aa:StepsOX R P ops r w0 Z Φ)(I:ops[m+1]?=some o2)(t:∀u∈ U,u<m)(hw:WaitedTo ops (m+1)=true)(ab:dstOf ops m=none)
 (hU:∀u∈ U,StillStep P ops R r w0 Z Φ u) {w:World} {ys:Nat→Value} (hM:Given Z Φ w (fun b=>OneOX P ops Q o2 (Q .normal) b w) U (putL ops ys (restOf m U) r)):
 ∀(g:Nat) (L:List Nat) (c:Array Bool) (xs:Nat→Value) (a:Act),AtX R P ops r w0 (Φ++ [fun _ _=>True]) L c xs a w→m∈ L→(∀j∈ restOf m U,j∈ L∧xs j=ys j)→L.length+g=ops.size→wpAny P .any ops Q g c a w:=by
 have J:∀{v:Value} {x:World},¬(Φ++ [fun _ _=>True]).getD (m+1) NoF v x:=fun {v x} h=>by
  rw[List.getD_eq_getElem?_getD,List.getElem?_eq_none (by simp;omega)] at h;exact h
 have q:∀j,j<m→(Φ++ [fun _ _=>True]).getD j NoF=Φ.getD j NoF:=fun j f=>by
  rw[List.getD_eq_getElem?_getD,List.getD_eq_getElem?_getD,List.getElem?_append_left (by omega)]
 have K:∀j,StaysX R ((Φ++ [fun _ _=>True]).getD j NoF):=by
  intro j;rcases Nat.lt_trichotomy j m with h|h|h
  · rw[q j h]
    exact(aa j _ (by rw[List.getD_eq_getElem?_getD,List.getElem?_eq_getElem (by omega)];rfl)).1
  ·
   subst h;rw[List.getD_eq_getElem?_getD,List.getElem?_append_right (by omega),hm,Nat.sub_self];exact fun _ _ _ _ _=>trivial
  · rw[List.getD_eq_getElem?_getD,List.getElem?_eq_none (by simp;omega)]
    exact fun _ _ _ _ h=>h
 intro g
 induction g with
 |zero=>
  intro L c xs a H y A hf;have k:=Qgr L ops.size H.nodup H.lt (by omega);exact absurd (H.facts _ (k (m+1) (by omega))) J
 |succ g ih=>
  intro L c xs a H y A hf;refine⟨fun h=>absurd (H.facts _ (H.none_ready F h (m+1) (by omega))) J,fun i hi=>?_⟩;obtain⟨M,E,hd,o,B⟩:=H.ready hi;have O:dstOf ops i=o.dst:=by unfold dstOf;rw[B];rfl
  rcases Nat.lt_or_ge i m with h|h
  ·
   have ad:i∈ U:=by
    apply Classical.byContradiction;intro hc;exact E (A i (List.mem_filter.2 ⟨List.mem_range.2 h,by simpa using hc⟩)).1
   obtain⟨o',js,S,T,hs⟩:=hU i ad;rw[B] at S;cases S;obtain⟨e1,e2⟩:=H.same F Y B E hd T;have s:=(JsOK.spec B T).1;have C:=Given.use (xs:=xs) _ _ (fun j f=>G j (by have:=F.low i j (s j f);omega)) (hs w H.base) (fun j f=>by
    have V:=H.facts j (hd j (s j f));rw[q j (by have:=F.low i j (s j f);omega)] at V
    exact V)
   refine Qep (b:=putL ops xs js r) (N:=fun v x=>x=w∧Φ.getD i NoF v w) B (fun d ae=>?_) e1 e2 (C (fun v x=>x=w∧Φ.getD i NoF v w) (fun v D=>⟨rfl,D⟩)) ?_
   · rw[Qeo,Y]
     exact F.fits i d (O.trans ae)
   ·
    have W:∀v u,(Φ.getD i NoF v w)→(u=v∨o.dst=none)→wpAny P .any ops Q g (c.setIfInBounds i true) (a.put o.dst u) w:=fun v u D hu=>by
     have H':=H.next hR F Y M E hd K (hR.refl w) (v:=v) (by rw[q i h];exact D) O hu;refine ih _ _ _ _ H' (List.mem_append_left _ y) (fun j f=>⟨List.mem_append_left _ (A j f).1,?_⟩) (by simp;omega);have:j≠i:=fun e=>E (e ▸ (A j f).1)
     simp only[if_neg this];exact(A j f).2
    rintro v x (⟨rfl,D⟩|⟨hnone,rfl,D⟩)
    · exact W v v D (.inl rfl)
    · exact W undef v D (.inr hnone)
  ·
   have af:i=m+1:=by
    rcases Nat.lt_or_ge m i with C|C
    · omega
    · exact absurd y (by rw[show m=i by omega];exact E)
   subst af;rw[B] at I;cases I;have k:∀j,j<m+1→j∈ L:=WaitedTo.down hw F hd H.closed;have ah:m+1≤L.length:=by
    have:=(List.nodup_range (n:=m+1)).length_le_of_subset (l₂:=L) (fun j f=>k j (List.mem_range.1 f))
    simpa using this
   have ag:g=0:=by omega
   subst ag;have eI:putL ops ys (restOf m U) r=putL ops xs (restOf m U) r:=Qen _ _ (fun j f=>(A j f).2.symm);rw[eI] at hM;have C:=Given.use (xs:=xs) U _ (fun j f=>G j (t j f)) hM (fun j f=>by
    have V:=H.facts j (k j (by have:=t j f;omega));rw[q j (t j f)] at V
    exact V)
   rw[←Qem] at C;have e:putL ops xs L r=putL ops xs (restOf m U++U) r:=by
    have e1:putL ops xs L r=putL ops xs (m :: (restOf m U++U)) r:=by
     refine Qgq F Y (fun j=>⟨fun f=>?_,fun f=>?_⟩)
     ·
      have ai:=H.lt j f;rcases Nat.lt_trichotomy j m with z|z|z
      ·
       refine List.mem_cons_of_mem _ (List.mem_append.2 ?_);by_cases hc:j∈ U
       · exact .inr hc
       · exact .inl (List.mem_filter.2 ⟨List.mem_range.2 z,by simpa using hc⟩)
      · rw[z];exact List.mem_cons_self
      · exact absurd f (by rw[show j=m+1 by omega];exact E)
     ·
      rcases List.mem_cons.1 f with rfl|f
      · exact y
      ·
       rcases List.mem_append.1 f with z|z
       · exact(A j z).1
       · exact k j (by have:=t j z;omega)
    rw[e1]
    show putL ops xs (restOf m U++U) (r.put (dstOf ops m) (xs m))=_
    rw[ab];rfl
   rw[←e,←H.act] at C;have p:Region.ready .any ops (c.setIfInBounds (m+1) true)= []:=by
    cases hr:Region.ready .any ops (c.setIfInBounds (m+1) true) with
    |nil=>rfl
    |cons j js=>
     obtain⟨X,o',g2,_⟩:=mem_ready.1 (show j∈ Region.ready .any ops (c.setIfInBounds (m+1) true) by rw[hr];exact List.mem_cons_self);have f:j<ops.size:=(Array.getElem?_eq_some_iff.1 g2).1;by_cases he:j=m+1
     ·
      subst he;rw[Array.getD_eq_getD_getElem?,Array.getElem?_setIfInBounds_self_of_lt (by rw[H.size];exact f)] at X;cases X
     ·
      rw[Array.getD_eq_getD_getElem?,Array.getElem?_setIfInBounds_ne (fun h=>he h.symm),H.marks j f] at X;simp only[Option.getD_some,decide_eq_false_iff_not] at X;exact absurd (k j (by omega)) X
   exact wpOp_step B (fun K' hK=>C K' (fun a' x hq=>hK a' x ⟨p,hq⟩))
theorem RegX.twoU(X:RelOK R){n:Nat}{p:Act}{w0:World}{y:Nat→Option Tmp}{Φ:List Fact}{m:Nat}{E G:Oper}(U:List Nat)(hm:Φ.length=m)(hk:m+2=ops.size)(s:ops[m]?=some E)(Z:ops[m+1]?=some G)(z:E.dst=none)(hw:TwoOK ops m U=true)(hU:∀u∈ U,StillStep P ops R p w0 y Φ u)
 (h:∀w,R w0 w→Given y Φ w (fun b=>∀K:World→Prop,Shut (∀c,R w c→Given y Φ c (fun A=>OneOX P ops Q G (Q .normal) A c) U b→K c)→if Region.wanted E (yielded ops b.tmps)=true then Oper.wp P E b w (fun a' c=>a'.defers=b.defers∧K c) Nope else K w) (restOf m U) p):RegX R P ops Q m n p w0 y Φ:=fun B F Y C=>by
 unfold TwoOK at hw;simp only[Bool.and_eq_true,List.all_eq_true,List.mem_range,Bool.or_eq_true,List.any_eq_true,Bool.not_eq_true',List.contains_eq_mem,decide_eq_true_eq,decide_eq_false_iff_not] at hw;obtain⟨⟨I,aa⟩,J⟩:=hw;have M:dstOf ops m=none:=by unfold dstOf;rw[s];exact z
 have O:∀u∈ U,u<m:=fun u hu=>(J u hu).1
 refine Qtp X F Y B (by omega) C (fun L f xs a w H S=>?_) (fun i L f xs a w x H hi ak hf=>?_) ops.size [] _ (fun _=>undef) p w0 (AtX.begin X) (by simp)
 ·
  have:=H.facts m (S m (by omega));rw[List.getD_eq_getElem?_getD,List.getElem?_eq_none (by omega)] at this;exact this.elim
 ·
  obtain⟨ab,ad,D,_⟩:=H.ready hi;have t:∀j∈ L,j<m:=fun j l=>by
   rcases Nat.lt_or_ge j m with r|r
   · exact r
   ·
    have:=H.facts j l;rw[List.getD_eq_getElem?_getD,List.getElem?_eq_none (by omega)] at this;exact this.elim
  have ae:i=m:=by
   rcases Nat.lt_or_ge m i with r|r
   ·
    have e:i=m+1:=by omega
    subst e;exact absurd (t m (WaitedTo.down I F D H.closed m (by omega))) (by omega)
   · omega
  subst ae;have af:∀k j,k+j+1=i→j ∉ U→j∈ L:=by
   intro k
   induction k using Nat.strongRecOn with
   |_ k ih=>
    intro j l o;rcases aa j (by omega) with r|⟨q,hq,ag,hc⟩
    · exact absurd r o
    ·
     have:=F.low q j hc;by_cases ah:q=i
     · subst ah;exact D j hc
     · exact H.closed q (ih (i - q - 1) (by omega) q (by omega) ag) j hc
  have g:∀j∈ restOf i U,j∈ L:=fun j l=>by
   obtain⟨r,h2⟩:=List.mem_filter.1 l;have:=List.mem_range.1 r;exact af (i - j - 1) j (by omega) (by simpa using h2)
  have r:=Given.use (xs:=xs) (restOf i U) p (fun j l=>B j (List.mem_range.1 (List.mem_filter.1 l).1)) (h w H.base) (fun j l=>H.facts j (g j l));obtain⟨e1,e2⟩:=H.exec F Y s g (fun j l d ai aj=>by
   refine List.mem_filter.2 ⟨List.mem_range.2 (t j l),?_⟩;have o:j ∉ U:=fun o=>by
    have T:=(J j o).2;rw[s] at T;simp only[Bool.and_eq_true] at T;have h4:=T.2;rw[ai] at h4;simp only[Bool.not_eq_true',decide_eq_false_iff_not] at h4;exact h4 aj
   simpa using o)
  have V:∀j,StaysX R (Φ.getD j NoF):=by
   intro j;rcases Nat.lt_or_ge j Φ.length with h|h
   · exact(C j _ (by rw[List.getD_eq_getElem?_getD,List.getElem?_eq_getElem h];rfl)).1
   · rw[List.getD_eq_getElem?_getD,List.getElem?_eq_none h]
     exact fun _ _ _ _ h=>h
  refine Qep (b:=putL ops xs (restOf i U) p) (N:=fun v c=>R w c∧Given y Φ c (fun A=>OneOX P ops Q G (Q .normal) A c) U (putL ops xs (restOf i U) p)) s (fun d hd=>by rw[z] at hd;cases hd) e1 e2 ?_ ?_
  · have h2:=r (fun c=>R w c∧Given y Φ c (fun A=>OneOX P ops Q G (Q .normal) A c) U (putL ops xs (restOf i U) p)) (fun c a b=>⟨a,b⟩)
    exact h2
  ·
   have W:∀u c,(R w c∧Given y Φ c (fun A=>OneOX P ops Q G (Q .normal) A c) U (putL ops xs (restOf i U) p))→wpAny P .any ops Q x (f.setIfInBounds i true) (a.put E.dst u) c:=fun u c ⟨hb,hM⟩=>by
    have Hn:AtX R P ops p w0 (Φ++ [fun _ _=>True]) L f xs a w:=⟨H.nodup,H.lt,H.size,H.marks,H.closed,H.act,fun j l=>by
     have T:=H.facts j l;have:=t j l;rw[List.getD_eq_getElem?_getD,List.getElem?_append_left (by omega),←List.getD_eq_getElem?_getD]
     exact T,H.base⟩
    have H':=Hn.next X F Y ab ad D (fun j=>by
     rcases Nat.lt_trichotomy j Φ.length with h|h|h
     · rw[List.getD_eq_getElem?_getD,List.getElem?_append_left (by omega),←List.getD_eq_getElem?_getD]
       exact V j
     ·
      subst h;rw[List.getD_eq_getElem?_getD,List.getElem?_append_right (Nat.le_refl _),Nat.sub_self];exact fun _ _ _ _ _=>trivial
     · rw[List.getD_eq_getElem?_getD,List.getElem?_eq_none (by simp;omega)]
       exact fun _ _ _ _ h=>h) hb (v:=undef) (by rw[List.getD_eq_getElem?_getD,List.getElem?_append_right (by omega),hm,Nat.sub_self];trivial) M (u:=u) (.inr rfl)
    have e3:a.put none u=a:=rfl;rw[e3] at H';rw[z,e3];exact Qtq X F Y B hm hk C Z O I M hU hM x _ _ _ _ H' (List.mem_append_right _ (by simp)) (fun j l=>⟨List.mem_append_left _ (g j l),by
     have:j≠i:=fun e=>by have:=t j (g j l);omega
     simp only[if_neg this]⟩) (by simp;omega)
   rintro v c (hv|⟨_,hv⟩)
   · exact W v c hv
   · exact W v c hv
end
end
def NewS(t:Vr)(C:Vw)(B:Nat):Fact:=fun v w=>∃b:Nat,v=.pointer (some ⟨b,0,none⟩)/\B<=b/\SB w b t C
structure ApR (t tm:Vr) (B:Nat) (xs ys:Vv) (w w':Vz):Prop where
 os:w'.os=w.os
 tape:w'.tape=w.tape
 output:w'.output=w.output
 size:w.heap.size<=w'.heap.size
 block:∀k,k<w.heap.size->(k<B∨(∀C,¬SB w k t C)/\∀C,¬SB w k tm C)->w'.heap[k]?=w.heap[k]?
 moved:∀k C,SB w k tm C->∃C',SB w' k tm C'/\C'.size=C.size
 old:∀k C,SB w k t C->∃C',SB w' k t C'/\C'.size=C.size/\(C.toList.take xs.length=xs->C'.toList.take xs.length=xs)/\(C.toList.take (xs.length+ys.length)=xs++ys->C'.toList.take (xs.length+ys.length)=xs++ys)
section
variable {t tm:Vr} {B:Nat} {xs ys:Vv} {w w':Vz}
theorem ApR.of_below(h:Bl w w'):ApR t tm B xs ys w w':=
 ⟨h.os,h.tape,h.output,h.size,fun k hk _=>h.block k hk,fun k C hC=>⟨C,hC.below h hC.lt,rfl⟩,fun k C hC=>⟨C,hC.below h hC.lt,rfl,id,id⟩⟩
theorem ApR.ok:RelOK (ApR t tm B xs ys):=by
 refine⟨fun w=>ApR.of_below bR,fun {u v w} h k=>⟨k.os.trans h.os,k.tape.trans h.tape,k.output.trans h.output,Nat.le_trans h.size k.size,fun i o p=>?_,fun i C hC=>?_,fun i C hC=>?_⟩⟩
 .
  have q:=h.block i o p;rw[<-q];have c:∀d,(∀C,¬SB u i d C)->∀C,¬SB v i d C:=fun d r C hC=>r C (by unfold SB at hC ⊢;rw[<-q];exact hC)
  exact k.block i (Nat.lt_of_lt_of_le o h.size) (p.imp id (fun ⟨a,b⟩=>⟨c _ a,c _ b⟩))
 .
  obtain⟨e,f,g⟩:=h.moved i C hC;obtain⟨j,l,m⟩:=k.moved i e f;exact⟨j,l,m.trans g⟩
 .
  obtain⟨e,f,g,s,x⟩:=h.old i C hC;obtain⟨j,l,m,y,z⟩:=k.old i e f;exact⟨j,l,m.trans g,fun n=>y (s n),fun n=>z (x n)⟩
theorem ApR.below(h:ApR t tm B xs ys w w')(hB:B<=w.heap.size):Below B w w':=⟨h.os,h.tape,h.output,h.size,fun k hk=>h.block k (by omega) (.inl hk)⟩
theorem SB.typed{k:Nat}{b t2:Vr}{C D:Vw}(c:SB w k b C)(a:SB w k t2 D):b=t2:=by
 unfold SB at c a;rw[c] at a;have d:=Option.some.inj a;injection d
theorem ApR.sb(h:ApR t tm B xs ys w w'){k:Nat}{c:Vr}{C:Vw}(a:SB w k c C)(d:c≠t)(b:c≠tm):SB w' k c C:=by
 have f:=h.block k a.lt (.inr ⟨fun D e=>d (a.typed e),fun D e=>b (a.typed e)⟩);unfold SB at a ⊢;rw[f];exact a
theorem NewS.staysX{c:Vr}{C:Vw}{B':Nat}(d:c≠t)(a:c≠tm):StaysX (ApR t tm B xs ys) (NewS c C B'):=fun _ _ _ f ⟨b,e,g,h⟩=>⟨b,e,g,f.sb h d a⟩
def NewM(tm:Vr)(n B:Nat):Fact:=fun v w=>∃(b:Nat) (C:Vw),v=.pointer (some ⟨b,0,none⟩)/\B<=b/\SB w b tm C/\C.size=n
theorem NewM.staysX{n B':Nat}:StaysX (ApR t tm B xs ys) (NewM tm n B'):=fun _ _ _ a ⟨b,C,e,c,d,f⟩=>by
 obtain⟨g,h,i⟩:=a.moved b C d;exact⟨b,g,e,c,h,i.trans f⟩
theorem ApR.of_only{k:Nat}{C D:Vw}(a:Only k w w')(c:SB w k tm C)(f:SB w' k tm D)(h:D.size=C.size)(hB:B<=k)(g:t≠tm):ApR t tm B xs ys w w':=
 ⟨a.os,a.tape,a.output,a.size,fun i j d=>a.block i j (fun e=>by
   subst e;rcases d with d|⟨_,d⟩
   . omega
   . exact d C c),fun i E b=>by
   by_cases e:i=k
   .
    subst e;have l:C=E:=by
     unfold SB at c b;rw[c] at b;have m:=Option.some.inj b;injection m
    subst l;exact⟨D,f,h⟩
   . exact⟨E,b.only a e,rfl⟩,fun i E b=>⟨E,b.only a (fun e=>g (by subst e;exact b.typed c)),rfl,id,id⟩⟩
theorem Grow.staysX{sz n:Nat}:StaysX (ApR t tm B xs ys) (fun v w=>Grow w B t sz AnyV v n xs):=fun v w w' m h=>by
 refine⟨⟨h.own.1,?_⟩,fun g b=>?_⟩
 .
  rcases h.own.2 with c|⟨g,d,e,rfl,hB,b,f,i,j,a⟩
  . exact .inl c
  .
   have hl:=h.own.1;rw[<-hl] at a;obtain⟨k,l,o,p,q⟩:=m.old g e b;exact .inr ⟨g,d,k,rfl,hB,l,f,i,o.trans j,by rw[<-hl];exact p a⟩
 .
  obtain⟨C,c,_⟩:=h.all g b;obtain⟨k,l,_⟩:=m.old g C c;exact⟨k,l,fun _ _=>trivial⟩
theorem Grow.staysX2{sz n:Nat}:StaysX (ApR t tm B xs ys) (fun v w=>Grow w B t sz AnyV v n (xs++ys)):=fun v w w' m h=>by
 refine⟨⟨h.own.1,?_⟩,fun g b=>?_⟩
 .
  rcases h.own.2 with c|⟨g,d,e,rfl,hB,b,f,i,j,a⟩
  . exact .inl c
  .
   have hl:=h.own.1;rw[<-hl,List.length_append] at a;obtain⟨k,l,o,q,p⟩:=m.old g e b;exact .inr ⟨g,d,k,rfl,hB,l,f,i,o.trans j,by rw[<-hl,List.length_append];exact p a⟩
 .
  obtain⟨C,c,_⟩:=h.all g b;obtain⟨k,l,_⟩:=m.old g C c;exact⟨k,l,fun _ _=>trivial⟩
theorem Grow.appX{P:Program}{A ty:Vr}{i:TypeInfo}{z:Value}{sz bytes:Nat}{v:Value}{n:Nat}(M:t≠tm)(h:Grow w B t sz AnyV v n xs)
 (N:P.underlying A=some (.slice t)) (O:P.info? t=some i) (W:i.zero=some z) (b:i.size=sz) (D:i.bytes=bytes) (Q:z.cells.size=sz) (R:0<sz)
 (a:Addr) (m c:Nat) (hl:ys.length=m*sz) (l:∀j u,ys[j]?=some u->w.cell? (a.add j)=some u) (X:∀u,u∈ ys->u.oneCell'=true)
 (E:n+m<=1048576) (q:bytes<=1000) (r:B<=w.heap.size):
 ∃K w',(Builtin.append_ #[A,A] ty #[v,.slice (some a) m c]).run P w=.ok K w'/\Grow w' B t sz AnyV K (n+m) (xs++ys)/\ApR t tm B xs ys w w':=by
 obtain⟨K,w',F,S,f,Z⟩:=h.app (ty:=ty) N O W b D Q R (fun _ _=>trivial) a m c ys hl l X (fun _ _=>trivial) E q r;refine⟨K,w',F,S,?_⟩;rcases h.own.2 with ⟨rfl,rfl⟩|⟨g,s,d,rfl,aa,G,ab,ad,T,x⟩
 . refine ApR.of_below ⟨f.os,f.tape,f.output,f.size,fun k hk=>f.block k hk (by simp[Value.ownBlock])⟩
 .
  by_cases o:n+m<=s
  .
   have p:ys.length=m*i.size:=by rw[b];exact hl
   have H:n*i.size+ys.length<=d.size:=by rw[p,T,b,<-Nat.add_mul];exact Nat.mul_le_mul_right _ o
   rw[run_append_room (P:=P) w A ty t i N O g n s d G a m c ys p l X o H] at F;injection F with e1 U
   subst U;have I:=h.own.1;have J:=setRow_heap w g d (d.toList.take (n*i.size)++ys++d.toList.drop (n*i.size+ys.length)).toArray _ (0,0) G;have ae:d.toList.length=d.size:=by simp
   have V:(d.toList.take (n*i.size)++ys++d.toList.drop (n*i.size+ys.length)).length=d.size:=by
    simp only[List.length_append,List.length_take,List.length_drop];omega
   have Y:d.toList.take (n*i.size)=xs:=by rw[b];exact x
   refine⟨f.os,f.tape,f.output,f.size,fun k hk L=>f.block k hk (fun e=>?_),fun k C hC=>?_,fun k C hC=>?_⟩
   .
    have e':k=g:=by simpa [Value.ownBlock] using e
    subst e';rcases L with L|⟨L,_⟩
    . omega
    . exact L d G
   .
    have e:k≠g:=fun e=>M (by subst e;exact SB.typed G hC)
    exact⟨C,(by
     unfold SB at hC ⊢;rw[f.block k (SB.lt hC) (by simpa [Value.ownBlock] using e)]
     exact hC),rfl⟩
   .
    by_cases e:k=g
    .
     subst e;have e3:C=d:=by
      unfold SB at hC;rw[G] at hC;have h3:=Option.some.inj hC;injection h3 with h4
      exact h4.symm
     subst e3;refine⟨_,J,by simpa using V,fun _=>?_,fun _=>?_⟩
     . rw[Y]
       simp
     .
      rw[Y];simp only[List.append_assoc];rw[<-List.append_assoc,<-List.length_append];exact List.take_left
    .
     exact⟨C,(by
      unfold SB at hC ⊢;rw[f.block k (SB.lt hC) (by simpa [Value.ownBlock] using e)]
      exact hC),rfl,id,id⟩
  .
   have p:ys.length=m*i.size:=by rw[b];exact hl
   have I:xs.length=n*i.size:=by rw[b];exact h.own.1
   have af:(n+m)*bytes<=1048576*1000:=Nat.mul_le_mul E q;have y:∀j u,xs[j]?=some u->w.cell? ((⟨g,0,none⟩:Addr).add j)=some u:=h.own.cells (g:=g) rfl;rw[run_append_grow (P:=P) w A ty t i z N O W ⟨g,0,none⟩ n s xs I y a m c ys p l (by omega) (by omega) (by rw[D];exact growslice_fits (by omega) (by omega))] at F;injection F with e1 U
   subst U;exact ApR.of_below (bR.drew.alloc lZ _)
theorem Qpx{P:Program}{w:Vz}{f ty e:Vr}{i:TypeInfo}(j:P.underlying f=some (.slice e))(k:P.info? e=some i){a b n c:Nat}{v:Value}{xs:Vv}(d:w.ownsRow a e b v n xs):
 (Builtin.append_ #[f,f] ty #[v,.slice none 0 c]).run P w=.ok v w:=by
 rcases d.2 with ⟨rfl,rfl⟩|⟨g,l,m,rfl,_,_,h,_⟩
 . simp[Builtin.append_,run_underlying j,sizeOf,typeInfo,k,Builtin.lenOf,Builtin.firstCells]
 . simp[Builtin.append_,run_underlying j,sizeOf,typeInfo,k,Builtin.lenOf,Builtin.firstCells,h,storeCells]
end
theorem Qpy{w:Vz}{B n d:Nat}{a:Vx}{v:Value}{xs:Vv}{c:List L3}(ty:Vr)(h:Grow w B 36 3 AnyV v n xs)(k:ARow L3.cells w a d c)(f:n+c.length<=1048576)(hB:B<=w.heap.size):
 ∃l w',appR prog 27 ty v (.slice a c.length d) w=.ok l w'/\Grow w' B 36 3 AnyV l (n+c.length) (xs++c.flatMap L3.cells)/\ApR 36 47 B xs (c.flatMap L3.cells) w w':=by
 obtain⟨s,m,g,i,hz2⟩:=info_parts Qik;cases a with
 |none=>
  obtain rfl:=Qdu (sz:=3) (fun _=>rfl) (by decide) k;exact⟨v,w,Qpx underlying27 m h.own,by simpa using h,ApR.ok.refl w⟩
 |some ad=>
  exact Grow.appX (by decide) h (ys:=c.flatMap L3.cells) underlying27 m g i hz2 rfl (by decide) ad c.length d (Qas (sz:=3) (fun _=>rfl) c) (fun j u o=>by
   obtain⟨b,p,e,q,r⟩:=k.row.cell j u o;cases e;rw[Qao]
   exact r) (Qdo (fun e=>e.one) c) f (by decide) hB
def gvBar(b:Int):B6:=⟨0,b,tx1,⟨#[]⟩,⟨#[]⟩,⟨#[]⟩⟩
def gvB:List B6:=[gvBar 1,gvBar 2]
def gvH:List H3:=[⟨1,1,⟨#[]⟩⟩,⟨1,2,⟨#[]⟩⟩,⟨2,1,⟨#[]⟩⟩,⟨2,2,⟨#[]⟩⟩]
def gvL:List L3:=[⟨0,tx1,⟨#[50]⟩⟩]
def gvVB:List (Nat × Nat × Rat × Rat):=[(0,1,1,0),(0,2,0,1)]
def gvVH:List Nat:=[2,3,4,5]
def gvVS:List (Nat × Rat × Rat):=[(0,1,2)]
theorem qe_of:QOf (⟨#[]⟩:ByteArray).data.toList 0:=QOf.empty
theorem Qiq:FrSized cornerJ gvB gvH:=by
 refine⟨corner_sized.1,?_,?_⟩
 .
  intro b a;simp[gvB,gvBar] at a;rcases a with rfl|rfl<;>exact⟨by decide,by decide,by decide,by decide⟩
 .
  intro x c;simp[gvH] at c;rcases c with rfl|rfl|rfl|rfl<;>decide
theorem Qpd:FrV 1048576 cornerJ gvB gvH gvVB gvVH:=by
 refine⟨by decide,by decide,by decide,rfl,rfl,?_,?_,by decide⟩
 .
  intro i b p d e
  match i,d,e with
  |0,d,e=>
   cases d;cases e;exact⟨rfl,rfl,by decide,_,_,0,0,1,0,rfl,rfl,by decide,by decide,by decide,by decide,q0_of,q0_of,q1_of,q0_of,by decide +kernel,by decide +kernel⟩
  |1,d,e=>
   cases d;cases e;exact⟨rfl,rfl,by decide,_,_,0,0,0,1,rfl,rfl,by decide,by decide,by decide,by decide,q0_of,q0_of,q0_of,q1_of,by decide +kernel,by decide +kernel⟩
  |n+2,d,e=>cases d
 .
  intro i h r a c
  match i,a,c with
  |0,a,c=>
   cases a;cases c;exact⟨1,rfl,by decide,rfl⟩
  |1,a,c=>
   cases a;cases c;exact⟨1,rfl,by decide,rfl⟩
  |2,a,c=>
   cases a;cases c;exact⟨2,rfl,by decide,rfl⟩
  |3,a,c=>
   cases a;cases c;exact⟨2,rfl,by decide,rfl⟩
  |n+4,a,c=>cases a
theorem Qir:FrameFault cornerJ gvB gvH 0 0:=by
 refine .inr (.inr ⟨by rintro(h|h|h|h)<;>exact absurd h (by decide),?_,.inr ⟨?_,rfl,rfl⟩⟩)
 .
  intro i x a
  match i,a with
  |0,a=>
   cases a;exact .inr ⟨⟨by decide,by decide⟩,⟨by decide,by decide⟩,_,_,rfl,rfl,0,0,1,0,1,0,0,q0_of,q0_of,q1_of,q0_of,q1_of,qe_of,qe_of,by decide +kernel⟩
  |1,a=>
   cases a;exact .inr ⟨⟨by decide,by decide⟩,⟨by decide,by decide⟩,_,_,rfl,rfl,0,0,0,1,1,0,0,q0_of,q0_of,q0_of,q1_of,q1_of,qe_of,qe_of,by decide +kernel⟩
  |n+2,a=>cases a
 .
  intro i x a
  match i,a with
  |0,a=>cases a;decide
  |1,a=>cases a;decide
  |2,a=>cases a;decide
  |3,a=>cases a;decide
  |n+4,a=>cases a
theorem Qpe:∀(i:Nat) (l:L3) (p:Nat × Rat × Rat),gvL[i]?=some l->gvVS[i]?=some p->LoadV 3 l p:=by
 intro i l p hl a
 match i,hl,a with
 |0,hl,a=>
  cases hl;cases a;exact⟨rfl,by decide,q1_of,q2_of,by decide,by decide⟩
 |n+1,hl,a=>cases hl
theorem Qdv(i:Nat):agn gvVS i=if i=0 then -1 else if i=1 then -2 else 0:=by
 have e:agn gvVS=agnStep (fun _=>0) (0,1,2):=rfl;rw[e];by_cases a:i=0
 .
  subst a;rw[if_pos rfl];decide +kernel
 .
  by_cases b:i=1
  .
   subst b;rw[if_neg (by decide),if_pos rfl];decide +kernel
  . rw[if_neg a,if_neg b,Qc8 (by simpa using a) (by simpa using b)]
theorem Qpf{b:Nat}:Wh 1 (b+1) (-2):=⟨-2,by decide +kernel,by rw[Nat.pow_add];have:0<2 ^ b:=Nat.pow_pos (by decide);omega⟩
theorem Qpg(b:Nat):GivP 1 (b+1) 1 (b+1) gvVB gvB.length gvH.length (fun _=>1) (fun _=>0) (fun _=>0) (agn gvVS):=by
 refine⟨⟨by decide,Nat.one_le_two_pow,fun p a=>?_⟩,by decide,Nat.one_le_two_pow,fun i _=>⟨Qbm (.inr (.inl rfl)),Qbm (.inl rfl)⟩,fun i _=>Qbm (.inl rfl),fun i=>?_⟩
 . simp only[gvVB,List.mem_cons,List.not_mem_nil,or_false] at a
   rcases a with rfl|rfl<;>exact⟨Qbm (by decide +kernel),Qbm (by decide +kernel)⟩
 .
  rw[Qdv]
  split
  . exact Qbm (.inr (.inr rfl))
  .
   split
   . exact Qpf
   . exact Qbm (.inl rfl)
theorem Qph:∀k i,Fits (agn (gvVS.take k) i) 10:=fun k i=>by
 match k with
 |0=>exact Fits.zero.mono (by decide)
 |k+1=>
  have e:gvVS.take (k+1)=gvVS:=by simp[gvVS]
  rw[e,Qdv]
  split
  . exact⟨by decide +kernel,by decide +kernel⟩
  .
   split
   . exact⟨by decide +kernel,by decide +kernel⟩
   . exact Fits.zero.mono (by decide)
theorem Qpi(m:Vec):Giv.Settles 6 2 (balM gvVB 2 gvVH) (fun _=>1) (fun _=>0) (freeW gvVH) (hldM gvVH (fun _=>0) 4) (agn gvVS) m↔(m 0=1/\m 1=2/\m 2=0/\m 3=0/\m 4=0/\m 5=0):=by
 have f0:freeW gvVH 0=true:=by decide
 have f1:freeW gvVH 1=true:=by decide
 have f2:freeW gvVH 2=false:=by decide
 have f3:freeW gvVH 3=false:=by decide
 have f4:freeW gvVH 4=false:=by decide
 have f5:freeW gvVH 5=false:=by decide
 have y:∀w,hldM gvVH (fun _=>0) 4 w=0:=fun w=>by
  have l:∀k,hldM gvVH (fun _=>0) k w=0:=fun k=>by
   induction k with
   |zero=>rfl
   |succ k G=>
    unfold hldM
    split
    . rfl
    . exact G
  exact l 4
 have b:balM gvVB 2 gvVH 0 0=1:=by decide +kernel
 have c:balM gvVB 2 gvVH 1 0=0:=by decide +kernel
 have o:balM gvVB 2 gvVH 2 0= -1:=by decide +kernel
 have p:balM gvVB 2 gvVH 3 0=0:=by decide +kernel
 have q:balM gvVB 2 gvVH 4 0=0:=by decide +kernel
 have r:balM gvVB 2 gvVH 5 0=0:=by decide +kernel
 have d:balM gvVB 2 gvVH 0 1=0:=by decide +kernel
 have e:balM gvVB 2 gvVH 1 1=1:=by decide +kernel
 have s:balM gvVB 2 gvVH 2 1=0:=by decide +kernel
 have t:balM gvVB 2 gvVH 3 1=0:=by decide +kernel
 have u:balM gvVB 2 gvVH 4 1=0:=by decide +kernel
 have v:balM gvVB 2 gvVH 5 1= -1:=by decide +kernel
 have z:Giv.sOf 6 (balM gvVB 2 gvVH) m 0= -(m 0)+m 2:=by
  simp only[Giv.sOf,dot,b,c,o,p,q,r];grind
 have A:Giv.sOf 6 (balM gvVB 2 gvVH) m 1= -(m 1)+m 5:=by
  simp only[Giv.sOf,dot,d,e,s,t,u,v];grind
 have B:Giv.putF 2 (balM gvVB 2 gvVH) (Giv.tOf 6 (balM gvVB 2 gvVH) (fun _=>1) (fun _=>0) m) 0= -(m 0)+m 2:=by
  simp only[Giv.putF,Giv.tOf,dot,b,d,z,A];grind
 have C:Giv.putF 2 (balM gvVB 2 gvVH) (Giv.tOf 6 (balM gvVB 2 gvVH) (fun _=>1) (fun _=>0) m) 1= -(m 1)+m 5:=by
  simp only[Giv.putF,Giv.tOf,dot,c,e,z,A];grind
 have D:agn gvVS 0= -1:=by rw[Qdv];rfl
 have E:agn gvVS 1= -2:=by rw[Qdv];rfl
 constructor
 .
  intro⟨h,F⟩;have x:=F 0 (by decide) f0;have k1:=F 1 (by decide) f1;have k2:=h 2 (by decide) f2;have i:=h 3 (by decide) f3;have j:=h 4 (by decide) f4;have f:=h 5 (by decide) f5;rw[B,D] at x;rw[C,E] at k1;rw[y] at k2 i j f;exact⟨by grind,by grind,k2,i,j,f⟩
 .
  intro⟨x,k1,k2,i,j,f⟩;refine⟨fun w g a=>?_,fun w g a=>?_⟩
  .
   rw[y]
   match w,g,a with
   |0,_,a=>rw[f0] at a;cases a
   |1,_,a=>rw[f1] at a;cases a
   |2,_,_=>exact k2
   |3,_,_=>exact i
   |4,_,_=>exact j
   |5,_,_=>exact f
   |n+6,g,_=>omega
  .
   match w,g,a with
   |0,_,_=>rw[B,D,x,k2];decide +kernel
   |1,_,_=>rw[C,E,k1,f];decide +kernel
   |2,_,a=>rw[f2] at a;cases a
   |3,_,a=>rw[f3] at a;cases a
   |4,_,a=>rw[f4] at a;cases a
   |5,_,a=>rw[f5] at a;cases a
   |n+6,g,_=>omega
theorem qt2:QText (⟨#[50]⟩:ByteArray).data.toList 2:=⟨[50],⟨[50],.inr ⟨by decide,[2],⟨fun d a=>by simp at a;omega,.inr (by simp),by simp[val]⟩,by decide⟩,by decide⟩,.inl ⟨by decide,rfl⟩⟩
theorem qtm2:QText (⟨#[45,50]⟩:ByteArray).data.toList (-2):=⟨[45,50],⟨[50],.inr ⟨by decide,[2],⟨fun d a=>by simp at a;omega,.inr (by simp),by simp[val]⟩,by decide⟩,by decide⟩,.inl ⟨by decide,rfl⟩⟩
theorem qt52:QText (⟨#[53,47,50]⟩:ByteArray).data.toList (5 / 2):=by
 have b:(5 / 2:Rat).num=5:=by kernel_rfl
 have a:(5 / 2:Rat).den=2:=by kernel_rfl
 refine⟨[53],?_,.inr ⟨by rw[a];decide,[50],?_,rfl⟩⟩
 . rw[b]
   exact⟨[53],.inr ⟨by decide,[5],⟨by simp[Small],by simp[Trim],by simp[val]⟩,by decide⟩,by decide⟩
 . rw[a]
   exact .inr ⟨by decide,[2],⟨by simp[Small],by simp[Trim],by simp[val]⟩,by decide⟩
theorem Qcv{s t:Vs}{q:Rat}(h:QText s.data.toList q)(k:QText t.data.toList q):s=t:=by
 have:=h.inj k;cases s;cases t
 congr 1
 exact Array.toList_inj.1 this
theorem Qpj{w j:Vz}{e:Ending}{v:Nat}(h:MoveSays w 3 2 4 v gvVB gvVH (fun _=>1) (fun _=>0) (fun _=>0) (agn gvVS) e j):
 ∃(k l o:Nat) (C:Vw),e=.returned (.tuple #[.agg #[.slice (some ⟨k,0,none⟩) 3 3,.slice (some ⟨l,0,none⟩) 2 2,.slice (some ⟨o,0,none⟩) 4 4],.agg #[.int .i64 0,.int .i64 0]])/\
  SB j k 34 C/\C[0]?=some (.string ⟨#[49]⟩)/\C[1]?=some (.string ⟨#[50]⟩)/\SB j l 32 (textsV [⟨#[45,49]⟩,⟨#[45,50]⟩]).toArray/\Below w.heap.size w j:=by
 have b:=fun m=>Qpi m
 obtain⟨h|h|⟨k,l,o,x,y,L,m,t,rfl,hl,f,g,d,a,_,_,q,i,_⟩,z⟩:=h
 . exact absurd ((b (vec [1,2,0,0,0,0])).2 (by decide +kernel)) (h.2 _)
 .
  obtain⟨_,m,A,B,D,r,M,c⟩:=h;obtain⟨n,x1,x2,x3,s,p⟩:=(b m).1 B;obtain⟨E,y1,y2,y3,F,G⟩:=(b A).1 D
  exfalso
  have e:r=0∨r=1∨r=2∨r=3∨r=4∨r=5:=by omega
  rcases e with rfl|rfl|rfl|rfl|rfl|rfl
  . exact c (n.trans E.symm)
  . exact c (x1.trans y1.symm)
  . exact c (x2.trans y2.symm)
  . exact c (x3.trans y3.symm)
  . exact c (s.trans F.symm)
  . exact c (p.trans G.symm)
 .
  obtain⟨n,x1,x2,x3,s,p⟩:=(b m).1 i;have t0:t 0= -1:=by
   rw[q]
   show (1:Rat)*((1:Rat)*(m 2 - m 0)+0*(m 3 - m 1) - 0)= -1
   rw[n,x2];grind
  have t1:t 1= -2:=by
   rw[q]
   show (1:Rat)*((0:Rat)*(m 4 - m 0)+1*(m 5 - m 1) - 0)= -2
   rw[x1,p];grind
  match x,hl,g,f with
  | [s0,s1,s2],_,g,f=>
    obtain⟨u,k1⟩:=g 0 s0 rfl;rw[show 2*0=0 from rfl,n] at u;rw[show 2*0+1=1 from rfl,x1] at k1;have H:=Qcv u qt1;have I:=Qcv k1 qt2;refine⟨k,l,o,_,rfl,f,?_,?_,?_,z⟩
    . simp[S2.cells,H]
    . simp[S2.cells,I]
    .
     match y,a,d with
     | [b0,b1],a,d=>
       have J:=Qcv (t0 ▸ a.2 0 b0 rfl) qtm;have K:=Qcv (t1 ▸ a.2 1 b1 rfl) qtm2;rw[J,K] at d;exact d
     | [],a,_=>exact absurd a.1 (by decide)
     | [_],a,_=>exact absurd a.1 (by simp)
     |_ :: _ :: _ :: _,a,_=>exact absurd a.1 (by simp)
end Go.Proofs.YtkkadnoecklepaaGreatDoor
