import Derived.Test.YtfgclhpgdanmfaaGreatDoorS26RowsL
namespace Go.Proofs.YtfgclhpgdanmfaaGreatDoor
set_option linter.defProp false
open Go.RowKit
open Go.Proofs.Tryz
set_option linter.unusedSimpArgs false
set_option linter.unusedVariables false
set_option maxHeartbeats 8000000
set_option maxRecDepth 1000000
variable{u w:Vz}{a g:Nat}
def EJ(W K:Nat)(M:Aj)(b:AL)(w:Vz)(e:As)(w':Vz):Prop:=
 ((e=.returned (.tuple #[.slice none 0 0,.int .i64 8])/\∀x,¬sH W M b x)∨
  (e=.returned (.tuple #[.slice none 0 0,.int .i64 9])/\∃x y,sH W M b x/\sH W M b y/\∃c,c<W/\x c≠y c)∨
  (∃(g:Nat)(us:Ah),e=.returned (.tuple #[.slice (some ⟨g,0,none⟩) W W,.int .i64 0])/\iQ w' g us/\us.length=W/\(∀t,t∈ us->t.k<=K)/\∀y,sH W M b y↔∀(i:Nat)(t:FE),us[i]?=some t->y i=t.q))/\Below w.heap.size w w'
def CG(W K:Nat)(M:Aj)(b:AL)(w:Vz)(e:As)(w':Vz):Prop:=
 ((e=.returned (.tuple #[.slice none 0 0,.int .i64 8])/\∀x,¬sH W M b x)∨
  (e=.returned (.tuple #[.slice none 0 0,.int .i64 9])/\∃x y,sH W M b x/\sH W M b y/\∃c,c<W/\x c≠y c)∨
  (∃(g:Nat)(us:Ah),e=.returned (.tuple #[.slice (some ⟨g,0,none⟩) W W,.int .i64 0])/\w.heap.size<=g/\iQ w' g us/\us.length=W/\(∀t,t∈ us->t.k<=K)/\∀y,sH W M b y↔∀(i:Nat)(t:FE),us[i]?=some t->y i=t.q))/\Below w.heap.size w w'
def Rv(a a':Vx)(cap cap' W K:Nat)(rs:AA)(F:Ah)(w:Vz)(I:Aq)(hI:pF K I)(h:sD w a cap W rs)(hk:∀r,r∈ rs->∀t,t∈ r.ts->t.k<=K)(h':lK w a' cap' F)(H:∀t,t∈ F->t.k<=K)(aa:F.length=rs.length)(hl:rs.length<=1000)(hW:W+1<=1000)(ab:0<K)(hK:4*K+1<68719476000)(h0:I 0 (List.zipWith (iz W) (rs.map MR.q) (F.map (·.q))) [] [])(R:∀L S d,I (W+1) L S d->ot 0 (W+1) S d/\(∀x,jH (W+1) (List.zipWith (iz W) (rs.map MR.q) (F.map (·.q))) x↔jH (W+1) S x)/\jT K S d):
 Calls prog 92 #[.slice a rs.length cap,.int .i64 W,.slice a' rs.length cap'] w (CG W K (rs.map MR.q) (F.map (·.q)) w):=by
 obtain⟨HJ,HI,H0,HF,an⟩:=Id (Sp a a' cap cap' W K rs F w h hk h' H aa hl oO) hI h0 R aa;clear hI h hk h' H h0 R aa;go_enter func92,ntmps92;go_wp2_with fail;go_fit HJ.o;rintro e w1 ⟨⟨g,ao,rfl,ap,aq,T,ar⟩,au⟩;have hM:ao.map MR.q=List.zipWith (iz W) (rs.map MR.q) (F.map (·.q)):=by
  apply fK;intro i;rw[uy,aP,aP,aP];rcases bB i rs.length with z|z
  . obtain⟨r,hr⟩:∃r,rs[i]?=some r:=⟨rs[i],gE z⟩;obtain⟨s,d⟩:∃s,F[i]?=some s:=⟨F[i]'(oB an.o),gE (oB an.o)⟩;obtain⟨r',A,h2⟩:=ar i r s hr d;rw[hr,d,A];simp[h2]
  . rw[aO oO,aO z]
    rfl
 have J:=RX (some ⟨g,0,none⟩) rs.length (W+1) K (W+1) ao w1 I HI.o (aq.tL rfl oO) T oO hW lZ ab hK (by rw[hM];exact H0.o);rw[ap]at J;simp only[mV,Int.natCast_one]at J;obtain⟨av,ad⟩:=Ia J au;clear J au aq T ar ap hM HJ;go_wp2_with fail;go_fit av.o;rintro e w2 ⟨⟨L,S,d,sv,hv,rfl,z,b3,b4,ae,af,aw⟩,ax⟩;obtain⟨b1,c1,rfl,_,_,_⟩:=ae.slice;obtain⟨b2,c2,rfl,_,_,_⟩:=af.slice;obtain⟨U,B,ay⟩:=HF.o _ _ _ z;obtain⟨HE,HN,bg,az,a0,bh,a1⟩:=If U B ay ae af aw (ad.o.trans (ax.mono ad.o.size));have b0:=ad.o.size;clear z ae af aw ax U B ay av;obtain⟨V,hV⟩:=nm (w2.alloc (.cells #[.int .i64 ((W:Int)+1),.slice b1 S.length c1,.slice b2 d.length c2] 183));have m:=Ua hV;have M:=Uc hV;have HV:=Hi hV;clear hV;go_wp2_with fail;rw[HV.o];go_fit (RV b2 c2 W d V (a0.o.below m.o).Ba oO);rintro e w3 ⟨rfl,rfl⟩;have a2:d.length=S.length:=sV HE.o.len;have C:=Hi a2;clear a2;obtain⟨x0,x1,x2,-⟩:=zc M.o;have l:=Hi (a1.o.trans (m.o.mono a1.o.size));by_cases hw:W∈ d
 . rw[dC hw];have HW:=Hi hw;clear hw;go_wp2;go_ret2;exact⟨.inl ⟨rfl,fun x=>Ob HE.o HN.o HW.o x⟩,l.o⟩
 .
  rw[bS hw];have HW:=Hi hw;clear hw;by_cases a3:d.length<W
  . have q1:((d.length:Int)<(W:Int)):=oO;go_wp2;go_ret2;exact⟨.inr (.inl ⟨rfl,Oa HE.o HN.o HW.o a3⟩),l.o⟩
  .
   have q1:¬((d.length:Int)<(W:Int)):=oO;obtain⟨a4,X,Y⟩:=N9 HE.o HN.o HW.o a3;obtain⟨bi,bj,bk,N⟩:=Ic (Rw w1.heap.size (W+1) K S d (.slice b1 S.length c1) (.slice b2 d.length c2) ((W:Int)+1) w3 (az.o.below m.o) (a0.o.below m.o) (bh.o.fr (vC m.o)) C.o.symm (fun c hc=>(HE.o.head c hc).2) bg.o oO oO ab hK) X Y a4;clear X Y a4;go_wp2_with fail;go_fit bi.o;rintro e G ⟨rfl,S',a5,a6,b⟩;have ag:O (Below w.heap.size w G):=Hi ⟨b.o.1.trans l.o.os,b.o.2.1.trans l.o.tape,b.o.2.2.1.trans l.o.output,aE l.o.size b.o.2.2.2,fun k hk=>(b.base k (aF hk l.o.size) (fun e=>by have:=(b.rows.lt e).1;omega)).trans (l.o.block k hk)⟩;have E:O (SB G w2.heap.size 183 #[.int .i64 ((W:Int)+1),.slice b1 S.length c1,.slice b2 d.length c2]):=Hi (by
    have A:=b.base w2.heap.size M.o.lt (fun e=>by
     obtain⟨D,d1,_⟩:=(az.o.below m.o).sb e
     exact M.o.unlike d1 kQ.symm rfl)
    have h2:=M.o;unfold SB at h2 ⊢;rw[A]
    exact h2)
   obtain⟨bl,ah,bm⟩:=Ib b a5 a6;have a7:=fun w=>B3 W oO w
   obtain⟨MC,ai⟩:=nm (((List.replicate W FE.zero).flatMap FE.cells).toArray);rw[ai]at a7;have bn:=Hi ai.symm;obtain⟨V4,P⟩:=nm (G.alloc (.cells MC 99));obtain⟨Z,n⟩:=nm G.heap.size;have bo:O (Below Z G V4):=Hi (by rw[<-P,<-n];exact(ac _ _).alloc lZ _);have bp:O (iQ V4 Z (List.replicate W FE.zero)):=Hi (by rw[<-P,<-n];exact DL G W MC bn.o);have y2:∀o,(G.alloc o).cell? ⟨w2.heap.size,2,none⟩=some (.slice b2 d.length c2):=fun o=>(E.o.alloc o).cell 2
   have bq:=Hi P;clear b a5 a6 ai P x0 x1 x2;go_wp2_with fail;rw[bq.o]
   try rw[n]
   clear y2 a7;go_loopw [34] (fun i wr=>∃(k:Nat)(us:Ah),k<=d.length/\i=.int .i64 k/\us.length=W/\iQ wr Z us/\(∀(i:Nat)(t:FE),i<k->us[i]?=some t->∃r,S'[i]?=some r/\t.q=r.q W)/\(∀t,t∈ us->t.k<=K)/\Below Z G wr) (fun i _=>d.length - (intOf i).toNat)
   case atStart=>exact⟨0,_,cJ _,rfl,sS,bp.o,fun i t z=>oO,fun t u=>by obtain⟨_,rfl⟩:=fM.1 u;exact ab,bo.o⟩
   case round=>
    obtain⟨k,us,hk,rfl,a8,a9,ba,bb,hb⟩:=hrel;obtain⟨Q,HQ,aj,bc,HB⟩:=Id a8 a9 ba bb hb;clear a8 a9 ba bb hb;by_cases br:k<d.length
    .
     have ak:Below G.heap.size G wr:=by rw[n];exact HB.o
     have b5:k<W:=oB N.o;obtain⟨r,hr⟩:∃r,S'[k]?=some r:=⟨S'[k]'(oC ah.o C.o),gE (oC ah.o C.o)⟩;obtain⟨j,al⟩:∃j,d[k]?=some j:=⟨d[k],gE br⟩;obtain rfl:=bj.o k j al;have b:=bl.o.below ak;have f:=b.ok r (mO hr);obtain⟨e,he⟩:∃e,r.ts[W]?=some e:=⟨r.ts[W]'(oB f.len),gE (oB f.len)⟩;obtain⟨rb,ro,bd,b6,d0,d1,d2⟩:=f.row.at he;have am:=f.row.get he;have be:=f.sz e (mO he);obtain⟨b7,b8,bs,b9,ca⟩:=b.heads.Ba.cell j (.int .i64 (j:Nat)) (by simp[lU,al]);obtain⟨gb,go,bt,cb,bu⟩:=b.rows.Ba.cell j r.val (by rw[aP,hr];rfl);rw[MR.val,bd,f.len]at bu;obtain⟨-,x1,x2,-⟩:=zc (E.o.below ak E.o.lt);subst bs;subst bt;obtain⟨o1,o2,o3⟩:=am.1.one;have cc:=ns prog o1;have cd:=ns prog o2;have ce:=ns prog o3;obtain⟨y0,bf⟩:∃y0,us[j]?=some y0:=⟨us[j]'(oB Q.o),gE (oB Q.o)⟩;have f0:=HQ.o.blk.free (j*3);have f1:=HQ.o.blk.free (j*3+1);have f2:=HQ.o.blk.free (j*3+2);obtain⟨gy,oy,bv,_,t0,t1,t2⟩:=HQ.o.row.at bf;cases bv;simp only[cC]at t0 t1 t2;have q2:((j:Int)<(d.length:Int)):=oO;have q3:((j:Int)<(W:Int)):=oO;have q4:((j:Int)<(S.length:Int)):=oB C.o;have q5:((W:Int)<((W+1:Nat):Int)):=oO;obtain⟨bw,bx,HR,bz⟩:=Ic am (nQ he) hr be;clear ak hr al b f he bd am bf o1 o2 o3 be;go_wp2_with fail;refine⟨⟨j+1,us.set j e,oO,by go_num,by rw[aQ];exact Q.o,HQ.o.set (oB Q.o) bw.o,fun i t z u=>?_,fun t u=>?_,((HB.o.setCell (p:=⟨Z,j*3,none⟩) lZ _).setCell (p:=⟨Z,j*3+1,none⟩) lZ _).setCell (p:=⟨Z,j*3+2,none⟩) lZ _⟩,?_⟩
     . rcases bB i j with A|A
       . rw[bN oO]at u
         exact aj.o i t A u
       . obtain rfl:i=j:=oO;rw[bP (oB Q.o)]at u;obtain rfl:=aD u;exact⟨r,HR.o,bx.o.symm⟩
     . rcases dN u with u|rfl
       . exact bc.o t u
       . exact bz.o
     . simp[intOf]
       omega
    . have H:k=d.length:=oO;subst H;go_wp2;go_ret2;refine⟨.inr (.inr ⟨Z,us,rfl,by rw[<-n];exact ag.o.size,HQ.o,Q.o,bc.o,fun y=>?_⟩),ag.o.trans (HB.o.mono (by rw[<-n];exact ag.o.size))⟩;rw[bk.o y,<-bm.o];constructor
      . intro hy i t u;obtain⟨r,A,h2⟩:=aj.o i t (by have:=(gZ u).1;have:=Q.o;have:=N.o;omega) u;rw[h2];exact hy i r.q (by rw[aP,A];rfl)
      . intro hy i v hv;rw[aP]at hv;obtain⟨r,A,rfl⟩:=aZ.1 hv;have z:i<us.length:=by have:=(gZ A).1;have:=Q.o;have:=N.o;have:=ah.o;have:=C.o;omega
        obtain⟨r2,k1,k2⟩:=aj.o i us[i] (oC Q.o N.o) (gE z);obtain rfl:=aD (A.symm.trans k1);rw[hy i us[i] (gE z),k2]
def Ru(a d:Vx)(cap cap' W K:Nat)(rs:AA)(b:Ah)(w:Vz)(I:Aq)(m:pF K I)(h:sD w a cap W rs)(hk:∀r,r∈ rs->∀t,t∈ r.ts->t.k<=K)(n:lK w d cap' b)(f:∀t,t∈ b->t.k<=K)(i:b.length=rs.length)(hl:rs.length<=1000)(hW:W+1<=1000)(j:0<K)(o:4*K+1<68719476000)(p:I 0 (List.zipWith (iz W) (rs.map MR.q) (b.map (·.q))) [] [])(c:∀L S l,I (W+1) L S l->ot 0 (W+1) S l/\(∀x,jH (W+1) (List.zipWith (iz W) (rs.map MR.q) (b.map (·.q))) x↔jH (W+1) S x)/\jT K S l):
 Calls prog 92 #[.slice a rs.length cap,.int .i64 W,.slice d rs.length cap'] w (EJ W K (rs.map MR.q) (b.map (·.q)) w):=
 (Rv a d cap cap' W K rs b w I m h hk n f i hl hW j o p c).mono fun e w' ⟨s,u⟩=>⟨s.imp id (fun h=>h.imp id (fun ⟨g,us,e,_,h⟩=>⟨g,us,e,h⟩)),u⟩
def YL{P:Au}{l:Func}{p u:Tmp}{ty:Vr}(h:l.results=#[.cell p ty,.cell u ty])(a:Vw)(w:Vz)(g e:Nat)(t:Vr)(f b:Vw)(fr c:Nat × Nat)(d:TypeDesc)(o:a.getD p undef=.pointer (some ⟨g,0,none⟩))(q:w.heap[g]?=some (.cells f t fr))(i:a.getD u undef=.pointer (some ⟨e,0,none⟩))(j:w.heap[e]?=some (.cells b t c))(m:P.underlying ty=some d)(n:(match d with| .struct _| .array _ _=>true|_=>false)=true)(r:(P.info? ty).map (·.size)=some f.size)(k:(P.info? ty).map (·.size)=some b.size):
 (results l a).run P w=.ok (.tuple #[.agg f,.agg b]) w:=by
 have s:a[p]?.getD undef=.pointer (some ⟨g,0,none⟩):=sU o;have v:a[u]?.getD undef=.pointer (some ⟨e,0,none⟩):=sU i;simp[results,h,s,v,asAddr,qX w g t ty f fr d q m n r,qX w e t ty b c d j m n k]
def CD(w:Vz)(k:Nat)(qx qy:Rat)(e:As)(w':Vz):Prop:=∃x1 x2 x3 y1 y2 y3,e=.returned (.tuple #[.agg #[x1,x2,x3],.agg #[y1,y2,y3]])/\iH w w' [⟨y1,y2,y3,qy,k⟩,⟨x1,x2,x3,qx,k⟩]
def ww(w:Vz)(o:Obj)(t:Vr)(C:Vw):SB ((w.alloc o).alloc (.cells C t)) (w.heap.size+1) t C:=by have h:=cK (w.alloc o) t C;rw[bH]at h;exact h
def IV{x y z:Ac}{q:Rat}(h:eF w (.agg #[x,y,z]) q):∃neg a n c b m d,x=.bool neg/\y=.slice a n c/\z=.slice b m d:=by obtain⟨neg,a,n,c,b,m,d,e,_⟩:=h;simp at e;exact⟨neg,a,n,c,b,m,d,e.1,e.2.1,e.2.2⟩
def Qd:pX #[.bool false,.slice none 0 0,.slice none 0 0]:=Ps sS
def YK{L:Ah}{x1 x2 x3 y1 y2 y3:Ac}(h:iH w u L)(d:w.heap.size<=g)(c:w.heap.size<=a)(b:g≠a)(s:SB u g 99 #[.bool false,.slice none 0 0,.slice none 0 0])(e:SB u a 99 #[.bool false,.slice none 0 0,.slice none 0 0]):
 iH w ((((((u.setCell ⟨g,0,none⟩ x1).setCell ⟨g,1,none⟩ x2).setCell ⟨g,2,none⟩ x3).setCell ⟨a,0,none⟩ y1).setCell ⟨a,1,none⟩ y2).setCell ⟨a,2,none⟩ y3) L/\SB ((((((u.setCell ⟨g,0,none⟩ x1).setCell ⟨g,1,none⟩ x2).setCell ⟨g,2,none⟩ x3).setCell ⟨a,0,none⟩ y1).setCell ⟨a,1,none⟩ y2).setCell ⟨a,2,none⟩ y3) g 99 #[x1,x2,x3]/\SB ((((((u.setCell ⟨g,0,none⟩ x1).setCell ⟨g,1,none⟩ x2).setCell ⟨g,2,none⟩ x3).setCell ⟨a,0,none⟩ y1).setCell ⟨a,1,none⟩ y2).setCell ⟨a,2,none⟩ y3) a 99 #[y1,y2,y3]:=by
 have f:=h.only ((((cX g u).setCell 0 x1).setCell 1 x2).setCell 2 x3) s Qd d;have t1:=((s.set 0 x1).set 1 x2).set 2 x3;have t2:=((e.other b.symm 0 x1).other b.symm 1 x2).other b.symm 2 x3;have i:=f.only ((((cX a _).setCell 0 y1).setCell 1 y2).setCell 2 y3) t2 Qd c;refine⟨i,?_,?_⟩
 . have:=((t1.other b 0 y1).other b 1 y2).other b 2 y3
   simpa using this
 . have:=((t2.set 0 y1).set 1 y2).set 2 y3
   simpa using this
def Qc(W a2 a3:Vx)(c1 c2 c3 nb nh A B n:Nat)(I:Ad)(b:B6)(s t:S2)(w:Vz)(hg:jq w)(hj:eO S2.cells w W c1 I)(hA:b.a=(A:Nat))(hB:b.b=(B:Nat))(hs:I[A]?=some s)(ht:I[B]?=some t)(hl:I.length<=10)(z1:s.x.size<=n)(z2:s.y.size<=n)(z3:t.x.size<=n)(z4:t.y.size<=n)(hn:n<=1073741824){x1 y1 x2 y2:Rat}(q1:il s.x.data.toList x1)(q2:il s.y.data.toList y1)(q3:il t.x.data.toList x2)(q4:il t.y.data.toList y2):
 Calls prog 149 #[.agg #[.slice W I.length c1,.slice a2 nb c2,.slice a3 nh c3],.agg #[.int .i64 b.a,.int .i64 b.b,.string b.c,.string b.e,.string b.l,.string b.m]] w (CD w (4*n+1+(4*n+1)+1) (x2 - x1) (y2 - y1)):=by
 obtain⟨HG,HJ⟩:=Ia hg hj;have a4:=(gZ hs).1;have a5:=(gZ ht).1;obtain⟨HS,HT⟩:=Ia hs ht;rw[hA,hB];obtain⟨R,HQ⟩:=Ia (⟨z1,z2,z3,z4,hn⟩:s.x.size<=n/\s.y.size<=n/\t.x.size<=n/\t.y.size<=n/\n<=1073741824) (⟨q1,q2,q3,q4⟩:il s.x.data.toList x1/\il s.y.data.toList y1/\il t.x.data.toList x2/\il t.y.data.toList y2);have iA:((A:Int)<(I.length:Int)):=oO;have iB:((B:Int)<(I.length:Int)):=oO;clear hg hj hs ht z1 z2 z3 z4 hn q1 q2 q3 q4 hA hB;go_enter func149,ntmps149;obtain⟨r,D⟩:=nm w.heap.size;obtain⟨V,T⟩:=nm ((((w.alloc (.cells #[.slice W I.length c1,.slice a2 nb c2,.slice a3 nh c3] 26)).alloc (.cells #[.int .i64 (A:Nat),.int .i64 (B:Nat),.string b.c,.string b.e,.string b.l,.string b.m] 72)).alloc (.cells #[.bool false,.slice none 0 0,.slice none 0 0] 99)).alloc (.cells #[.bool false,.slice none 0 0,.slice none 0 0] 99));have S:Bl w V:=by rw[<-T];exact(((bR.alloc lZ _).alloc sS _).alloc sO _).alloc sO _
 have U:V.heap.size=r+4:=by rw[<-T,<-D];simp
 have s1:SB V r 26 #[.slice W I.length c1,.slice a2 nb c2,.slice a3 nh c3]:=by rw[<-T,<-D];exact(((cK w _ _).alloc _).alloc _).alloc _
 have s2:SB V (r+1) 72 #[.int .i64 (A:Nat),.int .i64 (B:Nat),.string b.c,.string b.e,.string b.l,.string b.m]:=by have h:=cK (w.alloc (.cells #[.slice W I.length c1,.slice a2 nb c2,.slice a3 nh c3] 26)) 72 #[.int .i64 (A:Nat),.int .i64 (B:Nat),.string b.c,.string b.e,.string b.l,.string b.m];rw[bH,D]at h;rw[<-T];exact(h.alloc _).alloc _
 have s3:SB V (r+2) 99 #[.bool false,.slice none 0 0,.slice none 0 0]:=by have h:=cK ((w.alloc (.cells #[.slice W I.length c1,.slice a2 nb c2,.slice a3 nh c3] 26)).alloc (.cells #[.int .i64 (A:Nat),.int .i64 (B:Nat),.string b.c,.string b.e,.string b.l,.string b.m] 72)) 99 #[.bool false,.slice none 0 0,.slice none 0 0];rw[bH,bH,D]at h;rw[<-T];exact h.alloc _
 have s4:SB V (r+3) 99 #[.bool false,.slice none 0 0,.slice none 0 0]:=by have h:=cK (((w.alloc (.cells #[.slice W I.length c1,.slice a2 nb c2,.slice a3 nh c3] 26)).alloc (.cells #[.int .i64 (A:Nat),.int .i64 (B:Nat),.string b.c,.string b.e,.string b.l,.string b.m] 72)).alloc (.cells #[.bool false,.slice none 0 0,.slice none 0 0] 99)) 99 #[.bool false,.slice none 0 0,.slice none 0 0];rw[bH,bH,bH,D]at h;rw[<-T];exact h
 obtain⟨jb,jo,rfl,a6,u0,u1⟩:=(HJ.o.below S).spot HS.o;obtain⟨a7,a8,e',_,u2,u3⟩:=(HJ.o.below S).spot HT.o;cases e';have f0:=s1.cell 0;have f1:=s2.cell 0;have f2:=s2.cell 1;simp at f0 f1 f2;obtain⟨aa,HV,Y,aw,ab,ad⟩:=Ie S T D U s3 s4;clear S U s1 s2 s3 s4 T D;go_wp2_with fail;simp only[Y.o];rw[HV.o];go_region_held3 (fun v=>v.cell? ⟨r,0,none⟩=some (.slice (some ⟨jb,jo,none⟩) I.length c1)/\v.cell? ⟨r+1,0,none⟩=some (.int .i64 (A:Nat))/\v.cell? ⟨r+1,1,none⟩=some (.int .i64 (B:Nat))/\v.cell? ⟨jb,jo+A*2,none⟩=some (.string s.x)/\v.cell? ⟨jb,jo+A*2+1,none⟩=some (.string s.y)/\v.cell? ⟨jb,jo+B*2,none⟩=some (.string t.x)/\v.cell? ⟨jb,jo+B*2+1,none⟩=some (.string t.y)) ((first|(simp [*];done)|go_keep)) (fail)
 all_goals
  first
  |(obtain⟨X,J,K,hX,h1,h2,N,O,P⟩:∃X J K,((V.alloc (.cells #[.string s.x,.string s.y] 34)).alloc (.cells #[.string t.x,.string t.y] 34)).drew=X/\V.heap.size=J/\V.heap.size+1=K/\Below V.heap.size V X/\SB X J 34 #[.string s.x,.string s.y]/\SB X K 34 #[.string t.x,.string t.y]:=⟨_,_,_,rfl,rfl,rfl,((bR.alloc lZ _).alloc sS _).drew,(cK V _ _).alloc _,ww V _ _ _⟩
    rw[hX,h2,h1])
  |(obtain⟨X,J,K,hX,h1,h2,N,O,P⟩:∃X J K,((V.alloc (.cells #[.string t.x,.string t.y] 34)).alloc (.cells #[.string s.x,.string s.y] 34)).drew=X/\V.heap.size+1=J/\V.heap.size=K/\Below V.heap.size V X/\SB X J 34 #[.string s.x,.string s.y]/\SB X K 34 #[.string t.x,.string t.y]:=⟨_,_,_,rfl,rfl,rfl,((bR.alloc lZ _).alloc sS _).drew,ww V _ _ _,(cK V _ _).alloc _⟩
    rw[hX,h1,h2])
  obtain⟨d,g,ae⟩:=Ib O P (aa.o.trans (N.mono aa.o.size));obtain⟨Z,i,j⟩:=Ib (FR (HG.o.below ae.o)) (ab.o.below N ab.o.lt) (ad.o.below N ad.o.lt);have z:=O.cell 0;have k1:=O.cell 1;have k2:=P.cell 0;have C:=P.cell 1;simp at z k1 k2 C;clear N O P f0 f1 f2 u0 u1 u2 u3;have hz:=aw.o;have n1:J≠r+1+1:=oO;have n2:J≠r+1+1+1:=oO;have n3:K≠r+1+1:=oO;have n4:K≠r+1+1+1:=oO;have n5:=n1.symm;have n6:=n2.symm;have n7:=n3.symm;have n8:=n4.symm;have n9:J≠r+1:=oO;have af:K≠r+1:=oO;have ax:=af.symm;have ay:=n9.symm;clear hz h1 h2 hX;go_wp2_with fail;go_region_held3 (fun v=>v.cell? ⟨J,0,none⟩=some (.string s.x)/\v.cell? ⟨J,1,none⟩=some (.string s.y)/\v.cell? ⟨K,0,none⟩=some (.string t.x)/\v.cell? ⟨K,1,none⟩=some (.string t.y)) ((first|(simp [*];done)|go_keep)) (first
   |
    (go_at_call_of 53 (Value.string t.x)
     apply cM;apply zT (w0:=X) (L:=[]) (n:=n) t.x;(first|exact Z.o|exact Z.o.drew);exact R.o.2.2.1;exact R.o.2.2.2.2;rintro e v1 ⟨q,Q,az,a9,ba,rfl,u⟩;rw[Q.inj HQ.o.2.2.1]at u;have E:=Hi u;clear Q u Z z k1 k2 C;have z:=(d.o.below E.o.base d.o.lt).cell 0;have k1:=(d.o.below E.o.base d.o.lt).cell 1;have k2:=(g.o.below E.o.base g.o.lt).cell 0;have C:=(g.o.below E.o.base g.o.lt).cell 1;simp at z k1 k2 C
     skip)
   |
    (go_at_call_of 53 (Value.string s.x)
     apply cM;apply zT (w0:=X) (L:=_) (n:=n) s.x;(first|exact E.o|exact E.o.drew);exact R.o.1;exact R.o.2.2.2.2;rintro e v2 ⟨q,Q,bb,bc,bd,rfl,u⟩;rw[Q.inj HQ.o.1]at u;have F:=Hi u;clear Q u E z k1 k2 C;have z:=(d.o.below F.o.base d.o.lt).cell 0;have k1:=(d.o.below F.o.base d.o.lt).cell 1;have k2:=(g.o.below F.o.base g.o.lt).cell 0;have C:=(g.o.below F.o.base g.o.lt).cell 1;simp at z k1 k2 C
     skip)
   |
    (go_at_call_of 47 az
     apply cM;(first|(apply iH.qW F.o)|(apply iH.qW F.o.drew));(repeat(first|exact mH|apply mT))
     (have:=R.o.2.2.2.2;omega)
     rintro e v3 ⟨be,bf,bg,rfl,u⟩;obtain⟨ag,ah,ai,aj,ak,al,am,rfl,rfl,rfl⟩:=IV (u.get (bM _)).1;have k:=Hi u;clear u F z k1 k2 C;have z:=(d.o.below k.o.base d.o.lt).cell 0;have k1:=(d.o.below k.o.base d.o.lt).cell 1;have k2:=(g.o.below k.o.base g.o.lt).cell 0;have C:=(g.o.below k.o.base g.o.lt).cell 1;simp at z k1 k2 C;(try clear p0 p1 p2 p3 p4 p5 r0 r1 r2 r3 r4 r5);obtain⟨p0,p1,p2,-⟩:=zc (i.o.below k.o.base i.o.lt);obtain⟨p3,p4,p5,-⟩:=zc (j.o.below k.o.base j.o.lt);have r0:v3.frozen? ⟨r+1+1,0,none⟩=false:=(i.o.below k.o.base i.o.lt).free 0;have r1:v3.frozen? ⟨r+1+1,1,none⟩=false:=(i.o.below k.o.base i.o.lt).free 1;have r2:v3.frozen? ⟨r+1+1,2,none⟩=false:=(i.o.below k.o.base i.o.lt).free 2;have r3:v3.frozen? ⟨r+1+1+1,0,none⟩=false:=(j.o.below k.o.base j.o.lt).free 0;have r4:v3.frozen? ⟨r+1+1+1,1,none⟩=false:=(j.o.below k.o.base j.o.lt).free 1;have r5:v3.frozen? ⟨r+1+1+1,2,none⟩=false:=(j.o.below k.o.base j.o.lt).free 2
     skip)
   |
    (go_at_call_of 53 (Value.string t.y)
     apply cM;apply zT (w0:=X) (L:=_) (n:=n) t.y;(first|exact k.o|exact k.o.drew);exact R.o.2.2.2.1;exact R.o.2.2.2.2;rintro e v4 ⟨q,Q,a0,bh,bi,rfl,u⟩;rw[Q.inj HQ.o.2.2.2]at u;have G:=Hi u;clear Q u k z k1 k2 C;have z:=(d.o.below G.o.base d.o.lt).cell 0;have k1:=(d.o.below G.o.base d.o.lt).cell 1;have k2:=(g.o.below G.o.base g.o.lt).cell 0;have C:=(g.o.below G.o.base g.o.lt).cell 1;simp at z k1 k2 C
     skip)
   |
    (go_at_call_of 53 (Value.string s.y)
     apply cM;apply zT (w0:=X) (L:=_) (n:=n) s.y;(first|exact G.o|exact G.o.drew);exact R.o.2.1;exact R.o.2.2.2.2;rintro e v5 ⟨q,Q,bj,bk,bl,rfl,u⟩;rw[Q.inj HQ.o.2.1]at u;have H:=Hi u;clear Q u G z k1 k2 C;have z:=(d.o.below H.o.base d.o.lt).cell 0;have k1:=(d.o.below H.o.base d.o.lt).cell 1;have k2:=(g.o.below H.o.base g.o.lt).cell 0;have C:=(g.o.below H.o.base g.o.lt).cell 1;simp at z k1 k2 C
     skip)
   |
    (go_at_call_of 47 a0
     apply cM;(first|(apply iH.qW H.o)|(apply iH.qW H.o.drew));(repeat(first|exact mH|apply mT))
     (have:=R.o.2.2.2.2;omega)
     rintro e v6 ⟨bm,bn,bo,rfl,u⟩;obtain⟨an,ao,ap,aq,ar,au,av,rfl,rfl,rfl⟩:=IV (u.get (bM _)).1;have p:=Hi u;clear u H z k1 k2 C;have z:=(d.o.below p.o.base d.o.lt).cell 0;have k1:=(d.o.below p.o.base d.o.lt).cell 1;have k2:=(g.o.below p.o.base g.o.lt).cell 0;have C:=(g.o.below p.o.base g.o.lt).cell 1;simp at z k1 k2 C;(try clear p0 p1 p2 p3 p4 p5 r0 r1 r2 r3 r4 r5);obtain⟨p0,p1,p2,-⟩:=zc (i.o.below p.o.base i.o.lt);obtain⟨p3,p4,p5,-⟩:=zc (j.o.below p.o.base j.o.lt);have r0:v6.frozen? ⟨r+1+1,0,none⟩=false:=(i.o.below p.o.base i.o.lt).free 0;have r1:v6.frozen? ⟨r+1+1,1,none⟩=false:=(i.o.below p.o.base i.o.lt).free 1;have r2:v6.frozen? ⟨r+1+1,2,none⟩=false:=(i.o.below p.o.base i.o.lt).free 2;have r3:v6.frozen? ⟨r+1+1+1,0,none⟩=false:=(j.o.below p.o.base j.o.lt).free 0;have r4:v6.frozen? ⟨r+1+1+1,1,none⟩=false:=(j.o.below p.o.base j.o.lt).free 1;have r5:v6.frozen? ⟨r+1+1+1,2,none⟩=false:=(j.o.below p.o.base j.o.lt).free 2
     skip)
   |fail)
  all_goals
   have HW:=Hi (YK (x1:=.bool ag) (x2:=.slice ah ai aj) (x3:=.slice ak al am) (y1:=.bool an) (y2:=.slice ao ap aq) (y3:=.slice ar au av) (p.o.Jy ae.o HG.o (M:=[⟨.bool an,.slice ao ap aq,.slice ar au av,y2 - y1,4*n+1+(4*n+1)+1⟩,⟨.bool ag,.slice ah ai aj,.slice ak al am,x2 - x1,4*n+1+(4*n+1)+1⟩]) (fun f u=>by
    simp only[aY,dI,ji]at u;rcases u with rfl|rfl
    . exact⟨_,bM _,aV _⟩
    . exact⟨_,cU _ (cU _ (cU _ (bM _))),aV _⟩)) (oB Y.o) (oB Y.o) oO (i.o.below p.o.base i.o.lt) (j.o.below p.o.base j.o.lt))
   clear z k1 k2 C p0 p1 p2 p3 p4 p5 r0 r1 r2 r3 r4 r5 n1 n2 n3 n4 n5 n6 n7 n8 n9 ay af ax;go_wp2;refine bK (v:=.tuple #[_,_]) (YL rfl _ _ (r+2) (r+3) 99 _ _ (0,0) (0,0) _ rfl HW.o.2.1 rfl HW.o.2.2 underlying99 rfl mm mm) rfl ?_;exact⟨_,_,_,_,_,_,rfl,HW.o.1⟩
def jR(W g:Nat):Value:=.slice (some ⟨g,0,none⟩) W W
def iQ.other{c:Vz}{d us:Ah}(h:iQ u g d)(e:iQ u a us)(f:cE a u c)(b:g≠a):iQ c g d:=
 ⟨h.blk.only f b,fun t i=>⟨(h.ts t i).1.only f e.blk e.no64,(h.ts t i).2⟩⟩
def qC(M:Ae)(r c:Nat)(q:Rat):Nat->Nat->Rat:=fun r' c'=>if r'=r/\c'=c then q else M r' c'
structure GM (w u:Vz) (B G W K:Nat) (gs:Vy) (M:Ae):Prop where
 base:Below w.heap.size w u
 o:SB u G 90 (gs.map (jR W)).toArray
 row:∀(r g:Nat),gs[r]?=some g->∃us,iQ u g us/\us.length=W/\∀(c:Nat)(t:FE),us[c]?=some t->t.q=M r c/\t.k<=K
 nd:∀(r r' g:Nat),gs[r]?=some g->gs[r']?=some g->r=r'
 ne:∀(r g:Nat),gs[r]?=some g->g≠G
 lo:B<=G
 los:∀(r g:Nat),gs[r]?=some g->B<=g
structure BM (w u:Vz) (F:Vw) (G W K:Nat) (gs:Vy) (M:Ae):Prop extends GM w u (w.heap.size+1) G W K gs M where
 box:SB u w.heap.size 26 F
section
variable {w u:Vz} {F:Vw} {B G W K:Nat} {gs:Vy} {M:Ae}
def GM.below{a:Vz}(h:GM w u B G W K gs M)(hb:Below u.heap.size u a):GM w a B G W K gs M:=by refine⟨h.base.trans (hb.mono h.base.size),h.o.below hb h.o.lt,fun r g b=>?_,h.nd,h.ne,h.lo,h.los⟩;obtain⟨us,c,d⟩:=h.row r g b;exact⟨us,c.below hb,d⟩
def BM.below{a:Vz}(h:BM w u F G W K gs M)(hb:Below u.heap.size u a):BM w a F G W K gs M:=⟨h.toGM.below hb,h.box.below hb h.box.lt⟩
def GM.congr{a:Ae}(h:GM w u B G W K gs M)(b:∀r c,M r c=a r c):GM w u B G W K gs a:=by
 have:=funext fun r=>funext fun c=>b r c
 rw[<-this];exact h
def BM.congr{a:Ae}(h:BM w u F G W K gs M)(b:∀r c,M r c=a r c):BM w u F G W K gs a:=⟨h.toGM.congr b,h.box⟩
def GM.cell{r g:Nat}(h:GM w u B G W K gs M)(a:gs[r]?=some g):u.cell? ⟨G,r,none⟩=some (.slice (some ⟨g,0,none⟩) W W):=by rw[h.o.cell];simp[a,jR]
def GM.lt{r g:Nat}(h:GM w u B G W K gs M)(a:gs[r]?=some g):g<u.heap.size:=by obtain⟨us,b,_⟩:=h.row r g a;exact b.blk.lt
def GM.at{r g c:Nat}(h:GM w u B G W K gs M)(d:gs[r]?=some g)(i:c<W):∃x y z,u.cell? ⟨g,c*3,none⟩=some x/\u.cell? ⟨g,c*3+1,none⟩=some y/\u.cell? ⟨g,c*3+2,none⟩=some z/\u.frozen? ⟨g,c*3,none⟩=false/\u.frozen? ⟨g,c*3+1,none⟩=false/\u.frozen? ⟨g,c*3+2,none⟩=false:=by obtain⟨us,a,j,_⟩:=h.row r g d;obtain⟨t,f⟩:∃t,us[c]?=some t:=⟨us[c]' oO,gE oO⟩;obtain⟨b,o,e,_,d0,d1,d2⟩:=a.row.at f;cases e;simp only[cC]at d0 d1 d2;exact⟨_,_,_,d0,d1,d2,a.blk.free _,a.blk.free _,a.blk.free _⟩
abbrev rC(u:Vz)(g c:Nat)(x y z:Ac):World:=((u.setCell ⟨g,c*3,none⟩ x).setCell ⟨g,c*3+1,none⟩ y).setCell ⟨g,c*3+2,none⟩ z
def IU(u:Vz)(g c:Nat)(x y z:Ac):cE g u (rC u g c x y z):=(((cX g u).setCell _ _).setCell _ _).setCell _ _
def GM.xN{r g c:Nat}{x y z v:Ac}{q:Rat}(h:GM w u B G W K gs M)(b:gs[r]?=some g)(d:eF u v q):eF (rC u g c x y z) v q:=by obtain⟨us,a,_⟩:=h.row r g b;exact d.only (IU u g c x y z) a.blk a.no64
def xW{g b c:Nat}{x y z:Ac}{t:Vr}{C:Vw}(d:SB u b t C)(a:b≠g):SB (rC u g c x y z) b t C:=d.only (IU u g c x y z) a
def GM.put{r g c:Nat}{x y z:Ac}{q:Rat}(h:GM w u B G W K gs M)(hB:w.heap.size<=B)(d:gs[r]?=some g)(P:c<W)(H:eF u (.agg #[x,y,z]) q)(I:Fits q K)(J:0<K):GM w (rC u g c x y z) B G W K gs (qC M r c q):=by
 obtain⟨us,E,L,N⟩:=h.row r g d;have i:=IU u g c x y z;have j:=h.los r g d;refine⟨h.base.trans (i.below (aE hB j) h.base.size),h.o.only i (fun e=>h.ne r g d e.symm),fun k l a=>?_,h.nd,h.ne,h.lo,h.los⟩;by_cases e:k=r
 .
  subst e;obtain rfl:=aD (d.symm.trans a);refine⟨us.set c ⟨x,y,z,q,K⟩,JP E oO H I J,by rw[aQ];exact L,fun f t b=>?_⟩;by_cases m:f=c
  . subst m;rw[bP oO]at b;obtain rfl:=aD b;exact⟨by simp[qC],aV _⟩
  . rw[bN (fun e=>m e.symm)]at b;obtain⟨n,p⟩:=N f t b;exact⟨by rw[n];simp[qC,m],p⟩
 . obtain⟨s,v,A,C⟩:=h.row k l a;have D:l≠g:=fun O=>e (h.nd k r l a (by rw[O];exact d))
   refine⟨s,v.other E i D,A,fun f t b=>?_⟩;obtain⟨n,p⟩:=C f t b;exact⟨by rw[n];simp[qC,e],p⟩
def BM.put{r g c:Nat}{x y z:Ac}{q:Rat}(h:BM w u F G W K gs M)(a:gs[r]?=some g)(b:c<W)(d:eF u (.agg #[x,y,z]) q)(e:Fits q K)(f:0<K):BM w (rC u g c x y z) F G W K gs (qC M r c q):=
 ⟨h.toGM.put (dU _) a b d e f,h.box.only (IU u g c x y z) (oB (h.los r g a))⟩
end
def zD(n m:Nat)(w:Vz)(e:As)(w':Vz):Prop:=(∃(G:Nat)(gs:Vy),e=.returned (.slice (some ⟨G,0,none⟩) n n)/\gs.length=n/\w.heap.size<=G/\SB w' G 90 (gs.map (jR m)).toArray/\(∀(r g:Nat),gs[r]?=some g->iQ w' g (List.replicate m FE.zero)/\G<g)/\(∀(r r' g:Nat),gs[r]?=some g->gs[r']?=some g->r=r'))/\Below w.heap.size w w'
def iQ.vE{b:Vz}{c m:Nat}(h:iQ u g (List.replicate m FE.zero))(d:cE c u b)(a:g≠c):iQ b g (List.replicate m FE.zero):=by refine⟨h.blk.only d a,fun t e=>?_⟩;obtain⟨_,rfl⟩:=fM.1 e;exact⟨nR _,nr,dD⟩
def YJ(m n k g:Nat)(gs:Vy)(hk:k<n)(hl:gs.length=k):((gs.map (jR m)++List.replicate (n - k) (Value.slice none 0 0)).set k (jR m g))=(gs++ [g]).map (jR m)++List.replicate (n - (k+1)) (Value.slice none 0 0):=by rw[show n - k=(n - (k+1))+1 by omega,j4,Mh _ _ (by rw[bF];omega),bF,hl,fA,cN];simp
def IT(n m:Nat)(w:Vz)(hn:n<=1000)(hm:m<=1000):
 Calls prog 146 #[.int .i64 n,.int .i64 m] w (zD n m w):=by
 have t:=fun w=>MN n oO w
 have L:=fun w=>B3 m oO w
 obtain⟨N,f⟩:=nm (((List.replicate n MR.none).flatMap MR.cells).toArray);obtain⟨P,v⟩:=nm (((List.replicate m FE.zero).flatMap FE.cells).toArray);rw[f]at t;rw[v]at L;have Q:O (N=(List.replicate n (Value.slice none 0 0)).toArray):=Hi (by
  rw[<-f]
  congr 1
  clear f t hn
  induction n with
  |zero=>rfl
  |succ n ih=>rw[j4,fJ,ih,j4];rfl)
 have R:=Hi v.symm;clear f v;go_enter func146,ntmps146;go_wp2_with fail;clear t;obtain⟨G,hG⟩:=nm w.heap.size;obtain⟨V0,j⟩:=nm (w.alloc (.cells N 90));have C:=Ua j;have S:O (SB V0 G 90 (([]:List Nat).map (jR m)++List.replicate (n - 0) (Value.slice none 0 0)).toArray):=Hi (by
  rw[<-j,<-hG];have:=cK w 90 N;rw[Q.o]at this ⊢
  exact this)
 try rw[j]
 try rw[hG]
 unfold Bl at C;rw[hG]at C;have D:=Hi hG;clear j hG;go_loopw [10] (fun i wr=>∃(k:Nat)(gs:Vy),k<=n/\i=.int .i64 k/\gs.length=k/\SB wr G 90 (gs.map (jR m)++List.replicate (n - k) (Value.slice none 0 0)).toArray/\(∀(r g:Nat),gs[r]?=some g->iQ wr g (List.replicate m FE.zero)/\G<g)/\(∀(r x g:Nat),gs[r]?=some g->gs[x]?=some g->r=x)/\Below G w wr) (fun i _=>n - (intOf i).toNat)
 case atStart=>exact⟨0,[],oO,rfl,rfl,S.o,fun r g h=>by simp at h,fun r x g h=>by simp at h,C.o⟩
 case round=>
  obtain⟨k,gs,hk,rfl,y,z,q,E,hb⟩:=hrel;obtain⟨HB,T,U,HN,X⟩:=Id hb z q E y;have c:=z.lt;clear hb z q E;by_cases Y:k<n
  .
   obtain⟨V,H⟩:=nm (wr.alloc (.cells P 99));have A:=Ua H;have HQ:O (iQ V wr.heap.size (List.replicate m FE.zero)):=Hi (by rw[<-H];exact DL wr m P R.o);have l:=T.o.below A.o T.o.lt;have f0:=l.free k;have t0:V.cell? ⟨G,k,none⟩=some (.slice none 0 0):=by rw[l.cell];have e:(gs.map (jR m)++List.replicate (n - k) (Value.slice none 0 0)).toArray[k]?=(gs.map (jR m)++List.replicate (n - k) (Value.slice none 0 0))[k]?:=sS;rw[e,aX (by rw[bF];omega),bF,y,fA,fW,aN oO]
   have Z:=Hi l;have q1:((k:Int)<(n:Int)):=oO;rw[<-H]at f0 t0;have HV:=Hi H;clear H l y;go_wp2_with fail;have e0:(wr.setCell ⟨G,k,none⟩ (.slice (some ⟨wr.heap.size,0,none⟩) m m)).alloc (.cells P 99)=V.setCell ⟨G,k,none⟩ (.slice (some ⟨wr.heap.size,0,none⟩) m m):=by rw[<-HV.o];exact(World.setCell_alloc_past _ _ _ _ c).symm
   rw[e0];have ho:cE G V (V.setCell ⟨G,k,none⟩ (.slice (some ⟨wr.heap.size,0,none⟩) m m)):=(cX G V).setCell _ _;have s:=fun r g b=>(U.o r g b).1.blk.lt
   refine⟨⟨k+1,gs++ [wr.heap.size],oO,by go_num,by rw[aS];have:=X.o;simp;omega,?_,?_,?_,((HB.o.trans (A.o.mono (dO c))).setCell (p:=⟨G,k,none⟩) lZ _)⟩,?_⟩
   . have d:=Z.o.set k (.slice (some ⟨wr.heap.size,0,none⟩) m m);rw[aU]at d;rw[<-YJ m n k wr.heap.size gs Y X.o];exact d
   . intro r g b;rcases bB r gs.length with h|h
     . rw[aR h]at b;obtain⟨d,I⟩:=U.o r g b;exact⟨(d.below A.o).vE ho oO,I⟩
     . rw[aX h]at b;have e1:g=wr.heap.size:=sU (mO b);rw[e1];exact⟨HQ.o.vE ho oO,c⟩
   .
    intro r x g b a;rcases bB r gs.length with h|h<;>rcases bB x gs.length with J|J
    . rw[aR h]at b;rw[aR J]at a;exact HN.o r x g b a
    . rw[aR h]at b;rw[aX J]at a;have e1:g=wr.heap.size:=sU (mO a);have:=s r g b;omega
    . rw[aX h]at b;rw[aR J]at a;have e1:g=wr.heap.size:=sU (mO b);have:=s x g a;omega
    . have d:=(gZ b).1;have I:=(gZ a).1;rw[aS]at d I;simp at d I;omega
   . simp[intOf]
     omega
  . have aa:k=n:=oO;subst aa;go_wp2;go_ret;refine⟨⟨G,gs,rfl,X.o,cO D.o,?_,U.o,HN.o⟩,by rw[D.o];exact HB.o⟩;have d:=T.o;rw[fA]at d
    simpa using d
end Go.Proofs.YtfgclhpgdanmfaaGreatDoor
