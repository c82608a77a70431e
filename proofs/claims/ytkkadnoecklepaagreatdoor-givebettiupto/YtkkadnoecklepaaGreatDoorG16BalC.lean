import Derived.Test.YtkkadnoecklepaaGreatDoorG15RowsL
namespace Go.Proofs.YtkkadnoecklepaaGreatDoor
open Go.RowKit
open Go.Proofs.Tryz
set_option linter.unusedSimpArgs false
set_option linter.unusedVariables false
set_option maxHeartbeats 8000000
set_option maxRecDepth 1000000
def Solved(W K:Nat)(M:List Vec)(b:List Rat)(w:Vz)(e:Ending)(w':Vz):Prop:=
 ((e=.returned (.tuple #[.slice none 0 0,.int .i64 8])/\∀x,¬Sol W M b x)∨
  (e=.returned (.tuple #[.slice none 0 0,.int .i64 9])/\∃x y,Sol W M b x/\Sol W M b y/\∃c,c<W/\x c≠y c)∨
  (∃(g:Nat) (us:List FE),e=.returned (.tuple #[.slice (some ⟨g,0,none⟩) W W,.int .i64 0])/\QBlk w' g us/\us.length=W/\(∀t,t∈ us->t.k<=K)/\∀y,Sol W M b y↔∀(i:Nat) (t:FE),us[i]?=some t->y i=t.q))/\Below w.heap.size w w'
theorem Qvh(a a':Vx)(aa cap' W K:Nat)(rs:List MR)(F:List FE)(w:Vz)(I:Nat->List Vec->List Vec->List Nat->Prop)(hI:Going K I)(h:QMat w a aa W rs)(hk:∀r,r∈ rs->∀t,t∈ r.ts->t.k<=K)(h':QRow w a' cap' F)(H:∀t,t∈ F->t.k<=K)(ab:F.length=rs.length)(hl:rs.length<=1000)(hW:W+1<=1000)(ad:0<K)(hK:4*K+1<68719476000)
 (h0:I 0 (List.zipWith (wider W) (rs.map MR.q) (F.map (·.q))) [] [])
 (T:∀L S d,I (W+1) L S d->Ech 0 (W+1) S d/\(∀x,Null (W+1) (List.zipWith (wider W) (rs.map MR.q) (F.map (·.q))) x↔Null (W+1) S x)/\clnFits K S d):
 Calls prog 112 #[.slice a rs.length aa,.int .i64 W,.slice a' rs.length cap'] w (Solved W K (rs.map MR.q) (F.map (·.q)) w):=by
 obtain⟨HJ,HI,H0,HF,am⟩:=Id (Qvb a a' aa cap' W K rs F w h hk h' H ab hl (by omega)) hI h0 T ab;clear hI h hk h' H h0 T ab;go_enter func112,ntmps112;go_wp2_with fail;go_fit HJ.o;rintro e w1 ⟨⟨g,an,rfl,ao,ap,U,aq⟩,ar⟩;have hM:an.map MR.q=List.zipWith (wider W) (rs.map MR.q) (F.map (·.q)):=by
  apply List.ext_getElem?;intro i;rw[List.getElem?_zipWith,List.getElem?_map,List.getElem?_map,List.getElem?_map];rcases Nat.lt_or_ge i rs.length with z|z
  .
   obtain⟨r,hr⟩:∃r,rs[i]?=some r:=⟨rs[i],gE z⟩;obtain⟨s,d⟩:∃s,F[i]?=some s:=⟨F[i]'(by have:=am.o;omega),gE (by have:=am.o;omega)⟩;obtain⟨r',A,h2⟩:=aq i r s hr d;rw[hr,d,A];simp[h2]
  . rw[List.getElem?_eq_none (by omega),List.getElem?_eq_none z]
    rfl
 have J:=Quy (some ⟨g,0,none⟩) rs.length (W+1) K (W+1) an w1 I HI.o (ap.arow rfl (by omega)) U (by omega) hW lZ ad hK (by rw[hM];exact H0.o);rw[ao] at J;simp only[Int.natCast_add,Int.natCast_one] at J;obtain⟨au,ae⟩:=Ia J ar;clear J ar ap U aq ao hM HJ;go_wp2_with fail;go_fit au.o;rintro e w2 ⟨⟨L,S,d,sv,hv,rfl,z,b3,b4,af,ag,av⟩,aw⟩;obtain⟨b1,c1,rfl,_,_,_⟩:=af.slice;obtain⟨b2,c2,rfl,_,_,_⟩:=ag.slice;obtain⟨X,B,ax⟩:=HF.o _ _ _ z;obtain⟨HE,HN,bg,ay,az,bh,a0⟩:=If X B ax af ag av (ae.o.trans (aw.mono ae.o.size));have b0:=ae.o.size;clear z af ag av aw X B ax au;obtain⟨V,hV⟩:=nm (w2.alloc (.cells #[.int .i64 ((W:Int)+1),.slice b1 S.length c1,.slice b2 d.length c2] 195))
 have n:=Ua hV;have M:=Uc hV;have HV:=Hi hV;clear hV;go_wp2_with fail;rw[HV.o];go_fit (Qu0 b2 c2 W d V (az.o.below n.o).crow (by omega));rintro e w3 ⟨rfl,rfl⟩;have a1:d.length=S.length:=by have:=HE.o.len;simp at this;omega
 have C:=Hi a1;clear a1;obtain⟨x0,x1,x2,-⟩:=zc M.o;have l:=Hi (a0.o.trans (n.o.mono a0.o.size));by_cases hw:W∈ d
 .
  rw[decide_eq_true hw];have HW:=Hi hw;clear hw;go_wp2;go_ret2;exact⟨.inl ⟨rfl,fun x=>Qjd HE.o HN.o HW.o x⟩,l.o⟩
 .
  rw[decide_eq_false hw];have HW:=Hi hw;clear hw;by_cases a2:d.length<W
  .
   have q1:((d.length:Int)<(W:Int)):=by omega
   go_wp2;go_ret2;exact⟨.inr (.inl ⟨rfl,Qje HE.o HN.o HW.o a2⟩),l.o⟩
  .
   have q1:¬((d.length:Int)<(W:Int)):=by omega
   obtain⟨a3,Y,Z⟩:=Qjf HE.o HN.o HW.o a2;obtain⟨bi,bj,bk,N⟩:=Ic (Qvg w1.heap.size (W+1) K S d (.slice b1 S.length c1) (.slice b2 d.length c2) ((W:Int)+1) w3 (ay.o.below n.o) (az.o.below n.o) (bh.o.fr (Fr.of_below n.o)) C.o.symm (fun c hc=>(HE.o.head c hc).2) bg.o (by omega) (by omega) ad hK) Y Z a3;clear Y Z a3;go_wp2_with fail;go_fit bi.o;rintro e G ⟨rfl,S',a4,a5,b⟩;have a6:O (Below w.heap.size w G):=Hi ⟨b.o.1.trans l.o.os,b.o.2.1.trans l.o.tape,b.o.2.2.1.trans l.o.output,Nat.le_trans l.o.size b.o.2.2.2,fun k hk=>(b.base k (Nat.lt_of_lt_of_le hk l.o.size) (fun e=>by have:=(b.rows.lt e).1;omega)).trans (l.o.block k hk)⟩;have m:O (SB G w2.heap.size 195 #[.int .i64 ((W:Int)+1),.slice b1 S.length c1,.slice b2 d.length c2]):=Hi (by
    have A:=b.base w2.heap.size M.o.lt (fun e=>by
     obtain⟨D,d1,_⟩:=(ay.o.below n.o).sb e
     exact M.o.unlike d1 row_stairs.symm rfl)
    have h2:=M.o;unfold SB at h2 ⊢;rw[A]
    exact h2)
   obtain⟨bl,ah,bm⟩:=Ib b a4 a5;have a7:=fun w=>Qa4 W (by omega) w
   obtain⟨MC,ai⟩:=nm (((List.replicate W FE.zero).flatMap FE.cells).toArray);rw[ai] at a7;have bn:=Hi ai.symm;obtain⟨V4,P⟩:=nm (G.alloc (.cells MC 107));obtain⟨g5,E⟩:=nm G.heap.size;have bo:O (Below g5 G V4):=Hi (by rw[<-P,<-E];exact(Below.refl _ _).alloc lZ _);have bp:O (QBlk V4 g5 (List.replicate W FE.zero)):=Hi (by rw[<-P,<-E];exact QBlk.new G W MC bn.o);have y2:∀o,(G.alloc o).cell? ⟨w2.heap.size,2,none⟩=some (.slice b2 d.length c2):=fun o=>(m.o.alloc o).cell 2
   have bq:=Hi P;clear b a4 a5 ai P x0 x1 x2;go_wp2_with fail;rw[bq.o]
   try rw[E]
   clear y2 a7;go_loopw [34] (fun i wr=>∃(k:Nat) (us:List FE),k<=d.length/\i=.int .i64 k/\us.length=W/\QBlk wr g5 us/\(∀(i:Nat) (t:FE),i<k->us[i]?=some t->∃r,S'[i]?=some r/\t.q=r.q W)/\(∀t,t∈ us->t.k<=K)/\Below g5 G wr) (fun i _=>d.length - (intOf i).toNat)
   case atStart=>exact⟨0,_,Nat.zero_le _,rfl,by simp,bp.o,fun i t z=>by omega,fun t u=>by obtain⟨_,rfl⟩:=List.mem_replicate.1 u;exact ad,bo.o⟩
   case round=>
    obtain⟨k,us,hk,rfl,a8,a9,ba,bb,hb⟩:=hrel;obtain⟨Q,HQ,aj,bc,HB⟩:=Id a8 a9 ba bb hb;clear a8 a9 ba bb hb;by_cases br:k<d.length
    .
     have R:Below G.heap.size G wr:=by rw[E];exact HB.o
     have b5:k<W:=by have:=N.o;omega
     obtain⟨r,hr⟩:∃r,S'[k]?=some r:=⟨S'[k]'(by have:=ah.o;have:=C.o;omega),gE (by have:=ah.o;have:=C.o;omega)⟩;obtain⟨j,ak⟩:∃j,d[k]?=some j:=⟨d[k],gE br⟩;obtain rfl:=bj.o k j ak;have b:=bl.o.below R;have f:=b.ok r (mO hr);obtain⟨e,he⟩:∃e,r.ts[W]?=some e:=⟨r.ts[W]'(by have:=f.len;omega),gE (by have:=f.len;omega)⟩;obtain⟨rb,ro,bd,b6,d0,d1,d2⟩:=f.row.at he;have al:=f.row.get he;have be:=f.sz e (mO he);obtain⟨b7,b8,bs,b9,ca⟩:=b.heads.crow.cell j (.int .i64 (j:Nat)) (by simp[headsV,ak]);obtain⟨gb,go,bt,cb,bu⟩:=b.rows.crow.cell j r.val (by rw[List.getElem?_map,hr];rfl);rw[MR.val,bd,f.len] at bu;obtain⟨-,x1,-⟩:=zc (m.o.below R m.o.lt)
     obtain⟨-,-,x2,-⟩:=zc (m.o.below R m.o.lt);subst bs;subst bt;obtain⟨o1,o2,o3⟩:=al.1.one;have cc:=Qaa prog o1;have cd:=Qaa prog o2;have ce:=Qaa prog o3;obtain⟨y0,bf⟩:∃y0,us[j]?=some y0:=⟨us[j]'(by have:=Q.o;omega),gE (by have:=Q.o;omega)⟩;have f0:=HQ.o.blk.free (j*3);have f1:=HQ.o.blk.free (j*3+1);have f2:=HQ.o.blk.free (j*3+2);obtain⟨gy,oy,bv,_,t0,t1,t2⟩:=HQ.o.row.at bf;cases bv;simp only[Nat.zero_add] at t0 t1 t2;have q2:((j:Int)<(d.length:Int)):=by omega
     have q3:((j:Int)<(W:Int)):=by omega
     have q4:((j:Int)<(S.length:Int)):=by have:=C.o;omega
     have q5:((W:Int)<((W+1:Nat):Int)):=by omega
     obtain⟨bw,bx,HR,bz⟩:=Ic al (MR.q_at he) hr be;clear R hr ak b f he bd al bf o1 o2 o3 be;go_wp2_with fail;refine⟨⟨j+1,us.set j e,by omega,by go_num,by rw[List.length_set];exact Q.o,HQ.o.set (by have:=Q.o;omega) bw.o,fun i t z u=>?_,fun t u=>?_,((HB.o.setCell (p:=⟨g5,j*3,none⟩) lZ _).setCell (p:=⟨g5,j*3+1,none⟩) lZ _).setCell (p:=⟨g5,j*3+2,none⟩) lZ _⟩,?_⟩
     .
      rcases Nat.lt_or_ge i j with A|A
      . rw[List.getElem?_set_ne (by omega)] at u
        exact aj.o i t A u
      .
       obtain rfl:i=j:=by omega
       rw[List.getElem?_set_self (by have:=Q.o;omega)] at u;obtain rfl:=Option.some.inj u;exact⟨r,HR.o,bx.o.symm⟩
     .
      rcases List.mem_or_eq_of_mem_set u with u|rfl
      . exact bc.o t u
      . exact bz.o
     . simp[intOf]
       omega
    .
     have H:k=d.length:=by omega
     subst H;go_wp2;go_ret2;refine⟨.inr (.inr ⟨g5,us,rfl,HQ.o,Q.o,bc.o,fun y=>?_⟩),a6.o.trans (HB.o.mono (by rw[<-E];exact a6.o.size))⟩;rw[bk.o y,<-bm.o];constructor
     .
      intro hy i t u;obtain⟨r,A,h2⟩:=aj.o i t (by have:=(gZ u).1;have:=Q.o;have:=N.o;omega) u;rw[h2];exact hy i r.q (by rw[List.getElem?_map,A];rfl)
     .
      intro hy i v hv;rw[List.getElem?_map] at hv;obtain⟨r,A,rfl⟩:=Option.map_eq_some_iff.1 hv;have z:i<us.length:=by have:=(gZ A).1;have:=Q.o;have:=N.o;have:=ah.o;have:=C.o;omega
      obtain⟨r2,k1,k2⟩:=aj.o i us[i] (by have:=Q.o;have:=N.o;omega) (gE z);obtain rfl:=Option.some.inj (A.symm.trans k1);rw[hy i us[i] (gE z),k2]
theorem Qg5{P:Program}{l:Func}{p u:Tmp}{ty:Vr}(h:l.results=#[.cell p ty,.cell u ty])(a:Vw)(w:Vz)(g e:Nat)(t:Vr)(f b:Vw)(fr c:Nat × Nat)(d:TypeDesc)
 (o:a.getD p undef=.pointer (some ⟨g,0,none⟩)) (q:w.heap[g]?=some (.cells f t fr)) (i:a.getD u undef=.pointer (some ⟨e,0,none⟩)) (j:w.heap[e]?=some (.cells b t c))
 (m:P.underlying ty=some d) (n:(match d with| .struct _| .array _ _=>true|_=>false)=true) (r:(P.info? ty).map (·.size)=some f.size) (k:(P.info? ty).map (·.size)=some b.size):
 (results l a).run P w=.ok (.tuple #[.agg f,.agg b]) w:=by
 have s:a[p]?.getD undef=.pointer (some ⟨g,0,none⟩):=by simpa using o
 have v:a[u]?.getD undef=.pointer (some ⟨e,0,none⟩):=by simpa using i
 simp[results,h,s,v,asAddr,run_loadVar_row w g t ty f fr d q m n r,run_loadVar_row w e t ty b c d j m n k]
def WaySays(w:Vz)(k:Nat)(qx qy:Rat)(e:Ending)(w':Vz):Prop:=∃x1 x2 x3 y1 y2 y3,e=.returned (.tuple #[.agg #[x1,x2,x3],.agg #[y1,y2,y3]])/\FBag w w' [⟨y1,y2,y3,qy,k⟩,⟨x1,x2,x3,qx,k⟩]
theorem Qa1(w:Vz)(o:Obj)(t:Vr)(C:Vw):SB ((w.alloc o).alloc (.cells C t)) (w.heap.size+1) t C:=by
 have h:=SB.new (w.alloc o) t C;rw[World.size_alloc] at h;exact h
theorem Qb0{w:Vz}{x y z:Value}{q:Rat}(h:FracV w (.agg #[x,y,z]) q):∃neg a n c b m d,x=.bool neg/\y=.slice a n c/\z=.slice b m d:=by
 obtain⟨neg,a,n,c,b,m,d,e,_⟩:=h;simp at e;exact⟨neg,a,n,c,b,m,d,e.1,e.2.1,e.2.2⟩
theorem Qg6:NoU64 #[.bool false,.slice none 0 0,.slice none 0 0]:=Qhx (by simp)
theorem Qg7{w u:Vz}{g a:Nat}{L:List FE}{x1 x2 x3 y1 y2 y3:Value}(h:FBag w u L)(d:w.heap.size<=g)(c:w.heap.size<=a)(b:g≠a)(s:SB u g 107 #[.bool false,.slice none 0 0,.slice none 0 0])(e:SB u a 107 #[.bool false,.slice none 0 0,.slice none 0 0]):
 FBag w ((((((u.setCell ⟨g,0,none⟩ x1).setCell ⟨g,1,none⟩ x2).setCell ⟨g,2,none⟩ x3).setCell ⟨a,0,none⟩ y1).setCell ⟨a,1,none⟩ y2).setCell ⟨a,2,none⟩ y3) L/\SB ((((((u.setCell ⟨g,0,none⟩ x1).setCell ⟨g,1,none⟩ x2).setCell ⟨g,2,none⟩ x3).setCell ⟨a,0,none⟩ y1).setCell ⟨a,1,none⟩ y2).setCell ⟨a,2,none⟩ y3) g 107 #[x1,x2,x3]/\SB ((((((u.setCell ⟨g,0,none⟩ x1).setCell ⟨g,1,none⟩ x2).setCell ⟨g,2,none⟩ x3).setCell ⟨a,0,none⟩ y1).setCell ⟨a,1,none⟩ y2).setCell ⟨a,2,none⟩ y3) a 107 #[y1,y2,y3]:=by
 have f:=h.only ((((Only.refl g u).setCell 0 x1).setCell 1 x2).setCell 2 x3) s Qg6 d;have t1:=((s.set 0 x1).set 1 x2).set 2 x3;have t2:=((e.other b.symm 0 x1).other b.symm 1 x2).other b.symm 2 x3;have i:=f.only ((((Only.refl a _).setCell 0 y1).setCell 1 y2).setCell 2 y3) t2 Qg6 c;refine⟨i,?_,?_⟩
 . have:=((t1.other b 0 y1).other b 1 y2).other b 2 y3
   simpa using this
 . have:=((t2.set 0 y1).set 1 y2).set 2 y3
   simpa using this
theorem Qg8(a1 a2 a3:Vx)(c1 c2 c3 nb nh A B n:Nat)(R:List S2)(b:B6)(s t:S2)(w:Vz)(hg:Glob w)(hj:ARow S2.cells w a1 c1 R)(hA:b.a=(A:Nat))(hB:b.b=(B:Nat))(hs:R[A]?=some s)(ht:R[B]?=some t)
 (hl:R.length<=10) (z1:s.x.size<=n) (z2:s.y.size<=n) (z3:t.x.size<=n) (z4:t.y.size<=n) (hn:n<=1073741824) {x1 y1 x2 y2:Rat} (q1:QOf s.x.data.toList x1) (q2:QOf s.y.data.toList y1) (q3:QOf t.x.data.toList x2) (q4:QOf t.y.data.toList y2):
 Calls prog 161 #[.agg #[.slice a1 R.length c1,.slice a2 nb c2,.slice a3 nh c3],.agg #[.int .i64 b.a,.int .i64 b.b,.string b.c,.string b.e,.string b.l,.string b.m]] w (WaySays w (4*n+1+(4*n+1)+1) (x2 - x1) (y2 - y1)):=by
 obtain⟨HG,HJ⟩:=Ia hg hj;have bj:=(gZ hs).1;have bk:=(gZ ht).1;obtain⟨HS,HT⟩:=Ia hs ht;rw[hA,hB];obtain⟨I,HQ⟩:=Ia (⟨z1,z2,z3,z4,hn⟩:s.x.size<=n/\s.y.size<=n/\t.x.size<=n/\t.y.size<=n/\n<=1073741824) (⟨q1,q2,q3,q4⟩:QOf s.x.data.toList x1/\QOf s.y.data.toList y1/\QOf t.x.data.toList x2/\QOf t.y.data.toList y2);have iA:((A:Int)<(R.length:Int)):=by omega
 have iB:((B:Int)<(R.length:Int)):=by omega
 clear hg hj hs ht z1 z2 z3 z4 hn q1 q2 q3 q4 hA hB;go_enter func161,ntmps161;obtain⟨u,P⟩:=nm w.heap.size;obtain⟨V,hV⟩:=nm ((((w.alloc (.cells #[.slice a1 R.length c1,.slice a2 nb c2,.slice a3 nh c3] 26)).alloc (.cells #[.int .i64 (A:Nat),.int .i64 (B:Nat),.string b.c,.string b.e,.string b.l,.string b.m] 84)).alloc (.cells #[.bool false,.slice none 0 0,.slice none 0 0] 107)).alloc (.cells #[.bool false,.slice none 0 0,.slice none 0 0] 107));have ao:Bl w V:=by
  rw[<-hV];exact(((bR.alloc lZ _).alloc (by simp) _).alloc (by simp;omega) _).alloc (by simp;omega) _
 have au:V.heap.size=u+4:=by rw[<-hV,<-P];simp
 have s1:SB V u 26 #[.slice a1 R.length c1,.slice a2 nb c2,.slice a3 nh c3]:=by
  rw[<-hV,<-P];exact(((SB.new w _ _).alloc _).alloc _).alloc _
 have s2:SB V (u+1) 84 #[.int .i64 (A:Nat),.int .i64 (B:Nat),.string b.c,.string b.e,.string b.l,.string b.m]:=by
  have h:=SB.new (w.alloc (.cells #[.slice a1 R.length c1,.slice a2 nb c2,.slice a3 nh c3] 26)) 84 #[.int .i64 (A:Nat),.int .i64 (B:Nat),.string b.c,.string b.e,.string b.l,.string b.m];rw[World.size_alloc,P] at h;rw[<-hV];exact(h.alloc _).alloc _
 have s3:SB V (u+2) 107 #[.bool false,.slice none 0 0,.slice none 0 0]:=by
  have h:=SB.new ((w.alloc (.cells #[.slice a1 R.length c1,.slice a2 nb c2,.slice a3 nh c3] 26)).alloc (.cells #[.int .i64 (A:Nat),.int .i64 (B:Nat),.string b.c,.string b.e,.string b.l,.string b.m] 84)) 107 #[.bool false,.slice none 0 0,.slice none 0 0];rw[World.size_alloc,World.size_alloc,P] at h;rw[<-hV];exact h.alloc _
 have s4:SB V (u+3) 107 #[.bool false,.slice none 0 0,.slice none 0 0]:=by
  have h:=SB.new (((w.alloc (.cells #[.slice a1 R.length c1,.slice a2 nb c2,.slice a3 nh c3] 26)).alloc (.cells #[.int .i64 (A:Nat),.int .i64 (B:Nat),.string b.c,.string b.e,.string b.l,.string b.m] 84)).alloc (.cells #[.bool false,.slice none 0 0,.slice none 0 0] 107)) 107 #[.bool false,.slice none 0 0,.slice none 0 0];rw[World.size_alloc,World.size_alloc,World.size_alloc,P] at h;rw[<-hV];exact h
 obtain⟨jb,jo,rfl,bl,u0,u1⟩:=(HJ.o.below ao).spot HS.o;obtain⟨bm,bn,e',_,u2,u3⟩:=(HJ.o.below ao).spot HT.o;cases e';have f0:=s1.cell 0;have f1:=s2.cell 0;have f2:=s2.cell 1;simp at f0 f1 f2;obtain⟨ap,HV,U,az,aq,ar⟩:=Ie ao hV P au s3 s4;clear ao au s1 s2 s3 s4 hV P;go_wp2_with fail;simp only[U.o];rw[HV.o];go_region_held3 (fun v=>v.cell? ⟨u,0,none⟩=some (.slice (some ⟨jb,jo,none⟩) R.length c1)/\v.cell? ⟨u+1,0,none⟩=some (.int .i64 (A:Nat))/\v.cell? ⟨u+1,1,none⟩=some (.int .i64 (B:Nat))/\v.cell? ⟨jb,jo+A*2,none⟩=some (.string s.x)/\v.cell? ⟨jb,jo+A*2+1,none⟩=some (.string s.y)/\v.cell? ⟨jb,jo+B*2,none⟩=some (.string t.x)/\v.cell? ⟨jb,jo+B*2+1,none⟩=some (.string t.y)) ((first|(simp [*];done)|go_keep)) (fail)
 .
  obtain⟨X,W⟩:=nm (((V.alloc (.cells #[.string s.x,.string s.y] 34)).alloc (.cells #[.string t.x,.string t.y] 34)).drew);have J:Bl V X:=by rw[<-W];exact((bR.alloc lZ _).alloc (by simp) _).drew
  have K:SB X (V.heap.size) 34 #[.string s.x,.string s.y]:=by rw[<-W];exact((SB.new V _ _).alloc _)
  have N:SB X (V.heap.size+1) 34 #[.string t.x,.string t.y]:=by rw[<-W];exact Qa1 V _ _ _
  obtain⟨d,g⟩:=Ia K N;have Y:O (Bl w X):=Hi (ap.o.trans (J.mono ap.o.size));have Q:O (FBag X X []):=Hi (FBag.start (HG.o.below Y.o));obtain⟨j,i⟩:=Ia (aq.o.below J aq.o.lt) (ar.o.below J ar.o.lt);have z:=K.cell 0;have k1:=K.cell 1;have k2:=N.cell 0;have C:=N.cell 1;simp at z k1 k2 C;clear J K N f0 f1 f2 u0 u1 u2 u3;have av:=Hi W;clear W;have hz:=az.o;have n1:V.heap.size≠u+1+1:=by omega
  have n2:V.heap.size≠u+1+1+1:=by omega
  have n3:V.heap.size+1≠u+1+1:=by omega
  have n4:V.heap.size+1≠u+1+1+1:=by omega
  have n5:=n1.symm;have n6:=n2.symm;have n7:=n3.symm;have n8:=n4.symm;have n9:V.heap.size≠u+1:=by omega
  have aw:=n9.symm;clear hz;rw[av.o];go_wp2_with fail;go_region_held3 (fun v=>v.cell? ⟨V.heap.size,0,none⟩=some (.string s.x)/\v.cell? ⟨V.heap.size,1,none⟩=some (.string s.y)/\v.cell? ⟨V.heap.size+1,0,none⟩=some (.string t.x)/\v.cell? ⟨V.heap.size+1,1,none⟩=some (.string t.y)) ((first|(simp [*];done)|go_keep)) (first
   |
    (go_at_call_of 63 (Value.string t.x)
     apply cM;apply FBag.of (w0:=X) (L:=[]) (n:=n) t.x;(first|exact Q.o|exact Q.o.drew);exact I.o.2.2.1;exact I.o.2.2.2.2;rintro e v1 ⟨q,H,ax,a0,a4,rfl,r⟩;rw[H.inj HQ.o.2.2.1] at r;have D:=Hi r;clear H r Q z k1 k2 C;have z:=(d.o.below D.o.base d.o.lt).cell 0;have k1:=(d.o.below D.o.base d.o.lt).cell 1;have k2:=(g.o.below D.o.base g.o.lt).cell 0;have C:=(g.o.below D.o.base g.o.lt).cell 1;simp at z k1 k2 C
     skip)
   |
    (go_at_call_of 63 (Value.string s.x)
     apply cM;apply FBag.of (w0:=X) (L:=_) (n:=n) s.x;(first|exact D.o|exact D.o.drew);exact I.o.1;exact I.o.2.2.2.2;rintro e v2 ⟨q,H,a5,a6,a7,rfl,r⟩;rw[H.inj HQ.o.1] at r;have E:=Hi r;clear H r D z k1 k2 C;have z:=(d.o.below E.o.base d.o.lt).cell 0;have k1:=(d.o.below E.o.base d.o.lt).cell 1;have k2:=(g.o.below E.o.base g.o.lt).cell 0;have C:=(g.o.below E.o.base g.o.lt).cell 1;simp at z k1 k2 C
     skip)
   |
    (go_at_call_of 57 ax
     apply cM;(first|(apply FBag.minus E.o)|(apply FBag.minus E.o.drew));(repeat(first|exact mH|apply mT))
     (have:=I.o.2.2.2.2;omega)
     rintro e S ⟨a8,a9,ba,rfl,r⟩;obtain⟨Z,aa,ab,ad,ae,af,ag,rfl,rfl,rfl⟩:=Qb0 (r.get (List.Mem.head _)).1;have k:=Hi r;clear r E z k1 k2 C;have z:=(d.o.below k.o.base d.o.lt).cell 0;have k1:=(d.o.below k.o.base d.o.lt).cell 1;have k2:=(g.o.below k.o.base g.o.lt).cell 0;have C:=(g.o.below k.o.base g.o.lt).cell 1;simp at z k1 k2 C;(try clear p0 p1 p2 p3 p4 p5 r0 r1 r2 r3 r4 r5);obtain⟨p0,p1,p2,-⟩:=zc (j.o.below k.o.base j.o.lt);obtain⟨p3,-⟩:=zc (i.o.below k.o.base i.o.lt)
     obtain⟨-,p4,p5,-⟩:=zc (i.o.below k.o.base i.o.lt);have r0:S.frozen? ⟨u+1+1,0,none⟩=false:=(j.o.below k.o.base j.o.lt).free 0;have r1:S.frozen? ⟨u+1+1,1,none⟩=false:=(j.o.below k.o.base j.o.lt).free 1;have r2:S.frozen? ⟨u+1+1,2,none⟩=false:=(j.o.below k.o.base j.o.lt).free 2;have r3:S.frozen? ⟨u+1+1+1,0,none⟩=false:=(i.o.below k.o.base i.o.lt).free 0;have r4:S.frozen? ⟨u+1+1+1,1,none⟩=false:=(i.o.below k.o.base i.o.lt).free 1;have r5:S.frozen? ⟨u+1+1+1,2,none⟩=false:=(i.o.below k.o.base i.o.lt).free 2
     skip)
   |
    (go_at_call_of 63 (Value.string t.y)
     apply cM;apply FBag.of (w0:=X) (L:=_) (n:=n) t.y;(first|exact k.o|exact k.o.drew);exact I.o.2.2.2.1;exact I.o.2.2.2.2;rintro e v4 ⟨q,H,ay,bb,bc,rfl,r⟩;rw[H.inj HQ.o.2.2.2] at r;have F:=Hi r;clear H r k z k1 k2 C;have z:=(d.o.below F.o.base d.o.lt).cell 0;have k1:=(d.o.below F.o.base d.o.lt).cell 1;have k2:=(g.o.below F.o.base g.o.lt).cell 0;have C:=(g.o.below F.o.base g.o.lt).cell 1;simp at z k1 k2 C
     skip)
   |
    (go_at_call_of 63 (Value.string s.y)
     apply cM;apply FBag.of (w0:=X) (L:=_) (n:=n) s.y;(first|exact F.o|exact F.o.drew);exact I.o.2.1;exact I.o.2.2.2.2;rintro e v5 ⟨q,H,bd,be,bf,rfl,r⟩;rw[H.inj HQ.o.2.1] at r;have G:=Hi r;clear H r F z k1 k2 C;have z:=(d.o.below G.o.base d.o.lt).cell 0;have k1:=(d.o.below G.o.base d.o.lt).cell 1;have k2:=(g.o.below G.o.base g.o.lt).cell 0;have C:=(g.o.below G.o.base g.o.lt).cell 1;simp at z k1 k2 C
     skip)
   |
    (go_at_call_of 57 ay
     apply cM;(first|(apply FBag.minus G.o)|(apply FBag.minus G.o.drew));(repeat(first|exact mH|apply mT))
     (have:=I.o.2.2.2.2;omega)
     rintro e T ⟨bg,bh,bi,rfl,r⟩;obtain⟨ah,ai,aj,ak,al,am,an,rfl,rfl,rfl⟩:=Qb0 (r.get (List.Mem.head _)).1;have p:=Hi r;clear r G z k1 k2 C;have z:=(d.o.below p.o.base d.o.lt).cell 0;have k1:=(d.o.below p.o.base d.o.lt).cell 1;have k2:=(g.o.below p.o.base g.o.lt).cell 0;have C:=(g.o.below p.o.base g.o.lt).cell 1;simp at z k1 k2 C;(try clear p0 p1 p2 p3 p4 p5 r0 r1 r2 r3 r4 r5);obtain⟨p0,p1,p2,-⟩:=zc (j.o.below p.o.base j.o.lt);obtain⟨p3,-⟩:=zc (i.o.below p.o.base i.o.lt)
     obtain⟨-,p4,p5,-⟩:=zc (i.o.below p.o.base i.o.lt);have r0:T.frozen? ⟨u+1+1,0,none⟩=false:=(j.o.below p.o.base j.o.lt).free 0;have r1:T.frozen? ⟨u+1+1,1,none⟩=false:=(j.o.below p.o.base j.o.lt).free 1;have r2:T.frozen? ⟨u+1+1,2,none⟩=false:=(j.o.below p.o.base j.o.lt).free 2;have r3:T.frozen? ⟨u+1+1+1,0,none⟩=false:=(i.o.below p.o.base i.o.lt).free 0;have r4:T.frozen? ⟨u+1+1+1,1,none⟩=false:=(i.o.below p.o.base i.o.lt).free 1;have r5:T.frozen? ⟨u+1+1+1,2,none⟩=false:=(i.o.below p.o.base i.o.lt).free 2
     skip)
   |fail)
  all_goals
   have HW:=Hi (Qg7 (x1:=.bool Z) (x2:=.slice aa ab ad) (x3:=.slice ae af ag) (y1:=.bool ah) (y2:=.slice ai aj ak) (y3:=.slice al am an) (p.o.from Y.o HG.o (M:=[⟨.bool ah,.slice ai aj ak,.slice al am an,y2 - y1,4*n+1+(4*n+1)+1⟩,⟨.bool Z,.slice aa ab ad,.slice ae af ag,x2 - x1,4*n+1+(4*n+1)+1⟩]) (fun f r=>by
    simp only[List.mem_cons,List.not_mem_nil,or_false] at r;rcases r with rfl|rfl
    . exact⟨_,List.Mem.head _,Nat.le_refl _⟩
    . exact⟨_,List.Mem.tail _ (List.Mem.tail _ (List.Mem.tail _ (List.Mem.head _))),Nat.le_refl _⟩)) (by have:=U.o;omega) (by have:=U.o;omega) (by omega) (j.o.below p.o.base j.o.lt) (i.o.below p.o.base i.o.lt))
   clear z k1 k2 C p0 p1 p2 p3 p4 p5 r0 r1 r2 r3 r4 r5 n1 n2 n3 n4 n5 n6 n7 n8 n9 aw;go_wp2;refine bodyPost_ret (v:=.tuple #[_,_]) (Qg5 rfl _ _ (u+2) (u+3) 107 _ _ (0,0) (0,0) _ rfl HW.o.2.1 rfl HW.o.2.2 underlying107 rfl Tryz.fracInfo Tryz.fracInfo) rfl ?_;exact⟨_,_,_,_,_,_,rfl,HW.o.1⟩
 .
  obtain⟨X,W⟩:=nm (((V.alloc (.cells #[.string t.x,.string t.y] 34)).alloc (.cells #[.string s.x,.string s.y] 34)).drew);have J:Bl V X:=by rw[<-W];exact((bR.alloc lZ _).alloc (by simp) _).drew
  have K:SB X (V.heap.size+1) 34 #[.string s.x,.string s.y]:=by rw[<-W];exact Qa1 V _ _ _
  have N:SB X (V.heap.size) 34 #[.string t.x,.string t.y]:=by rw[<-W];exact((SB.new V _ _).alloc _)
  obtain⟨d,g⟩:=Ia K N;have Y:O (Bl w X):=Hi (ap.o.trans (J.mono ap.o.size));have Q:O (FBag X X []):=Hi (FBag.start (HG.o.below Y.o));obtain⟨j,i⟩:=Ia (aq.o.below J aq.o.lt) (ar.o.below J ar.o.lt);have z:=K.cell 0;have k1:=K.cell 1;have k2:=N.cell 0;have C:=N.cell 1;simp at z k1 k2 C;clear J K N f0 f1 f2 u0 u1 u2 u3;have av:=Hi W;clear W;have hz:=az.o;have n1:V.heap.size≠u+1+1:=by omega
  have n2:V.heap.size≠u+1+1+1:=by omega
  have n3:V.heap.size+1≠u+1+1:=by omega
  have n4:V.heap.size+1≠u+1+1+1:=by omega
  have n5:=n1.symm;have n6:=n2.symm;have n7:=n3.symm;have n8:=n4.symm;have n9:V.heap.size≠u+1:=by omega
  have aw:=n9.symm;clear hz;rw[av.o];go_wp2_with fail;go_region_held3 (fun v=>v.cell? ⟨V.heap.size+1,0,none⟩=some (.string s.x)/\v.cell? ⟨V.heap.size+1,1,none⟩=some (.string s.y)/\v.cell? ⟨V.heap.size,0,none⟩=some (.string t.x)/\v.cell? ⟨V.heap.size,1,none⟩=some (.string t.y)) ((first|(simp [*];done)|go_keep)) (first
   |
    (go_at_call_of 63 (Value.string t.x)
     apply cM;apply FBag.of (w0:=X) (L:=[]) (n:=n) t.x;(first|exact Q.o|exact Q.o.drew);exact I.o.2.2.1;exact I.o.2.2.2.2;rintro e v1 ⟨q,H,ax,a0,a4,rfl,r⟩;rw[H.inj HQ.o.2.2.1] at r;have D:=Hi r;clear H r Q z k1 k2 C;have z:=(d.o.below D.o.base d.o.lt).cell 0;have k1:=(d.o.below D.o.base d.o.lt).cell 1;have k2:=(g.o.below D.o.base g.o.lt).cell 0;have C:=(g.o.below D.o.base g.o.lt).cell 1;simp at z k1 k2 C
     skip)
   |
    (go_at_call_of 63 (Value.string s.x)
     apply cM;apply FBag.of (w0:=X) (L:=_) (n:=n) s.x;(first|exact D.o|exact D.o.drew);exact I.o.1;exact I.o.2.2.2.2;rintro e v2 ⟨q,H,a5,a6,a7,rfl,r⟩;rw[H.inj HQ.o.1] at r;have E:=Hi r;clear H r D z k1 k2 C;have z:=(d.o.below E.o.base d.o.lt).cell 0;have k1:=(d.o.below E.o.base d.o.lt).cell 1;have k2:=(g.o.below E.o.base g.o.lt).cell 0;have C:=(g.o.below E.o.base g.o.lt).cell 1;simp at z k1 k2 C
     skip)
   |
    (go_at_call_of 57 ax
     apply cM;(first|(apply FBag.minus E.o)|(apply FBag.minus E.o.drew));(repeat(first|exact mH|apply mT))
     (have:=I.o.2.2.2.2;omega)
     rintro e S ⟨a8,a9,ba,rfl,r⟩;obtain⟨Z,aa,ab,ad,ae,af,ag,rfl,rfl,rfl⟩:=Qb0 (r.get (List.Mem.head _)).1;have k:=Hi r;clear r E z k1 k2 C;have z:=(d.o.below k.o.base d.o.lt).cell 0;have k1:=(d.o.below k.o.base d.o.lt).cell 1;have k2:=(g.o.below k.o.base g.o.lt).cell 0;have C:=(g.o.below k.o.base g.o.lt).cell 1;simp at z k1 k2 C;(try clear p0 p1 p2 p3 p4 p5 r0 r1 r2 r3 r4 r5);obtain⟨p0,p1,p2,-⟩:=zc (j.o.below k.o.base j.o.lt);obtain⟨p3,-⟩:=zc (i.o.below k.o.base i.o.lt)
     obtain⟨-,p4,p5,-⟩:=zc (i.o.below k.o.base i.o.lt);have r0:S.frozen? ⟨u+1+1,0,none⟩=false:=(j.o.below k.o.base j.o.lt).free 0;have r1:S.frozen? ⟨u+1+1,1,none⟩=false:=(j.o.below k.o.base j.o.lt).free 1;have r2:S.frozen? ⟨u+1+1,2,none⟩=false:=(j.o.below k.o.base j.o.lt).free 2;have r3:S.frozen? ⟨u+1+1+1,0,none⟩=false:=(i.o.below k.o.base i.o.lt).free 0;have r4:S.frozen? ⟨u+1+1+1,1,none⟩=false:=(i.o.below k.o.base i.o.lt).free 1;have r5:S.frozen? ⟨u+1+1+1,2,none⟩=false:=(i.o.below k.o.base i.o.lt).free 2
     skip)
   |
    (go_at_call_of 63 (Value.string t.y)
     apply cM;apply FBag.of (w0:=X) (L:=_) (n:=n) t.y;(first|exact k.o|exact k.o.drew);exact I.o.2.2.2.1;exact I.o.2.2.2.2;rintro e v4 ⟨q,H,ay,bb,bc,rfl,r⟩;rw[H.inj HQ.o.2.2.2] at r;have F:=Hi r;clear H r k z k1 k2 C;have z:=(d.o.below F.o.base d.o.lt).cell 0;have k1:=(d.o.below F.o.base d.o.lt).cell 1;have k2:=(g.o.below F.o.base g.o.lt).cell 0;have C:=(g.o.below F.o.base g.o.lt).cell 1;simp at z k1 k2 C
     skip)
   |
    (go_at_call_of 63 (Value.string s.y)
     apply cM;apply FBag.of (w0:=X) (L:=_) (n:=n) s.y;(first|exact F.o|exact F.o.drew);exact I.o.2.1;exact I.o.2.2.2.2;rintro e v5 ⟨q,H,bd,be,bf,rfl,r⟩;rw[H.inj HQ.o.2.1] at r;have G:=Hi r;clear H r F z k1 k2 C;have z:=(d.o.below G.o.base d.o.lt).cell 0;have k1:=(d.o.below G.o.base d.o.lt).cell 1;have k2:=(g.o.below G.o.base g.o.lt).cell 0;have C:=(g.o.below G.o.base g.o.lt).cell 1;simp at z k1 k2 C
     skip)
   |
    (go_at_call_of 57 ay
     apply cM;(first|(apply FBag.minus G.o)|(apply FBag.minus G.o.drew));(repeat(first|exact mH|apply mT))
     (have:=I.o.2.2.2.2;omega)
     rintro e T ⟨bg,bh,bi,rfl,r⟩;obtain⟨ah,ai,aj,ak,al,am,an,rfl,rfl,rfl⟩:=Qb0 (r.get (List.Mem.head _)).1;have p:=Hi r;clear r G z k1 k2 C;have z:=(d.o.below p.o.base d.o.lt).cell 0;have k1:=(d.o.below p.o.base d.o.lt).cell 1;have k2:=(g.o.below p.o.base g.o.lt).cell 0;have C:=(g.o.below p.o.base g.o.lt).cell 1;simp at z k1 k2 C;(try clear p0 p1 p2 p3 p4 p5 r0 r1 r2 r3 r4 r5);obtain⟨p0,p1,p2,-⟩:=zc (j.o.below p.o.base j.o.lt);obtain⟨p3,-⟩:=zc (i.o.below p.o.base i.o.lt)
     obtain⟨-,p4,p5,-⟩:=zc (i.o.below p.o.base i.o.lt);have r0:T.frozen? ⟨u+1+1,0,none⟩=false:=(j.o.below p.o.base j.o.lt).free 0;have r1:T.frozen? ⟨u+1+1,1,none⟩=false:=(j.o.below p.o.base j.o.lt).free 1;have r2:T.frozen? ⟨u+1+1,2,none⟩=false:=(j.o.below p.o.base j.o.lt).free 2;have r3:T.frozen? ⟨u+1+1+1,0,none⟩=false:=(i.o.below p.o.base i.o.lt).free 0;have r4:T.frozen? ⟨u+1+1+1,1,none⟩=false:=(i.o.below p.o.base i.o.lt).free 1;have r5:T.frozen? ⟨u+1+1+1,2,none⟩=false:=(i.o.below p.o.base i.o.lt).free 2
     skip)
   |fail)
  all_goals
   have HW:=Hi (Qg7 (x1:=.bool Z) (x2:=.slice aa ab ad) (x3:=.slice ae af ag) (y1:=.bool ah) (y2:=.slice ai aj ak) (y3:=.slice al am an) (p.o.from Y.o HG.o (M:=[⟨.bool ah,.slice ai aj ak,.slice al am an,y2 - y1,4*n+1+(4*n+1)+1⟩,⟨.bool Z,.slice aa ab ad,.slice ae af ag,x2 - x1,4*n+1+(4*n+1)+1⟩]) (fun f r=>by
    simp only[List.mem_cons,List.not_mem_nil,or_false] at r;rcases r with rfl|rfl
    . exact⟨_,List.Mem.head _,Nat.le_refl _⟩
    . exact⟨_,List.Mem.tail _ (List.Mem.tail _ (List.Mem.tail _ (List.Mem.head _))),Nat.le_refl _⟩)) (by have:=U.o;omega) (by have:=U.o;omega) (by omega) (j.o.below p.o.base j.o.lt) (i.o.below p.o.base i.o.lt))
   clear z k1 k2 C p0 p1 p2 p3 p4 p5 r0 r1 r2 r3 r4 r5 n1 n2 n3 n4 n5 n6 n7 n8 n9 aw;go_wp2;refine bodyPost_ret (v:=.tuple #[_,_]) (Qg5 rfl _ _ (u+2) (u+3) 107 _ _ (0,0) (0,0) _ rfl HW.o.2.1 rfl HW.o.2.2 underlying107 rfl Tryz.fracInfo Tryz.fracInfo) rfl ?_;exact⟨_,_,_,_,_,_,rfl,HW.o.1⟩
def slRow(W g:Nat):Value:=.slice (some ⟨g,0,none⟩) W W
theorem QBlk.other{u c:Vz}{g a:Nat}{ts us:List FE}(h:QBlk u g ts)(d:QBlk u a us)(e:Only a u c)(b:g≠a):QBlk c g ts:=
 ⟨h.blk.only e b,fun t f=>⟨(h.ts t f).1.only e d.blk d.no64,(h.ts t f).2⟩⟩
def updM(M:Nat->Nat->Rat)(r c:Nat)(q:Rat):Nat->Nat->Rat:=fun r' c'=>if r'=r/\c'=c then q else M r' c'
structure GM (w u:Vz) (B G W K:Nat) (gs:Vy) (M:Nat->Nat->Rat):Prop where
 base:Below w.heap.size w u
 o:SB u G 98 (gs.map (slRow W)).toArray
 row:∀(r g:Nat),gs[r]?=some g->∃us,QBlk u g us/\us.length=W/\∀(c:Nat) (t:FE),us[c]?=some t->t.q=M r c/\t.k<=K
 nd:∀(r r' g:Nat),gs[r]?=some g->gs[r']?=some g->r=r'
 ne:∀(r g:Nat),gs[r]?=some g->g≠G
 lo:B<=G
 los:∀(r g:Nat),gs[r]?=some g->B<=g
structure BM (w u:Vz) (F:Vw) (G W K:Nat) (gs:Vy) (M:Nat->Nat->Rat):Prop extends GM w u (w.heap.size+1) G W K gs M where
 box:SB u w.heap.size 26 F
section
variable {w u:Vz} {F:Vw} {B G W K:Nat} {gs:Vy} {M:Nat->Nat->Rat}
theorem GM.below{b:Vz}(h:GM w u B G W K gs M)(a:Below u.heap.size u b):GM w b B G W K gs M:=by
 refine⟨h.base.trans (a.mono h.base.size),h.o.below a h.o.lt,fun r g c=>?_,h.nd,h.ne,h.lo,h.los⟩;obtain⟨us,d,e⟩:=h.row r g c;exact⟨us,d.below a,e⟩
theorem BM.below{a:Vz}(h:BM w u F G W K gs M)(b:Below u.heap.size u a):BM w a F G W K gs M:=⟨h.toGM.below b,h.box.below b h.box.lt⟩
theorem GM.congr{a:Nat->Nat->Rat}(h:GM w u B G W K gs M)(b:∀r c,M r c=a r c):GM w u B G W K gs a:=by
 have:M=a:=funext fun r=>funext fun c=>b r c
 rw[<-this];exact h
theorem BM.congr{a:Nat->Nat->Rat}(h:BM w u F G W K gs M)(b:∀r c,M r c=a r c):BM w u F G W K gs a:=⟨h.toGM.congr b,h.box⟩
theorem GM.cell{r g:Nat}(h:GM w u B G W K gs M)(a:gs[r]?=some g):u.cell? ⟨G,r,none⟩=some (.slice (some ⟨g,0,none⟩) W W):=by
 rw[h.o.cell];simp[a,slRow]
theorem GM.lt{r g:Nat}(h:GM w u B G W K gs M)(a:gs[r]?=some g):g<u.heap.size:=by
 obtain⟨us,b,_⟩:=h.row r g a;exact b.blk.lt
theorem GM.at{r g c:Nat}(h:GM w u B G W K gs M)(d:gs[r]?=some g)(i:c<W):∃x y z,u.cell? ⟨g,c*3,none⟩=some x/\u.cell? ⟨g,c*3+1,none⟩=some y/\u.cell? ⟨g,c*3+2,none⟩=some z/\u.frozen? ⟨g,c*3,none⟩=false/\u.frozen? ⟨g,c*3+1,none⟩=false/\u.frozen? ⟨g,c*3+2,none⟩=false:=by
 obtain⟨us,a,j,_⟩:=h.row r g d;obtain⟨t,f⟩:∃t,us[c]?=some t:=⟨us[c]'(by omega),gE (by omega)⟩;obtain⟨b,o,e,_,d0,d1,d2⟩:=a.row.at f;cases e;simp only[Nat.zero_add] at d0 d1 d2;exact⟨_,_,_,d0,d1,d2,a.blk.free _,a.blk.free _,a.blk.free _⟩
abbrev set3(u:Vz)(g c:Nat)(x y z:Value):World:=((u.setCell ⟨g,c*3,none⟩ x).setCell ⟨g,c*3+1,none⟩ y).setCell ⟨g,c*3+2,none⟩ z
theorem Qc9(u:Vz)(g c:Nat)(x y z:Value):Only g u (set3 u g c x y z):=(((Only.refl g u).setCell _ _).setCell _ _).setCell _ _
theorem GM.keepV{r g c:Nat}{x y z v:Value}{q:Rat}(h:GM w u B G W K gs M)(b:gs[r]?=some g)(d:FracV u v q):FracV (set3 u g c x y z) v q:=by
 obtain⟨us,a,_⟩:=h.row r g b;exact d.only (Qc9 u g c x y z) a.blk a.no64
theorem keep3{g b c:Nat}{x y z:Value}{t:Vr}{C:Vw}(d:SB u b t C)(a:b≠g):SB (set3 u g c x y z) b t C:=d.only (Qc9 u g c x y z) a
theorem GM.put{r g c:Nat}{x y z:Value}{q:Rat}(h:GM w u B G W K gs M)(hB:w.heap.size<=B)(d:gs[r]?=some g)(P:c<W)(H:FracV u (.agg #[x,y,z]) q)(I:Fits q K)(J:0<K):GM w (set3 u g c x y z) B G W K gs (updM M r c q):=by
 obtain⟨us,E,L,N⟩:=h.row r g d;have j:=Qc9 u g c x y z;have k:=h.los r g d;refine⟨h.base.trans (j.below (Nat.le_trans hB k) h.base.size),h.o.only j (fun e=>h.ne r g d e.symm),fun l f a=>?_,h.nd,h.ne,h.lo,h.los⟩;by_cases e:l=r
 .
  subst e;obtain rfl:g=f:=Option.some.inj (d.symm.trans a);refine⟨us.set c ⟨x,y,z,q,K⟩,Qg2 E (by omega) H I J,by rw[List.length_set];exact L,fun i t b=>?_⟩;by_cases m:i=c
  .
   subst m;rw[List.getElem?_set_self (by omega)] at b;obtain rfl:=Option.some.inj b;exact⟨by simp[updM],Nat.le_refl _⟩
  .
   rw[List.getElem?_set_ne (fun e=>m e.symm)] at b;obtain⟨n,p⟩:=N i t b;exact⟨by rw[n];simp[updM,m],p⟩
 .
  obtain⟨s,v,A,C⟩:=h.row l f a;have D:f≠g:=fun O=>e (h.nd l r f a (by rw[O];exact d))
  refine⟨s,v.other E j D,A,fun i t b=>?_⟩;obtain⟨n,p⟩:=C i t b;exact⟨by rw[n];simp[updM,e],p⟩
theorem BM.put{r g c:Nat}{x y z:Value}{q:Rat}(h:BM w u F G W K gs M)(a:gs[r]?=some g)(b:c<W)(d:FracV u (.agg #[x,y,z]) q)(e:Fits q K)(f:0<K):BM w (set3 u g c x y z) F G W K gs (updM M r c q):=
 ⟨h.toGM.put (Nat.le_succ _) a b d e f,h.box.only (Qc9 u g c x y z) (by have:=h.los r g a;omega)⟩
end
def BlankSays(n m:Nat)(w:Vz)(e:Ending)(w':Vz):Prop:=(∃(G:Nat) (gs:Vy),e=.returned (.slice (some ⟨G,0,none⟩) n n)/\gs.length=n/\w.heap.size<=G/\SB w' G 98 (gs.map (slRow m)).toArray/\(∀(r g:Nat),gs[r]?=some g->QBlk w' g (List.replicate m FE.zero)/\G<g)/\(∀(r r' g:Nat),gs[r]?=some g->gs[r']?=some g->r=r'))/\Below w.heap.size w w'
theorem QBlk.zeroOnly{u b:Vz}{g c m:Nat}(h:QBlk u g (List.replicate m FE.zero))(d:Only c u b)(a:g≠c):QBlk b g (List.replicate m FE.zero):=by
 refine⟨h.blk.only d a,fun t e=>?_⟩;obtain⟨_,rfl⟩:=List.mem_replicate.1 e;exact⟨FracV.zero _,Fits.zero,by decide⟩
theorem Ql4(m n k g:Nat)(gs:Vy)(hk:k<n)(hl:gs.length=k):((gs.map (slRow m)++List.replicate (n - k) (Value.slice none 0 0)).set k (slRow m g))=(gs++ [g]).map (slRow m)++List.replicate (n - (k+1)) (Value.slice none 0 0):=by
 rw[show n - k=(n - (k+1))+1 by omega,List.replicate_succ,List.set_append_right _ _ (by rw[List.length_map];omega),List.length_map,hl,Nat.sub_self,List.set_cons_zero];simp
theorem Qda(n m:Nat)(w:Vz)(hn:n<=1000)(hm:m<=1000):
 Calls prog 160 #[.int .i64 n,.int .i64 m] w (BlankSays n m w):=by
 have t:=fun w=>Qli n (by omega) w
 have J:=fun w=>Qa4 m (by omega) w
 obtain⟨L,f⟩:=nm (((List.replicate n MR.none).flatMap MR.cells).toArray);obtain⟨N,v⟩:=nm (((List.replicate m FE.zero).flatMap FE.cells).toArray);rw[f] at t;rw[v] at J;have P:O (L=(List.replicate n (Value.slice none 0 0)).toArray):=Hi (by
  rw[<-f]
  congr 1
  clear f t hn
  induction n with
  |zero=>rfl
  |succ n ih=>rw[List.replicate_succ,List.flatMap_cons,ih,List.replicate_succ];rfl)
 have Q:=Hi v.symm;clear f v;go_enter func160,ntmps160;go_wp2_with fail;clear t;obtain⟨G,hG⟩:=nm w.heap.size;obtain⟨V0,j⟩:=nm (w.alloc (.cells L 98));have C:=Ua j;have R:O (SB V0 G 98 (([]:List Nat).map (slRow m)++List.replicate (n - 0) (Value.slice none 0 0)).toArray):=Hi (by
  rw[<-j,<-hG];have:=SB.new w 98 L;rw[P.o] at this ⊢
  exact this)
 try rw[j]
 try rw[hG]
 unfold Bl at C;rw[hG] at C;have D:=Hi hG;clear j hG;go_loopw [10] (fun i wr=>∃(k:Nat) (gs:Vy),k<=n/\i=.int .i64 k/\gs.length=k/\SB wr G 98 (gs.map (slRow m)++List.replicate (n - k) (Value.slice none 0 0)).toArray/\(∀(r g:Nat),gs[r]?=some g->QBlk wr g (List.replicate m FE.zero)/\G<g)/\(∀(r x g:Nat),gs[r]?=some g->gs[x]?=some g->r=x)/\Below G w wr) (fun i _=>n - (intOf i).toNat)
 case atStart=>exact⟨0,[],by omega,rfl,rfl,R.o,fun r g h=>by simp at h,fun r x g h=>by simp at h,C.o⟩
 case round=>
  obtain⟨k,gs,hk,rfl,y,z,q,E,hb⟩:=hrel;obtain⟨HB,S,T,HN,U⟩:=Id hb z q E y;have c:=z.lt;clear hb z q E;by_cases X:k<n
  .
   obtain⟨V,hV⟩:=nm (wr.alloc (.cells N 107));have A:=Ua hV;have HQ:O (QBlk V wr.heap.size (List.replicate m FE.zero)):=Hi (by rw[<-hV];exact QBlk.new wr m N Q.o);have l:=S.o.below A.o S.o.lt;have f0:=l.free k;have t0:V.cell? ⟨G,k,none⟩=some (.slice none 0 0):=by
    rw[l.cell];have e:(gs.map (slRow m)++List.replicate (n - k) (Value.slice none 0 0)).toArray[k]?=(gs.map (slRow m)++List.replicate (n - k) (Value.slice none 0 0))[k]?:=by simp
    rw[e,List.getElem?_append_right (by rw[List.length_map];omega),List.length_map,y,Nat.sub_self,List.getElem?_replicate,if_pos (by omega)]
   have Y:=Hi l;have q1:((k:Int)<(n:Int)):=by omega
   rw[<-hV] at f0 t0;have HV:=Hi hV;clear hV l y;go_wp2_with fail;have e0:(wr.setCell ⟨G,k,none⟩ (.slice (some ⟨wr.heap.size,0,none⟩) m m)).alloc (.cells N 107)=V.setCell ⟨G,k,none⟩ (.slice (some ⟨wr.heap.size,0,none⟩) m m):=by
    rw[<-HV.o];exact(World.setCell_alloc_past _ _ _ _ c).symm
   rw[e0];have ho:Only G V (V.setCell ⟨G,k,none⟩ (.slice (some ⟨wr.heap.size,0,none⟩) m m)):=(Only.refl G V).setCell _ _;have s:∀(r g:Nat),gs[r]?=some g->g<wr.heap.size:=fun r g b=>(T.o r g b).1.blk.lt
   refine⟨⟨k+1,gs++ [wr.heap.size],by omega,by go_num,by rw[List.length_append];have:=U.o;simp;omega,?_,?_,?_,((HB.o.trans (A.o.mono (Nat.le_of_lt c))).setCell (p:=⟨G,k,none⟩) lZ _)⟩,?_⟩
   .
    have d:=Y.o.set k (.slice (some ⟨wr.heap.size,0,none⟩) m m);rw[List.setIfInBounds_toArray] at d;rw[<-Ql4 m n k wr.heap.size gs X U.o];exact d
   .
    intro r g b;rcases Nat.lt_or_ge r gs.length with h|h
    .
     rw[List.getElem?_append_left h] at b;obtain⟨d,H⟩:=T.o r g b;exact⟨(d.below A.o).zeroOnly ho (by omega),H⟩
    .
     rw[List.getElem?_append_right h] at b;have Z:g=wr.heap.size:=by simpa using mO b
     rw[Z];exact⟨HQ.o.zeroOnly ho (by omega),c⟩
   .
    intro r x g b a;rcases Nat.lt_or_ge r gs.length with h|h<;>rcases Nat.lt_or_ge x gs.length with I|I
    .
     rw[List.getElem?_append_left h] at b;rw[List.getElem?_append_left I] at a;exact HN.o r x g b a
    .
     rw[List.getElem?_append_left h] at b;rw[List.getElem?_append_right I] at a;have Z:g=wr.heap.size:=by simpa using mO a
     have:=s r g b;omega
    .
     rw[List.getElem?_append_right h] at b;rw[List.getElem?_append_left I] at a;have Z:g=wr.heap.size:=by simpa using mO b
     have:=s x g a;omega
    .
     have d:=(gZ b).1;have H:=(gZ a).1;rw[List.length_append] at d H;simp at d H;omega
   . simp[intOf]
     omega
  .
   have aa:k=n:=by omega
   subst aa;go_wp2;go_ret;refine⟨⟨G,gs,rfl,U.o,Nat.le_of_eq D.o,?_,T.o,HN.o⟩,by rw[D.o];exact HB.o⟩;have d:=S.o;rw[Nat.sub_self] at d
   simpa using d
theorem one_q:QOf (⟨#[49]⟩:ByteArray).data.toList 1:=by
 have a:Lib.trimPrefix [49] [45]= [49]:=by decide
 have b:Lib.cut [49] [47]=([49],[],false):=by decide
 refine⟨1,.inl ⟨⟨⟨by rw[a,b];simp,?_⟩,?_⟩,?_⟩,?_⟩
 .
  rw[a,b];intro d c;simp at c;subst c;decide
 .
  rw[a,b];intro h;cases h
 . rw[a,b]
   decide
 .
  have e:Lib.hasPrefix [49] [45]=false:=by decide
  rw[e];rfl
theorem Fits.one:Fits 1 1:=⟨by decide,by decide⟩
def barAt(p:Nat × Nat × Rat × Rat)(r:Nat):Rat:=if r=2*p.1 then p.2.2.1 else if r=2*p.2.1 then -p.2.2.1 else if r=2*p.1+1 then p.2.2.2 else if r=2*p.2.1+1 then -p.2.2.2 else 0
def balM(vb:List (Nat × Nat × Rat × Rat))(nb:Nat)(vh:Vy)(r c:Nat):Rat:=match vb[c]? with
 |some p=>barAt p r
 |none=>match vh[c - nb]? with
  |some h=>if nb<=c/\r=h then 1 else 0
  |none=>0
structure BarV (n:Nat) (js:List S2) (b:B6) (p:Nat × Nat × Rat × Rat):Prop where
 a:b.a=(p.1:Nat)
 b:b.b=(p.2.1:Nat)
 ne:p.1≠p.2.1
 ex:∃(s t:S2) (x1 y1 x2 y2:Rat),js[p.1]?=some s/\js[p.2.1]?=some t/\s.x.size<=n/\s.y.size<=n/\t.x.size<=n/\t.y.size<=n/\QOf s.x.data.toList x1/\QOf s.y.data.toList y1/\QOf t.x.data.toList x2/\QOf t.y.data.toList y2/\p.2.2.1=x2 - x1/\p.2.2.2=y2 - y1
structure HoldV (nj:Nat) (h:H3) (r:Nat):Prop where
 ex:∃j:Nat,h.j=(j:Nat)/\j<nj/\r=if h.w=1 then 2*j else 2*j+1
theorem Ql5{a:List (Nat × Nat × Rat × Rat)}{nb k:Nat}{p:Nat × Nat × Rat × Rat}(d:a[k]?=some p)(f:p.1≠p.2.1):
 ∀r c,updM (updM (updM (updM (balM (a.take k) nb []) (2*p.1) k p.2.2.1) (2*p.2.1) k (-p.2.2.1)) (2*p.1+1) k p.2.2.2) (2*p.2.1+1) k (-p.2.2.2) r c=balM (a.take (k+1)) nb [] r c:=by
 intro r c;have hk:=(gZ d).1;by_cases e:c=k
 .
  subst e;have b:(a.take (c+1))[c]?=some p:=by rw[List.getElem?_take_of_lt (by omega)];exact d
  have g:(a.take c)[c]?=none:=List.getElem?_eq_none (by rw[List.length_take];omega);simp only[balM,b,g,updM,barAt,and_true,List.getElem?_nil]
  repeat' split
  all_goals first|rfl|(exfalso;omega)
 .
  have b:(a.take (k+1))[c]?=(a.take k)[c]?:=by
   rcases Nat.lt_or_ge c k with h|h
   . rw[List.getElem?_take_of_lt (by omega),List.getElem?_take_of_lt h]
   . rw[List.getElem?_eq_none (by rw[List.length_take];omega),List.getElem?_eq_none (by rw[List.length_take];omega)]
  simp only[balM,b,updM,e,and_false,if_false]
theorem Ql6{a:List (Nat × Nat × Rat × Rat)}{vh:Vy}{nb k h:Nat}(hl:a.length=nb)(g:vh[k]?=some h):∀r c,updM (balM a nb (vh.take k)) h (nb+k) 1 r c=balM a nb (vh.take (k+1)) r c:=by
 intro r c;have hk:=(gZ g).1;rcases Nat.lt_or_ge c nb with i|i
 .
  obtain⟨p,e⟩:∃p,a[c]?=some p:=⟨a[c]'(by omega),gE (by omega)⟩;simp only[balM,e,updM];rw[if_neg (by omega)]
 .
  have j:a[c]?=none:=List.getElem?_eq_none (by omega);by_cases b:c=nb+k
  .
   subst b;have f:(vh.take (k+1))[nb+k - nb]?=some h:=by rw[Nat.add_sub_cancel_left,List.getElem?_take_of_lt (by omega)];exact g
   have l:(vh.take k)[nb+k - nb]?=none:=List.getElem?_eq_none (by rw[List.length_take];omega);simp only[balM,j,f,l,updM,and_true];by_cases d:r=h
   . rw[if_pos d,if_pos ⟨i,d⟩]
   . rw[if_neg d,if_neg (fun x=>d x.2)]
  .
   have f:(vh.take (k+1))[c - nb]?=(vh.take k)[c - nb]?:=by
    rcases Nat.lt_or_ge (c - nb) k with h|h
    . rw[List.getElem?_take_of_lt (by omega),List.getElem?_take_of_lt h]
    . rw[List.getElem?_eq_none (by rw[List.length_take];omega),List.getElem?_eq_none (by rw[List.length_take];omega)]
   simp only[balM,j,f,updM,b,and_false,if_false]
theorem Qg9(a1 a2 a3:Vx)(c1 c2 c3 n K:Nat)(L:List S2)(y:List B6)(H:List H3)(vb:List (Nat × Nat × Rat × Rat))(vh:Vy)(w:Vz)(hg:Glob w)(hf:FrRow w a1 a2 a3 c1 c2 c3 L y H)
 (hj:L.length<=10) (hb:y.length<=24) (hh:H.length<=20) (cw:vb.length=y.length) (cz:vh.length=H.length) (c0:∀(i:Nat) (b:B6) (p:Nat × Nat × Rat × Rat),y[i]?=some b->vb[i]?=some p->BarV n L b p) (c4:∀(i:Nat) (h:H3) (r:Nat),H[i]?=some h->vh[i]?=some r->HoldV L.length h r)
 (hn:n<=1048576) (hK:4*n+1+(4*n+1)+1<=K):
 Calls prog 98 #[.agg #[.slice a1 L.length c1,.slice a2 y.length c2,.slice a3 H.length c3]] w fun e w'=>∃(N W G:Nat) (M:Vy),N=2*L.length/\W=y.length+H.length/\e=.returned (.slice (some ⟨G,0,none⟩) N N)/\M.length=N/\BM w w' #[.slice a1 L.length c1,.slice a2 y.length c2,.slice a3 H.length c3] G W K M (balM vb y.length vh):=by
 obtain⟨HG,HF,az,b3,eh,ei⟩:=Ie hg hf cw cz c0 c4;obtain⟨N,hN⟩:=nm (2*L.length);obtain⟨W,hW⟩:=nm (y.length+H.length);have c5:2*(L.length:Int)=(N:Int):=by omega
 have c6:(y.length:Int)+(H.length:Int)=(W:Int):=by omega
 obtain⟨b4,b5⟩:=Ia (fun u=>Qcm a1 a2 a3 c1 c2 c3 L.length y.length H.length u hj) (fun u=>Qvj a1 a2 a3 c1 c2 c3 L.length y.length H.length u hb hh);simp only[c5] at b4;simp only[c6] at b5;obtain⟨c7,HN,HW⟩:=Ib (fun u=>Qda N W u (by omega) (by omega)) hN hW;clear hg hf cw cz c0 c4 c5 c6 hN hW;obtain⟨F,hF⟩:∃F:Vw,#[.slice a1 L.length c1,.slice a2 y.length c2,.slice a3 H.length c3]=F:=⟨_,rfl⟩;obtain⟨V,hV⟩:=nm (w.alloc (.cells #[.slice a1 L.length c1,.slice a2 y.length c2,.slice a3 H.length c3] 26));obtain⟨P,b6⟩:=nm w.heap.size;have bt:=Ua hV;have d:=Uf hV b6;obtain⟨HV,al,a0⟩:=Ib hV b6 hF
 clear hV b6 hF;go_enter func98,ntmps98;go_wp2_with fail;rw[HV.o,al.o];clear HV;have x0:V.cell? ⟨P,0,none⟩=some (.slice a1 L.length c1):=by
  have h:=d.o.cell 0
  simpa using h
 have x1:V.cell? ⟨P,1,none⟩=some (.slice (a2) y.length c2):=by
  have h:=d.o.cell 1
  simpa using h
 have x2:V.cell? ⟨P,2,none⟩=some (.slice (a3) H.length c3):=by
  have h:=d.o.cell 2
  simpa using h
 have ah:=d;have S:O (Bl V V):=Hi bR;go_region_held3 (fun v=>v.cell? ⟨P,0,none⟩=some (.slice a1 L.length c1)/\v.cell? ⟨P,1,none⟩=some (.slice a2 y.length c2)/\v.cell? ⟨P,2,none⟩=some (.slice a3 H.length c3)) ((first|(simp [*];done)|go_keep)) (first
  |(
   go_at_call 107;apply cM;apply b4.o;rintro e v1 ⟨rfl,T⟩;have f:O (Bl V v1):=Hi ((by first|exact S.o|exact S.o.drew:Bl V _).trans (T.mono (by first|exact S.o.size|exact S.o.drew.size)));clear T S x0 x1 x2 d;have d:=Hi (ah.o.below f.o ah.o.lt);have x0:v1.cell? ⟨P,0,none⟩=some (.slice a1 L.length c1):=by
    have h:=d.o.cell 0
    simpa using h
   have x1:v1.cell? ⟨P,1,none⟩=some (.slice (a2) y.length c2):=by
    have h:=d.o.cell 1
    simpa using h
   have x2:v1.cell? ⟨P,2,none⟩=some (.slice (a3) H.length c3):=by
    have h:=d.o.cell 2
    simpa using h
   skip)
  |(
   go_at_call 62;apply cM;apply b5.o;rintro e v2 ⟨rfl,T⟩;have x:O (Bl V v2):=Hi ((by first|exact f.o|exact f.o.drew:Bl V _).trans (T.mono (by first|exact f.o.size|exact f.o.drew.size)));clear T f x0 x1 x2 d;have d:=Hi (ah.o.below x.o ah.o.lt);have x0:v2.cell? ⟨P,0,none⟩=some (.slice a1 L.length c1):=by
    have h:=d.o.cell 0
    simpa using h
   have x1:v2.cell? ⟨P,1,none⟩=some (.slice (a2) y.length c2):=by
    have h:=d.o.cell 1
    simpa using h
   have x2:v2.cell? ⟨P,2,none⟩=some (.slice (a3) H.length c3):=by
    have h:=d.o.cell 2
    simpa using h
   skip)
  |(
   go_at_call 160;apply cM;apply c7.o;rintro e v3 ⟨⟨G,M,rfl,c8,c9,bu,bv,da⟩,T⟩;have a4:O (Bl V v3):=Hi ((by first|exact x.o|exact x.o.drew:Bl V _).trans (T.mono (by first|exact x.o.size|exact x.o.drew.size)));have ej:V.heap.size<=G:=Nat.le_trans x.o.size c9;obtain⟨bw,ao,db,U⟩:=Ic bu bv da c8;clear T x x0 x1 x2 d bu bv da c8 c9;have d:=Hi (ah.o.below a4.o ah.o.lt);have x0:v3.cell? ⟨P,0,none⟩=some (.slice a1 L.length c1):=by
    have h:=d.o.cell 0
    simpa using h
   have x1:v3.cell? ⟨P,1,none⟩=some (.slice (a2) y.length c2):=by
    have h:=d.o.cell 1
    simpa using h
   have x2:v3.cell? ⟨P,2,none⟩=some (.slice (a3) H.length c3):=by
    have h:=d.o.cell 2
    simpa using h
   skip)
  |fail)
 have dc:O (BM w v3 F G W K M (balM (vb.take 0) y.length [])):=Hi (by
  have ev:V.heap.size=w.heap.size+1∨w.heap.size<V.heap.size:=.inr (by rw[al.o];exact ah.o.lt);have bj:w.heap.size<V.heap.size:=by omega
  refine⟨⟨bt.o.trans (a4.o.mono bt.o.size),bw.o,fun r g hr=>⟨_,(ao.o r g hr).1,by simp,fun c t ht=>?_⟩,db.o,fun r g hr=>by have:=(ao.o r g hr).2;omega,by omega,fun r g hr=>by have:=(ao.o r g hr).2;omega⟩,by rw[<-a0.o,al.o];exact d.o⟩;obtain⟨_,rfl⟩:=List.mem_replicate.1 (mO ht)
  exact⟨by simp[balM,FE.zero],by simp[FE.zero];omega⟩)
 clear d bw ao db ah a4 b4 b5 c7 ej;go_wp2_with fail;go_loopw [18] (fun iv wr=>∃k:Nat,k<=y.length/\iv=.int .i64 k/\BM w wr F G W K M (balM (vb.take k) y.length [])) (fun iv _=>y.length - (intOf iv).toNat)
 case atStart=>exact⟨0,by omega,rfl,dc.o⟩
 case round=>
  obtain⟨k,hk,rfl,a5⟩:=hrel;have HM:=Hi a5;clear a5 x0 x1 x2;by_cases bj:k<y.length
  .
   obtain⟨b,bk⟩:∃b,y[k]?=some b:=⟨y[k],gE bj⟩;obtain⟨p,b7⟩:∃p,vb[k]?=some p:=⟨vb[k]'(by have:=az.o;omega),gE (by have:=az.o;omega)⟩;have af:=eh.o k b p bk b7;obtain⟨bb,bo,rfl,ew,d0,d1,d2,d3,d4,d5⟩:=(HF.o.b.below HM.o.base).bar bk;obtain⟨dd,ek,ez⟩:=Ib af b7 bk;have q1:((k:Int)<(y.length:Int)):=by omega
   obtain⟨s,t,xs,ys,xt,yt,b8,b9,z1,z2,z3,z4,o1,o2,o3,o4,ex,ey⟩:=af.ex;rw[af.a] at d0;rw[af.b] at d1;obtain⟨X,ab⟩:=nm (wr.alloc (.cells #[.int .i64 (p.1:Nat),.int .i64 (p.2.1:Nat),.string b.c,.string b.e,.string b.l,.string b.m] 84));obtain⟨g0,ai⟩:=nm wr.heap.size;have a6:Bl wr X:=by rw[<-ab];exact(Below.refl _ _).alloc lZ _
   have de:SB X g0 84 #[.int .i64 (p.1:Nat),.int .i64 (p.2.1:Nat),.string b.c,.string b.e,.string b.l,.string b.m]:=by rw[<-ab,<-ai];exact SB.new wr _ _
   have ad:=Hi (HM.o.below a6);have ap:=Qg8 a1 (some ⟨bb,bo,none⟩) a3 c1 c2 c3 y.length H.length p.1 p.2.1 n L b s t X (HG.o.below ad.o.base) (HF.o.j.below ad.o.base) af.a af.b b8 b9 hj z1 z2 z3 z4 (by omega) o1 o2 o3 o4;rw[af.a,af.b,<-ex,<-ey] at ap;obtain⟨ap,z⟩:=Ia ap de;have e6:p.1<L.length:=(gZ b8).1;have e7:p.2.1<L.length:=(gZ b9).1;obtain⟨bl,ca⟩:=Ia ai ab;clear bk b7 af b8 b9 z1 z2 z3 z4 o1 o2 o3 o4 ex ey a6 de ai;have d:=Hi ad.o.box;rw[al.o,<-a0.o] at d;have x0:X.cell? ⟨P,0,none⟩=some (.slice a1 L.length c1):=by
    have h:=d.o.cell 0
    simpa using h
   have x1:X.cell? ⟨P,1,none⟩=some (.slice (some ⟨bb,bo,none⟩) y.length c2):=by
    have h:=d.o.cell 1
    simpa using h
   have x2:X.cell? ⟨P,2,none⟩=some (.slice (a3) H.length c3):=by
    have h:=d.o.cell 2
    simpa using h
   rw[<-ab] at x0 x1 x2;clear ab;go_wp2_with fail;rw[ca.o,bl.o];go_fit ap.o;rintro e w2 ⟨e8,e9,fa,fb,fc,fd,rfl,I⟩;obtain⟨nx,ax,lx,cx,mx,ox,px,rfl,rfl,rfl⟩:=Qb0 (I.get (List.Mem.tail _ (List.Mem.head _))).1;obtain⟨ny,ay,ly,cy,my,oy,py,rfl,rfl,rfl⟩:=Qb0 (I.get (List.Mem.head _)).1;obtain⟨df,dg,_⟩:=I.get (List.Mem.tail _ (List.Mem.head _));obtain⟨dh,di,_⟩:=I.get (List.Mem.head _);obtain⟨gx,bm⟩:=nm w2.heap.size;obtain⟨Y,hY⟩:=nm ((w2.alloc (.cells #[.bool nx,.slice ax lx cx,.slice mx ox px] 107)).alloc (.cells #[.bool ny,.slice ay ly cy,.slice my oy py] 107));have ar:Bl w2 Y:=by rw[<-hY];exact(bR.alloc lZ _).alloc (by simp) _
   have A:=Ug hY bm;have a7:O (SB Y (gx+1) 107 #[.bool ny,.slice ay ly cy,.slice my oy py]):=Hi (by rw[<-hY,<-bm];exact Qa1 w2 _ _ _);have a8:Bl X Y:=I.base.trans (ar.mono I.base.size);obtain⟨cb,D,bn,dj⟩:=Ic (ad.o.below a8) (z.o.below a8 z.o.lt) (df.below ar) (dh.below ar);have av:0<K:=by omega
   have bx:O (Fits p.2.2.1 K):=Hi (dg.mono hK);have bz:O (Fits p.2.2.2 K):=Hi (di.mono hK);have dk:O (Fits (-p.2.2.1) K):=Hi bx.o.neg;have dl:O (Fits (-p.2.2.2) K):=Hi bz.o.neg;have aj:k<W:=by have:=HW.o;omega
   obtain⟨RA,dm⟩:=nm (2*p.1);obtain⟨RB,dn⟩:=nm (2*p.2.1);obtain⟨RC,dp⟩:=nm (2*p.1+1);obtain⟨RD,dr⟩:=nm (2*p.2.1+1);have em:=HN.o;have ds:=dd.o.ne;obtain⟨gA,a9⟩:∃g,M[RA]?=some g:=⟨M[RA]'(by have:=U.o;omega),gE (by have:=U.o;omega)⟩;obtain⟨gB,ba⟩:∃g,M[RB]?=some g:=⟨M[RB]'(by have:=U.o;omega),gE (by have:=U.o;omega)⟩;obtain⟨gC,bc⟩:∃g,M[RC]?=some g:=⟨M[RC]'(by have:=U.o;omega),gE (by have:=U.o;omega)⟩;obtain⟨gD,bd⟩:∃g,M[RD]?=some g:=⟨M[RD]'(by have:=U.o;omega),gE (by have:=U.o;omega)⟩;have lA:=HM.o.lt a9;have lB:=HM.o.lt ba;have lC:=HM.o.lt bc;have lD:=HM.o.lt bd;rw[bl.o] at lA lB lC lD;have dt:g0<gx:=by
    have h1:=I.base.size;have h2:=z.o.lt;omega
   have fe:=HM.o.ne RA gA a9;have ff:=HM.o.ne RB gB ba;have fg:=HM.o.ne RC gC bc;have fh:=HM.o.ne RD gD bd;have fi:gA≠gB:=fun h=>by have:=HM.o.nd RA RB gA a9 (by rw[h];exact ba);omega
   have fj:gC≠gD:=fun h=>by have:=HM.o.nd RC RD gC bc (by rw[h];exact bd);omega
   have iA:((RA:Int)<(N:Int)):=by omega
   have iB:((RB:Int)<(N:Int)):=by omega
   have iC:((RC:Int)<(N:Int)):=by omega
   have iD:((RD:Int)<(N:Int)):=by omega
   have fk:((k:Int)<(W:Int)):=by omega
   have eA:2*(p.1:Int)=(RA:Int):=by omega
   have eB:2*(p.2.1:Int)=(RB:Int):=by omega
   have eC:2*(p.1:Int)+1=(RC:Int):=by omega
   have eD:2*(p.2.1:Int)+1=(RD:Int):=by omega
   obtain⟨du,dv,dw,dx⟩:=Ic (fun u=>Qcn p.1 u (by omega)) (fun u=>Qcn p.2.1 u (by omega)) (fun u=>Qco p.1 u (by omega)) (fun u=>Qco p.2.1 u (by omega));simp only[eA] at du;simp only[eB] at dv;simp only[eC] at dw;simp only[eD] at dx;have m1:gA≠g0:=by omega
   have m2:gB≠g0:=by omega
   have m3:gA≠gx:=by omega
   have m4:gB≠gx:=by omega
   have m5:gC≠g0:=by omega
   have m6:gD≠g0:=by omega
   have m7:gC≠gx+1:=by omega
   have m8:gD≠gx+1:=by omega
   have m9:gA≠gx+1:=by omega
   have en:gB≠gx+1:=by omega
   obtain⟨aw,be,bf,bp,dy,HY,eo⟩:=If a9 ba bc bd (⟨dm,dn,dp,dr⟩:2*p.1=RA/\2*p.2.1=RB/\2*p.1+1=RC/\2*p.2.1+1=RD) hY bm;clear I df dh dg di ar a8 a9 ba bc bd lA lB lC lD dm dn dp dr eA eB eC eD hY bm dt em ds;clear x0 x1 x2 d0 d1 d2 d3 d4 d5;go_wp2_with fail;rw[HY.o,eo.o];have s0:=D.o.cell 0;have s1:=D.o.cell 1;have s2:=cb.o.cell aw.o;have s3:=cb.o.cell be.o;have s4:=A.o.cell 0;have s5:=A.o.cell 1;have s6:=A.o.cell 2;simp at s0 s1 s4 s5 s6;have b0:=Hi (Qcs bn.o)
   go_region_held3 (fun v=>v.cell? ⟨g0,0,none⟩=some (.int .i64 (p.1:Nat))/\v.cell? ⟨g0,1,none⟩=some (.int .i64 (p.2.1:Nat))/\v.cell? ⟨G,RA,none⟩=some (.slice (some ⟨gA,0,none⟩) W W)/\v.cell? ⟨G,RB,none⟩=some (.slice (some ⟨gB,0,none⟩) W W)/\v.cell? ⟨gx,0,none⟩=some (.bool nx)/\v.cell? ⟨gx,1,none⟩=some (.slice ax lx cx)/\v.cell? ⟨gx,2,none⟩=some (.slice mx ox px)) ((first|(simp [*];done)|go_keep)) (first
    |(
     go_at_call 108;apply cM;(first|apply du.o|apply dv.o)
     rintro e vz ⟨rfl,rfl⟩)
    |(
     go_at_call 117;apply cM;(first|exact b0.o|exact Qcs (bn.o.below bR.drew));rintro e v6 ⟨⟨vn,rfl,E⟩,ae⟩;obtain⟨cc,cd,ce,cf,cg,ch,ci,rfl,E⟩:=E;(first
       |have J:O (Bl Y v6):=Hi ae
       |have J:O (Bl Y v6):=Hi (bR.drew.trans ae))
     have dz:O (FracV v6 (.agg #[.bool cc,.slice cd ce cf,.slice cg ch ci]) (-p.2.2.1)):=Hi ⟨cc,cd,ce,cf,cg,ch,ci,rfl,E⟩;clear E ae s0 s1 s2 s3 s4 s5 s6;have ak:=Hi (cb.o.below J.o);have s0:=(D.o.below J.o D.o.lt).cell 0;have s1:=(D.o.below J.o D.o.lt).cell 1;have s2:=ak.o.cell aw.o;have s3:=ak.o.cell be.o;have s4:=(A.o.below J.o A.o.lt).cell 0;have s5:=(A.o.below J.o A.o.lt).cell 1;have s6:=(A.o.below J.o A.o.lt).cell 2;simp at s0 s1 s4 s5 s6;obtain⟨e0,e1,e2,f0,f1,f2,f3,f4,f5⟩:=ak.o.at aw.o aj;obtain⟨e3,e4,e5,k0,k1,k2,k3,k4,k5⟩:=ak.o.at be.o aj
     skip)
    |fail)
   obtain⟨Z,hZ⟩:=nm (set3 (set3 v6 gA k (.bool nx) (.slice ax lx cx) (.slice mx ox px)) gB k (.bool cc) (.slice cd ce cf) (.slice cg ch ci));have bg:=ak.o.put aw.o aj (bn.o.below J.o) bx.o av;have bq:O (BM w Z F G W K M _):=Hi (by
    rw[<-hZ]
    exact bg.put be.o aj (ak.o.keepV aw.o dz.o) dk.o av)
   have au:O (FracV Z (.agg #[.bool ny,.slice ay ly cy,.slice my oy py]) p.2.2.2):=Hi (by
    rw[<-hZ]
    exact bg.keepV be.o (ak.o.keepV aw.o (dj.o.below J.o)))
   have aa:O (SB Z g0 84 #[.int .i64 (p.1:Nat),.int .i64 (p.2.1:Nat),.string b.c,.string b.e,.string b.l,.string b.m]):=Hi (by
    rw[<-hZ]
    exact keep3 (keep3 (D.o.below J.o D.o.lt) (fun h=>m1 h.symm)) (fun h=>m2 h.symm))
   have B:O (SB Z (gx+1) 107 #[.bool ny,.slice ay ly cy,.slice my oy py]):=Hi (by
    rw[<-hZ]
    exact keep3 (keep3 (a7.o.below J.o a7.o.lt) (fun h=>m9 h.symm)) (fun h=>en h.symm))
   have cj:=hZ;unfold set3 at cj;rw[cj];clear cj hZ bg s0 s1 s2 s3 s4 s5 s6 f0 f1 f2 f3 f4 f5 k0 k1 k2 k3 k4 k5 ak dz J dj D a7 A bn b0;have s0:=aa.o.cell 0;have s1:=aa.o.cell 1;have s2:=bq.o.cell bf.o;have s3:=bq.o.cell bp.o;have s4:=B.o.cell 0;have s5:=B.o.cell 1;have s6:=B.o.cell 2;simp at s0 s1 s4 s5 s6;have b1:=Hi (Qcs au.o);go_wp2_with fail;go_region_held3 (fun v=>v.cell? ⟨g0,0,none⟩=some (.int .i64 (p.1:Nat))/\v.cell? ⟨g0,1,none⟩=some (.int .i64 (p.2.1:Nat))/\v.cell? ⟨G,RC,none⟩=some (.slice (some ⟨gC,0,none⟩) W W)/\v.cell? ⟨G,RD,none⟩=some (.slice (some ⟨gD,0,none⟩) W W)/\v.cell? ⟨gx+1,0,none⟩=some (.bool ny)/\v.cell? ⟨gx+1,1,none⟩=some (.slice ay ly cy)/\v.cell? ⟨gx+1,2,none⟩=some (.slice my oy py)) ((first|(simp [*];done)|go_keep)) (first
    |(
     go_at_call 109;apply cM;(first|apply dw.o|apply dx.o)
     rintro e vz ⟨rfl,rfl⟩)
    |(
     go_at_call 117;apply cM;(first|exact b1.o|exact Qcs (au.o.below bR.drew));rintro e v7 ⟨⟨vn,rfl,E⟩,ae⟩;obtain⟨ck,cl,cm,cn,cp,cq,cr,rfl,E⟩:=E;(first
       |have ag:O (Bl Z v7):=Hi ae
       |have ag:O (Bl Z v7):=Hi (bR.drew.trans ae))
     have ea:O (FracV v7 (.agg #[.bool ck,.slice cl cm cn,.slice cp cq cr]) (-p.2.2.2)):=Hi ⟨ck,cl,cm,cn,cp,cq,cr,rfl,E⟩;clear E ae s0 s1 s2 s3 s4 s5 s6;have am:=Hi (bq.o.below ag.o);have s0:=(aa.o.below ag.o aa.o.lt).cell 0;have s1:=(aa.o.below ag.o aa.o.lt).cell 1;have s2:=am.o.cell bf.o;have s3:=am.o.cell bp.o;have s4:=(B.o.below ag.o B.o.lt).cell 0;have s5:=(B.o.below ag.o B.o.lt).cell 1;have s6:=(B.o.below ag.o B.o.lt).cell 2;simp at s0 s1 s4 s5 s6;obtain⟨e0,e1,e2,f0,f1,f2,f3,f4,f5⟩:=am.o.at bf.o aj;obtain⟨e3,e4,e5,k0,k1,k2,k3,k4,k5⟩:=am.o.at bp.o aj
     skip)
    |fail)
   obtain⟨Q,hQ⟩:∃Z,set3 (set3 v7 gC k (.bool ny) (.slice ay ly cy) (.slice my oy py)) gD k (.bool ck) (.slice cl cm cn) (.slice cp cq cr)=Z:=⟨_,rfl⟩;have b2:=am.o.put bf.o aj (au.o.below ag.o) bz.o av;have eb:O (BM w Q F G W K M _):=Hi (by
    rw[<-hQ]
    exact b2.put bp.o aj (am.o.keepV bf.o ea.o) dl.o av)
   have an:=hQ;unfold set3 at an;rw[an];have cs:O (BM w Q F G W K M (balM (vb.take (k+1)) y.length [])):=Hi (eb.o.congr (fun r c=>by
    have h:=Ql5 (nb:=y.length) ek.o dd.o.ne r c;obtain⟨h1,h2,h3,h4⟩:=dy.o;rw[h3,h4,h1,h2] at h
    exact h))
   clear an hQ b2 s0 s1 s2 s3 s4 s5 s6 f0 f1 f2 f3 f4 f5 k0 k1 k2 k3 k4 k5 am ea ag au aa B b1 eb bq;go_wp2;go_roundw
   case rel=>exact⟨k+1,by omega,by go_num,cs.o⟩
   case measure=>simp[intOf];omega
  .
   obtain rfl:k=y.length:=by omega
   have ec:O (BM w wr F G W K M (balM vb y.length (vh.take 0))):=Hi (by
    have h:=HM.o;rw[<-az.o,List.take_length,az.o] at h
    exact h)
   have d:=Hi ec.o.box;rw[al.o,<-a0.o] at d;have x0:wr.cell? ⟨P,0,none⟩=some (.slice a1 L.length c1):=by
    have h:=d.o.cell 0
    simpa using h
   have x1:wr.cell? ⟨P,1,none⟩=some (.slice (a2) y.length c2):=by
    have h:=d.o.cell 1
    simpa using h
   have x2:wr.cell? ⟨P,2,none⟩=some (.slice (a3) H.length c3):=by
    have h:=d.o.cell 2
    simpa using h
   clear HM dc d;go_wp2_with fail;go_loopw [71] (fun iv wr=>∃k:Nat,k<=H.length/\iv=.int .i64 k/\BM w wr F G W K M (balM vb y.length (vh.take k))) (fun iv _=>H.length - (intOf iv).toNat)
   case atStart=>exact⟨0,by omega,rfl,ec.o⟩
   case round=>
    obtain⟨k,hk,rfl,a5⟩:=hrel;have HM:=Hi a5;clear a5 x0 x1 x2;by_cases bj:k<H.length
    .
     obtain⟨h,ct⟩:∃h,H[k]?=some h:=⟨H[k],gE bj⟩;obtain⟨R,cu⟩:∃R,vh[k]?=some R:=⟨vh[k]'(by have:=b3.o;omega),gE (by have:=b3.o;omega)⟩;obtain⟨j,ed,ep,cv⟩:=(ei.o k h R ct cu).ex;obtain⟨fl,fm,rfl,fn,d0,d1,d2⟩:=(HF.o.h.below HM.o.base).hold ct;rw[ed] at d0;obtain⟨X,ab⟩:=nm (wr.alloc (.cells #[.int .i64 (j:Nat),.int .i64 h.w,.string h.q] 86));obtain⟨g0,ai⟩:=nm wr.heap.size;have a6:Bl wr X:=by rw[<-ab];exact(Below.refl _ _).alloc lZ _
     have z:=Uf ab ai;have ad:=Hi (HM.o.below a6);have eq:R<N:=by
      have:=HN.o
      split at cv<;>omega
     obtain⟨gR,bh⟩:∃g,M[R]?=some g:=⟨M[R]'(by have:=U.o;omega),gE (by have:=U.o;omega)⟩;have lR:=HM.o.lt bh;rw[ai] at lR;have m1:gR≠g0:=by omega
     have m2:=HM.o.ne R gR bh;have m3:gR≠P:=by
      have:=HM.o.los R gR bh;have:=al.o;omega
     obtain⟨bi,er⟩:=Ia bh cu;have eR:(if h.w=1 then 2*(j:Int) else 2*(j:Int)+1)=(R:Int):=by
      rw[cv]
      split<;>simp
     have ee:=Hi (fun u=>Qew j h.w h.q u (by omega));simp only[eR] at ee;have es:=Hi (fun u (hu:Bl X u)=>Qg1 (q:=1) (s:=⟨#[49]⟩) ((HG.o.below ad.o.base).below hu) one_q (by decide));obtain⟨C,hC⟩:=nm (y.length+k);have ef:C<W:=by have:=HW.o;omega
     have wC:IntKind.i64.wrap ((y.length:Int)+(k:Int))=(C:Int):=by rw[Qam _ (by omega) (by omega)];omega
     have q1:((k:Int)<(H.length:Int)):=by omega
     have iR:((R:Int)<(N:Int)):=by omega
     have iC:((C:Int)<(W:Int)):=by omega
     have av:0<K:=by omega
     obtain⟨et,ca,bl⟩:=Ib hC ab ai;clear ct cu ed ep cv ab ai a6 bh lR eR hC eq;go_wp2_with fail;rw[ca.o,bl.o];have d:=Hi ad.o.box;rw[al.o,<-a0.o] at d;have s0:=z.o.cell 0;have s1:=z.o.cell 1;have s2:=z.o.cell 2;have s3:=ad.o.cell bi.o;have s4:=d.o.cell 1;simp at s0 s1 s2 s4;have S:O (Bl X X):=Hi bR;go_region_held3 (fun v=>v.cell? ⟨g0,0,none⟩=some (.int .i64 (j:Nat))/\v.cell? ⟨g0,1,none⟩=some (.int .i64 h.w)/\v.cell? ⟨g0,2,none⟩=some (.string h.q)/\v.cell? ⟨G,R,none⟩=some (.slice (some ⟨gR,0,none⟩) W W)/\v.cell? ⟨P,1,none⟩=some (.slice a2 y.length c2)) ((first|(simp [*];done)|go_keep)) (first
      |(
       go_at_call 56;apply cM;apply ee.o;rintro e v1 ⟨rfl,T⟩;have f:O (Bl X v1):=Hi ((by first|exact S.o|exact S.o.drew:Bl X _).trans (T.mono (by first|exact S.o.size|exact S.o.drew.size)));clear T S s0 s1 s2 s3 s4;have s0:=(z.o.below f.o z.o.lt).cell 0;have s1:=(z.o.below f.o z.o.lt).cell 1;have s2:=(z.o.below f.o z.o.lt).cell 2;have s3:=(ad.o.below f.o).cell bi.o;have s4:=(d.o.below f.o d.o.lt).cell 1;simp at s0 s1 s2 s4
       skip)
      |(
       go_at_call 63;apply cM;apply es.o;(first|exact f.o|exact f.o.drew);rintro e v2 ⟨⟨vn,rfl,E⟩,ae⟩;obtain⟨nq,aq,lq,dq,mq,oq,pq,rfl,E⟩:=E;have x:O (Bl X v2):=Hi ((by first|exact f.o|exact f.o.drew:Bl X _).trans (ae.mono (by first|exact f.o.size|exact f.o.drew.size)));have eg:O (FracV v2 (.agg #[.bool nq,.slice aq lq dq,.slice mq oq pq]) 1):=Hi ⟨nq,aq,lq,dq,mq,oq,pq,rfl,E⟩;clear E ae s0 s1 s2 s3 s4;have br:=Hi (ad.o.below x.o);have s0:=(z.o.below x.o z.o.lt).cell 0;have s1:=(z.o.below x.o z.o.lt).cell 1;have s2:=(z.o.below x.o z.o.lt).cell 2;have s3:=br.o.cell bi.o;have s4:=(d.o.below x.o d.o.lt).cell 1;simp at s0 s1 s2 s4;obtain⟨e0,e1,e2,f0,f1,f2,f3,f4,f5⟩:=br.o.at bi.o ef
       skip)
      |fail)
     obtain⟨Q,hQ⟩:=nm (set3 v2 gR C (.bool nq) (.slice aq lq dq) (.slice mq oq pq));have cs:O (BM w Q F G W K M (balM vb y.length (vh.take (k+1)))):=Hi (by
      rw[<-hQ];refine(br.o.put bi.o ef eg.o (Fits.one.mono (by omega)) av).congr (fun r c=>?_);have h:=Ql6 az.o er.o r c;rw[et.o] at h
      exact h)
     have an:=hQ;unfold set3 at an;rw[an];clear an hQ s0 s1 s2 s3 s4 f0 f1 f2 f3 f4 f5 br eg x d;go_wp2;go_roundw
     case rel=>exact⟨k+1,by omega,by go_num,cs.o⟩
     case measure=>simp[intOf];omega
    .
     obtain rfl:k=H.length:=by omega
     have eu:O (BM w wr F G W K M (balM vb y.length vh)):=Hi (by
      have h:=HM.o;rw[<-b3.o,List.take_length] at h
      exact h)
     clear HM;go_wp2;go_ret;exact⟨N,W,G,M,HN.o.symm,HW.o.symm,rfl,U.o,by rw[a0.o];exact eu.o⟩
end Go.Proofs.YtkkadnoecklepaaGreatDoor
