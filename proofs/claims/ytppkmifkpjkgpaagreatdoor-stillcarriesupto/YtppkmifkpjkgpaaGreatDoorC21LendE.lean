import Derived.Test.YtppkmifkpjkgpaaGreatDoorC20Elems
namespace Go.Proofs.YtppkmifkpjkgpaaGreatDoor
open Go.RowKit
open Go.Proofs.Tryz
set_option linter.unusedSimpArgs false
set_option linter.unusedVariables false
set_option maxHeartbeats 8000000
set_option maxRecDepth 1000000
theorem Qi5:(prog.info? 56).map (fun i=>(i.zero,i.size,i.bytes))=some (some (.agg #[.string ⟨#[]⟩,.string ⟨#[]⟩]),2,32):=by kernel_rfl
theorem Qpg(n:Nat)(g:n<=1048576):∃a:Vw,a.size=(n+3)*2/\∀w,(Instr.makeSlice 22 (.int .i64 0) (.int .i64 (IntKind.i64.wrap ((n:Int)+3)))).run prog w=.ok (.slice (some ⟨w.heap.size,0,none⟩) 0 (n+3)) (w.alloc (.cells a 56)):=by
 obtain⟨i,b,h⟩:=Option.map_eq_some_iff.1 Qi5;simp only[Prod.mk.injEq] at h;obtain⟨c,d,f⟩:=h;refine⟨madeCells (Value.cells (.agg #[.string ⟨#[]⟩,.string ⟨#[]⟩])) ((n+3)*2),size_madeCells _ _,fun w=>?_⟩;have:=run_make w 22 56 i _ underlying22 b c .i64 .i64 0 ((n:Int)+3) (by omega) (by omega) (by rw[f];omega) (by omega);have e:((n:Int)+3).toNat=n+3:=by omega
 rw[e,d] at this;rw[show IntKind.i64.wrap ((n:Int)+3)=(n:Int)+3 by rw[IntKind.wrap_i64];omega];exact this
theorem Qph(a:Vx)(cap:Nat)(t:List S2)(d:Vs)(f:Vs)(w:Vz)(hf:ARow S2.cells w a cap t)(hn:t.length<=1048576):
 Calls prog 30 #[.slice a t.length cap,.agg #[.string d,.string f]] w fun e w'=>∃g,w.heap.size<=g/\e=.returned (.slice (some ⟨g,0,none⟩) t.length (t.length+3))/\ARow S2.cells w' (some ⟨g,0,none⟩) (t.length+3) (t++ [⟨d,f⟩,⟨d,f⟩,⟨d,f⟩])/\Below w.heap.size w w':=by
 have HC:=Hi hf.row;obtain⟨F,L,aj⟩:=Qpg t.length hn;have ab:=Hi L;obtain⟨i,hi,h⟩:=Option.map_eq_some_iff.1 Qi5;simp only[Prod.mk.injEq] at h;obtain⟨hz,hs,hb⟩:=h;obtain⟨M,N,B,C⟩:=Ic hi hs (Qbb (c:=S2.cells) (sz:=2) (fun _=>rfl) t) (Qdv S2.one t);obtain⟨xs,H⟩:=nm (t.flatMap S2.cells);rw[H] at HC B C;have ad:=Hi H;clear hz hb hi hs L hf H;go_enter func30,ntmps30;go_wp2_with fail;obtain⟨W,hW⟩:=nm (w.alloc (.cells #[.string d,.string f] 56));have x:=Ua hW;have D:SB W w.heap.size 56 #[.string d,.string f]:=by rw[<-hW];exact SB.new w _ _
 rw[hW];have ak:=D.lt;obtain⟨P,c1,-⟩:=zc D;have r:=Hi D;clear D hW;obtain⟨y,z⟩:∃y:Vv,y= [.string d,.string f,.string d,.string f,.string d,.string f]:=⟨_,rfl⟩;have ae:=Hi z;have I:∀(X:Vz) (j:Nat) (u:Value),y[j]?=some u->(X.alloc (.cells #[.string d,.string f,.string d,.string f,.string d,.string f] 56)).cell? ⟨X.heap.size,j,none⟩=some u:=by
  intro X j u G;rw[(SB.new X 56 #[.string d,.string f,.string d,.string f,.string d,.string f]).cell j];rw[z] at G
  simpa using G
 have Q:=Hi I;have R:O (y.length=3*2):=Hi (by rw[z];rfl);have S:O (∀u∈ y,u.oneCell'=true):=Hi (by rw[z];simp[Value.oneCell']);have J:=Hi (HC.o.below x.o);have A:∀X:Vz,W.heap.size<=X.heap.size->(X.alloc (.cells F 56)).ownsRow W.heap.size 56 2 (.slice (some ⟨X.heap.size,0,none⟩) 0 (t.length+3)) 0 []:=fun X hX=>World.ownsRow_made X F (t.length+3) hX (by unfold maxLen;omega) ab.o
 have T:=Hi A;have K:O (Below W.heap.size W (W.alloc (.cells F 56)).drew):=Hi (bR.alloc lZ _).drew;have U:O (Below W.heap.size W ((W.alloc (.cells #[.string d,.string f,.string d,.string f,.string d,.string f] 56)).alloc (.cells F 56)).drew):=Hi (((bR.alloc lZ _).alloc (by simp) _).drew);have af:O (((W.alloc (.cells #[.string d,.string f,.string d,.string f,.string d,.string f] 56)).alloc (.cells F 56)).drew.ownsRow W.heap.size 56 2 (.slice (some ⟨W.heap.size+1,0,none⟩) 0 (t.length+3)) 0 []):=Hi (by
  have:=A (W.alloc (.cells #[.string d,.string f,.string d,.string f,.string d,.string f] 56)) (by simp);simp only[World.size_alloc] at this
  exact this)
 have ag:=Hi (J.o.below U.o);have ah:O (∀(j:Nat) (u:Value),y[j]?=some u->((W.alloc (.cells #[.string d,.string f,.string d,.string f,.string d,.string f] 56)).alloc (.cells F 56)).drew.cell? ⟨W.heap.size,j,none⟩=some u):=Hi (fun j u G=>by
  have h1:=I W j u G;have h2:Below (W.alloc (.cells #[.string d,.string f,.string d,.string f,.string d,.string f] 56)).heap.size _ _:=(Below.refl _ (W.alloc (.cells #[.string d,.string f,.string d,.string f,.string d,.string f] 56))).alloc lZ (.cells F 56)
  exact ce h2.drew (by simp) h1)
 clear z I A;go_region_held3 (fun w'=>w'.cell? ⟨w.heap.size,0,none⟩=some (.string d)/\w'.cell? ⟨w.heap.size,1,none⟩=some (.string f)) ((first|(simp [*];done)|go_keep)) (first
  |(
   refine Qa3 underlying22 M.o N.o (by decide) rfl (.tmp 9) (.tmp 10) rfl W.heap.size (xs:=xs) rfl rfl (T.o W lZ) (J.o.below K.o) B.o C.o (by omega) ?_;intro w1 k b;have E:=Hi k;have V:W.heap.size<w1.heap.size:=by have:=b.size;simp at this;omega
   have s:O (Below W.heap.size W w1):=Hi (Below.ofGrown K.o b K.o.size lZ);obtain⟨P,c1,-⟩:=zc (r.o.below s.o r.o.lt)
   clear k b)
  |(
   refine Qbo underlying22 M.o N.o rfl (.tmp 11) (.tmp 15) rfl W.heap.size (xs:=xs) (news:=y) (n:=t.length) (m:=3) rfl rfl (E.o.alloc _) R.o (Q.o w1) S.o lZ ?_;intro w2 l q;have Y:=Hi l;have ai:w1.heap.size<w2.heap.size:=by have:=q.size;simp at this;omega
   have v:Below W.heap.size W w2:=Below.ofGrown (s.o.alloc s.o.size _) q (by have:=s.o.size;simp;omega) lZ;obtain⟨P,c1,-⟩:=zc (r.o.below v r.o.lt);have Z:O (Below w.heap.size w w2):=Hi (x.o.trans (v.mono x.o.size))
   clear l q v)
  |(
   refine Qa3 underlying22 M.o N.o (by decide) rfl (.tmp 9) (.tmp 10) rfl W.heap.size (xs:=xs) rfl rfl ((T.o W lZ).alloc (.cells #[.string d,.string f,.string d,.string f,.string d,.string f] 56)) (J.o.below (K.o.alloc K.o.size _)) B.o C.o (by omega) ?_;intro w1 k b;have E:=Hi k;have V:W.heap.size<w1.heap.size:=by have:=b.size;simp at this;omega
   have s:O (Below W.heap.size W w1):=Hi (Below.ofGrown (K.o.alloc K.o.size _) b (by simp<;>omega) lZ);obtain⟨P,c1,-⟩:=zc (r.o.below s.o r.o.lt);have aa:O (∀(j:Nat) (u:Value),y[j]?=some u->w1.cell? ⟨W.heap.size+1,j,none⟩=some u):=Hi (fun j u G=>(Qbp b (p:=⟨W.heap.size+1,j,none⟩) (by simp<;>omega) (by simp<;>omega)).trans (by simpa using Q.o (W.alloc (.cells F 56)) j u G))
   clear k b)
  |(
   refine Qa3 underlying22 M.o N.o (by decide) rfl (.tmp 9) (.tmp 10) rfl W.heap.size (xs:=xs) (g:=W.heap.size+1) rfl rfl (af.o) (ag.o) B.o C.o (by omega) ?_;intro w1 k b;have E:=Hi k;have V:W.heap.size<w1.heap.size:=by have:=b.size;simp at this;omega
   have s:O (Below W.heap.size W w1):=Hi (Below.ofGrown U.o b (by simp<;>omega) (by omega));obtain⟨P,c1,-⟩:=zc (r.o.below s.o r.o.lt);have aa:O (∀(j:Nat) (u:Value),y[j]?=some u->w1.cell? ⟨W.heap.size,j,none⟩=some u):=Hi (fun j u G=>(Qbp b (p:=⟨W.heap.size,j,none⟩) (by simp<;>omega) (by simp<;>omega)).trans (ah.o j u G))
   clear k b)
  |(
   refine Qbo underlying22 M.o N.o rfl (.tmp 11) (.tmp 15) rfl W.heap.size (xs:=xs) (news:=y) (n:=t.length) (m:=3) rfl rfl E.o R.o aa.o S.o lZ ?_;intro w2 l q;have Y:=Hi l;have ai:w1.heap.size<=w2.heap.size:=q.size;have v:Below W.heap.size W w2:=Below.ofGrown s.o q s.o.size (by omega);obtain⟨P,c1,-⟩:=zc (r.o.below v r.o.lt);have Z:O (Below w.heap.size w w2):=Hi (x.o.trans (v.mono x.o.size))
   clear l q v)
  )
 all_goals
  go_wp2;go_ret;exact⟨_,by omega,rfl,⟨by simp,by rw[List.flatMap_append,ad.o,show ([⟨d,f⟩,⟨d,f⟩,⟨d,f⟩]:List S2).flatMap S2.cells=y from ae.o.symm];exact Qd1 Y.o⟩,Z.o⟩
theorem Qi6:(prog.info? 80).map (fun i=>(i.zero,i.size,i.bytes))=some (some (.agg #[.int .i64 0,.int .i64 0,.string ⟨#[]⟩,.string ⟨#[]⟩,.string ⟨#[]⟩,.string ⟨#[]⟩]),6,80):=by kernel_rfl
theorem Qpi(n:Nat)(g:n<=1048576):∃a:Vw,a.size=(n+3)*6/\∀w,(Instr.makeSlice 23 (.int .i64 0) (.int .i64 (IntKind.i64.wrap ((n:Int)+3)))).run prog w=.ok (.slice (some ⟨w.heap.size,0,none⟩) 0 (n+3)) (w.alloc (.cells a 80)):=by
 obtain⟨i,b,h⟩:=Option.map_eq_some_iff.1 Qi6;simp only[Prod.mk.injEq] at h;obtain⟨c,d,f⟩:=h;refine⟨madeCells (Value.cells (.agg #[.int .i64 0,.int .i64 0,.string ⟨#[]⟩,.string ⟨#[]⟩,.string ⟨#[]⟩,.string ⟨#[]⟩])) ((n+3)*6),size_madeCells _ _,fun w=>?_⟩;have:=run_make w 23 80 i _ underlying23 b c .i64 .i64 0 ((n:Int)+3) (by omega) (by omega) (by rw[f];omega) (by omega);have e:((n:Int)+3).toNat=n+3:=by omega
 rw[e,d] at this;rw[show IntKind.i64.wrap ((n:Int)+3)=(n:Int)+3 by rw[IntKind.wrap_i64];omega];exact this
theorem Qpj(a:Vx)(cap:Nat)(z:List B6)(d:Int)(f:Int)(k:Vs)(l:Vs)(q:Vs)(r:Vs)(w:Vz)(hf:ARow B6.cells w a cap z)(hn:z.length<=1048576):
 Calls prog 31 #[.slice a z.length cap,.agg #[.int .i64 d,.int .i64 f,.string k,.string l,.string q,.string r]] w fun e w'=>∃g,w.heap.size<=g/\e=.returned (.slice (some ⟨g,0,none⟩) z.length (z.length+3))/\ARow B6.cells w' (some ⟨g,0,none⟩) (z.length+3) (z++ [⟨d,f,k,l,q,r⟩,⟨d,f,k,l,q,r⟩,⟨d,f,k,l,q,r⟩])/\Below w.heap.size w w':=by
 have HC:=Hi hf.row;obtain⟨J,Q,an⟩:=Qpi z.length hn;have ag:=Hi Q;obtain⟨i,hi,h⟩:=Option.map_eq_some_iff.1 Qi6;simp only[Prod.mk.injEq] at h;obtain⟨hz,hs,hb⟩:=h;obtain⟨R,S,F,G⟩:=Ic hi hs (Qbb (c:=B6.cells) (sz:=6) (fun _=>rfl) z) (Qdv B6.one z);obtain⟨xs,L⟩:=nm (z.flatMap B6.cells);rw[L] at HC F G;have ah:=Hi L;clear hz hb hi hs Q hf L;go_enter func31,ntmps31;go_wp2_with fail;obtain⟨W,hW⟩:=nm (w.alloc (.cells #[.int .i64 d,.int .i64 f,.string k,.string l,.string q,.string r] 80));have B:=Ua hW;have H:SB W w.heap.size 80 #[.int .i64 d,.int .i64 f,.string k,.string l,.string q,.string r]:=by rw[<-hW];exact SB.new w _ _
 rw[hW];have ao:=H.lt;obtain⟨T,c1,c2,c3,c4,c5,-⟩:=zc H;have x:=Hi H;clear H hW;obtain⟨C,D⟩:∃C:Vv,C= [.int .i64 d,.int .i64 f,.string k,.string l,.string q,.string r,.int .i64 d,.int .i64 f,.string k,.string l,.string q,.string r,.int .i64 d,.int .i64 f,.string k,.string l,.string q,.string r]:=⟨_,rfl⟩;have ai:=Hi D
 have M:∀(X:Vz) (j:Nat) (u:Value),C[j]?=some u->(X.alloc (.cells #[.int .i64 d,.int .i64 f,.string k,.string l,.string q,.string r,.int .i64 d,.int .i64 f,.string k,.string l,.string q,.string r,.int .i64 d,.int .i64 f,.string k,.string l,.string q,.string r] 80)).cell? ⟨X.heap.size,j,none⟩=some u:=by
  intro X j u K;rw[(SB.new X 80 #[.int .i64 d,.int .i64 f,.string k,.string l,.string q,.string r,.int .i64 d,.int .i64 f,.string k,.string l,.string q,.string r,.int .i64 d,.int .i64 f,.string k,.string l,.string q,.string r]).cell j];rw[D] at K
  simpa using K
 have U:=Hi M;have V:O (C.length=3*6):=Hi (by rw[D];rfl);have Y:O (∀u∈ C,u.oneCell'=true):=Hi (by rw[D];simp[Value.oneCell']);have N:=Hi (HC.o.below B.o);have E:∀X:Vz,W.heap.size<=X.heap.size->(X.alloc (.cells J 80)).ownsRow W.heap.size 80 6 (.slice (some ⟨X.heap.size,0,none⟩) 0 (z.length+3)) 0 []:=fun X hX=>World.ownsRow_made X J (z.length+3) hX (by unfold maxLen;omega) ag.o
 have Z:=Hi E;have P:O (Below W.heap.size W (W.alloc (.cells J 80)).drew):=Hi (bR.alloc lZ _).drew;have aa:O (Below W.heap.size W ((W.alloc (.cells #[.int .i64 d,.int .i64 f,.string k,.string l,.string q,.string r,.int .i64 d,.int .i64 f,.string k,.string l,.string q,.string r,.int .i64 d,.int .i64 f,.string k,.string l,.string q,.string r] 80)).alloc (.cells J 80)).drew):=Hi (((bR.alloc lZ _).alloc (by simp) _).drew);have aj:O (((W.alloc (.cells #[.int .i64 d,.int .i64 f,.string k,.string l,.string q,.string r,.int .i64 d,.int .i64 f,.string k,.string l,.string q,.string r,.int .i64 d,.int .i64 f,.string k,.string l,.string q,.string r] 80)).alloc (.cells J 80)).drew.ownsRow W.heap.size 80 6 (.slice (some ⟨W.heap.size+1,0,none⟩) 0 (z.length+3)) 0 []):=Hi (by
  have:=E (W.alloc (.cells #[.int .i64 d,.int .i64 f,.string k,.string l,.string q,.string r,.int .i64 d,.int .i64 f,.string k,.string l,.string q,.string r,.int .i64 d,.int .i64 f,.string k,.string l,.string q,.string r] 80)) (by simp);simp only[World.size_alloc] at this
  exact this)
 have ak:=Hi (N.o.below aa.o);have al:O (∀(j:Nat) (u:Value),C[j]?=some u->((W.alloc (.cells #[.int .i64 d,.int .i64 f,.string k,.string l,.string q,.string r,.int .i64 d,.int .i64 f,.string k,.string l,.string q,.string r,.int .i64 d,.int .i64 f,.string k,.string l,.string q,.string r] 80)).alloc (.cells J 80)).drew.cell? ⟨W.heap.size,j,none⟩=some u):=Hi (fun j u K=>by
  have h1:=M W j u K;have h2:Below (W.alloc (.cells #[.int .i64 d,.int .i64 f,.string k,.string l,.string q,.string r,.int .i64 d,.int .i64 f,.string k,.string l,.string q,.string r,.int .i64 d,.int .i64 f,.string k,.string l,.string q,.string r] 80)).heap.size _ _:=(Below.refl _ (W.alloc (.cells #[.int .i64 d,.int .i64 f,.string k,.string l,.string q,.string r,.int .i64 d,.int .i64 f,.string k,.string l,.string q,.string r,.int .i64 d,.int .i64 f,.string k,.string l,.string q,.string r] 80))).alloc lZ (.cells J 80)
  exact ce h2.drew (by simp) h1)
 clear D M E;go_region_held3 (fun w'=>w'.cell? ⟨w.heap.size,0,none⟩=some (.int .i64 d)/\w'.cell? ⟨w.heap.size,1,none⟩=some (.int .i64 f)/\w'.cell? ⟨w.heap.size,2,none⟩=some (.string k)/\w'.cell? ⟨w.heap.size,3,none⟩=some (.string l)/\w'.cell? ⟨w.heap.size,4,none⟩=some (.string q)/\w'.cell? ⟨w.heap.size,5,none⟩=some (.string r)) ((first|(simp [*];done)|go_keep)) (first
  |(
   refine Qa3 underlying23 R.o S.o (by decide) rfl (.tmp 9) (.tmp 10) rfl W.heap.size (xs:=xs) rfl rfl (Z.o W lZ) (N.o.below P.o) F.o G.o (by omega) ?_;intro w1 s b;have I:=Hi s;have ab:W.heap.size<w1.heap.size:=by have:=b.size;simp at this;omega
   have y:O (Below W.heap.size W w1):=Hi (Below.ofGrown P.o b P.o.size lZ);obtain⟨T,c1,c2,c3,c4,c5,-⟩:=zc (x.o.below y.o x.o.lt)
   clear s b)
  |(
   refine Qbo underlying23 R.o S.o rfl (.tmp 11) (.tmp 15) rfl W.heap.size (xs:=xs) (news:=C) (n:=z.length) (m:=3) rfl rfl (I.o.alloc _) V.o (U.o w1) Y.o lZ ?_;intro w2 t v;have ad:=Hi t;have am:w1.heap.size<w2.heap.size:=by have:=v.size;simp at this;omega
   have A:Below W.heap.size W w2:=Below.ofGrown (y.o.alloc y.o.size _) v (by have:=y.o.size;simp;omega) lZ;obtain⟨T,c1,c2,c3,c4,c5,-⟩:=zc (x.o.below A x.o.lt);have ae:O (Below w.heap.size w w2):=Hi (B.o.trans (A.mono B.o.size))
   clear t v A)
  |(
   refine Qa3 underlying23 R.o S.o (by decide) rfl (.tmp 9) (.tmp 10) rfl W.heap.size (xs:=xs) rfl rfl ((Z.o W lZ).alloc (.cells #[.int .i64 d,.int .i64 f,.string k,.string l,.string q,.string r,.int .i64 d,.int .i64 f,.string k,.string l,.string q,.string r,.int .i64 d,.int .i64 f,.string k,.string l,.string q,.string r] 80)) (N.o.below (P.o.alloc P.o.size _)) F.o G.o (by omega) ?_;intro w1 s b;have I:=Hi s;have ab:W.heap.size<w1.heap.size:=by have:=b.size;simp at this;omega
   have y:O (Below W.heap.size W w1):=Hi (Below.ofGrown (P.o.alloc P.o.size _) b (by simp<;>omega) lZ);obtain⟨T,c1,c2,c3,c4,c5,-⟩:=zc (x.o.below y.o x.o.lt);have af:O (∀(j:Nat) (u:Value),C[j]?=some u->w1.cell? ⟨W.heap.size+1,j,none⟩=some u):=Hi (fun j u K=>(Qbp b (p:=⟨W.heap.size+1,j,none⟩) (by simp<;>omega) (by simp<;>omega)).trans (by simpa using U.o (W.alloc (.cells J 80)) j u K))
   clear s b)
  |(
   refine Qa3 underlying23 R.o S.o (by decide) rfl (.tmp 9) (.tmp 10) rfl W.heap.size (xs:=xs) (g:=W.heap.size+1) rfl rfl (aj.o) (ak.o) F.o G.o (by omega) ?_;intro w1 s b;have I:=Hi s;have ab:W.heap.size<w1.heap.size:=by have:=b.size;simp at this;omega
   have y:O (Below W.heap.size W w1):=Hi (Below.ofGrown aa.o b (by simp<;>omega) (by omega));obtain⟨T,c1,c2,c3,c4,c5,-⟩:=zc (x.o.below y.o x.o.lt);have af:O (∀(j:Nat) (u:Value),C[j]?=some u->w1.cell? ⟨W.heap.size,j,none⟩=some u):=Hi (fun j u K=>(Qbp b (p:=⟨W.heap.size,j,none⟩) (by simp<;>omega) (by simp<;>omega)).trans (al.o j u K))
   clear s b)
  |(
   refine Qbo underlying23 R.o S.o rfl (.tmp 11) (.tmp 15) rfl W.heap.size (xs:=xs) (news:=C) (n:=z.length) (m:=3) rfl rfl I.o V.o af.o Y.o lZ ?_;intro w2 t v;have ad:=Hi t;have am:w1.heap.size<=w2.heap.size:=v.size;have A:Below W.heap.size W w2:=Below.ofGrown y.o v y.o.size (by omega);obtain⟨T,c1,c2,c3,c4,c5,-⟩:=zc (x.o.below A x.o.lt);have ae:O (Below w.heap.size w w2):=Hi (B.o.trans (A.mono B.o.size))
   clear t v A)
  )
 all_goals
  go_wp2;go_ret;exact⟨_,by omega,rfl,⟨by simp,by rw[List.flatMap_append,ah.o,show ([⟨d,f,k,l,q,r⟩,⟨d,f,k,l,q,r⟩,⟨d,f,k,l,q,r⟩]:List B6).flatMap B6.cells=C from ai.o.symm];exact Qd1 ad.o⟩,ae.o⟩
theorem Qi7:(prog.info? 83).map (fun i=>(i.zero,i.size,i.bytes))=some (some (.agg #[.int .i64 0,.int .i64 0,.string ⟨#[]⟩]),3,32):=by kernel_rfl
theorem Qpk(n:Nat)(g:n<=1048576):∃a:Vw,a.size=(n+3)*3/\∀w,(Instr.makeSlice 24 (.int .i64 0) (.int .i64 (IntKind.i64.wrap ((n:Int)+3)))).run prog w=.ok (.slice (some ⟨w.heap.size,0,none⟩) 0 (n+3)) (w.alloc (.cells a 83)):=by
 obtain⟨i,b,h⟩:=Option.map_eq_some_iff.1 Qi7;simp only[Prod.mk.injEq] at h;obtain⟨c,d,f⟩:=h;refine⟨madeCells (Value.cells (.agg #[.int .i64 0,.int .i64 0,.string ⟨#[]⟩])) ((n+3)*3),size_madeCells _ _,fun w=>?_⟩;have:=run_make w 24 83 i _ underlying24 b c .i64 .i64 0 ((n:Int)+3) (by omega) (by omega) (by rw[f];omega) (by omega);have e:((n:Int)+3).toNat=n+3:=by omega
 rw[e,d] at this;rw[show IntKind.i64.wrap ((n:Int)+3)=(n:Int)+3 by rw[IntKind.wrap_i64];omega];exact this
theorem Qpl(a:Vx)(cap:Nat)(v:List H3)(d:Int)(f:Int)(k:Vs)(w:Vz)(hf:ARow H3.cells w a cap v)(hn:v.length<=1048576):
 Calls prog 32 #[.slice a v.length cap,.agg #[.int .i64 d,.int .i64 f,.string k]] w fun e w'=>∃g,w.heap.size<=g/\e=.returned (.slice (some ⟨g,0,none⟩) v.length (v.length+3))/\ARow H3.cells w' (some ⟨g,0,none⟩) (v.length+3) (v++ [⟨d,f,k⟩,⟨d,f,k⟩,⟨d,f,k⟩])/\Below w.heap.size w w':=by
 have HC:=Hi hf.row;obtain⟨G,M,ak⟩:=Qpk v.length hn;have ad:=Hi M;obtain⟨i,hi,h⟩:=Option.map_eq_some_iff.1 Qi7;simp only[Prod.mk.injEq] at h;obtain⟨hz,hs,hb⟩:=h;obtain⟨N,P,C,D⟩:=Ic hi hs (Qbb (c:=H3.cells) (sz:=3) (fun _=>rfl) v) (Qdv H3.one v);obtain⟨xs,I⟩:=nm (v.flatMap H3.cells);rw[I] at HC C D;have ae:=Hi I;clear hz hb hi hs M hf I;go_enter func32,ntmps32;go_wp2_with fail;obtain⟨W,hW⟩:=nm (w.alloc (.cells #[.int .i64 d,.int .i64 f,.string k] 83));have y:=Ua hW;have E:SB W w.heap.size 83 #[.int .i64 d,.int .i64 f,.string k]:=by rw[<-hW];exact SB.new w _ _
 rw[hW];have al:=E.lt;obtain⟨Q,c1,c2,-⟩:=zc E;have s:=Hi E;clear E hW;obtain⟨z,A⟩:∃z:Vv,z= [.int .i64 d,.int .i64 f,.string k,.int .i64 d,.int .i64 f,.string k,.int .i64 d,.int .i64 f,.string k]:=⟨_,rfl⟩;have af:=Hi A;have J:∀(X:Vz) (j:Nat) (u:Value),z[j]?=some u->(X.alloc (.cells #[.int .i64 d,.int .i64 f,.string k,.int .i64 d,.int .i64 f,.string k,.int .i64 d,.int .i64 f,.string k] 83)).cell? ⟨X.heap.size,j,none⟩=some u:=by
  intro X j u H;rw[(SB.new X 83 #[.int .i64 d,.int .i64 f,.string k,.int .i64 d,.int .i64 f,.string k,.int .i64 d,.int .i64 f,.string k]).cell j];rw[A] at H
  simpa using H
 have R:=Hi J;have S:O (z.length=3*3):=Hi (by rw[A];rfl);have T:O (∀u∈ z,u.oneCell'=true):=Hi (by rw[A];simp[Value.oneCell']);have K:=Hi (HC.o.below y.o);have B:∀X:Vz,W.heap.size<=X.heap.size->(X.alloc (.cells G 83)).ownsRow W.heap.size 83 3 (.slice (some ⟨X.heap.size,0,none⟩) 0 (v.length+3)) 0 []:=fun X hX=>World.ownsRow_made X G (v.length+3) hX (by unfold maxLen;omega) ad.o
 have U:=Hi B;have L:O (Below W.heap.size W (W.alloc (.cells G 83)).drew):=Hi (bR.alloc lZ _).drew;have V:O (Below W.heap.size W ((W.alloc (.cells #[.int .i64 d,.int .i64 f,.string k,.int .i64 d,.int .i64 f,.string k,.int .i64 d,.int .i64 f,.string k] 83)).alloc (.cells G 83)).drew):=Hi (((bR.alloc lZ _).alloc (by simp) _).drew);have ag:O (((W.alloc (.cells #[.int .i64 d,.int .i64 f,.string k,.int .i64 d,.int .i64 f,.string k,.int .i64 d,.int .i64 f,.string k] 83)).alloc (.cells G 83)).drew.ownsRow W.heap.size 83 3 (.slice (some ⟨W.heap.size+1,0,none⟩) 0 (v.length+3)) 0 []):=Hi (by
  have:=B (W.alloc (.cells #[.int .i64 d,.int .i64 f,.string k,.int .i64 d,.int .i64 f,.string k,.int .i64 d,.int .i64 f,.string k] 83)) (by simp);simp only[World.size_alloc] at this
  exact this)
 have ah:=Hi (K.o.below V.o);have ai:O (∀(j:Nat) (u:Value),z[j]?=some u->((W.alloc (.cells #[.int .i64 d,.int .i64 f,.string k,.int .i64 d,.int .i64 f,.string k,.int .i64 d,.int .i64 f,.string k] 83)).alloc (.cells G 83)).drew.cell? ⟨W.heap.size,j,none⟩=some u):=Hi (fun j u H=>by
  have h1:=J W j u H;have h2:Below (W.alloc (.cells #[.int .i64 d,.int .i64 f,.string k,.int .i64 d,.int .i64 f,.string k,.int .i64 d,.int .i64 f,.string k] 83)).heap.size _ _:=(Below.refl _ (W.alloc (.cells #[.int .i64 d,.int .i64 f,.string k,.int .i64 d,.int .i64 f,.string k,.int .i64 d,.int .i64 f,.string k] 83))).alloc lZ (.cells G 83)
  exact ce h2.drew (by simp) h1)
 clear A J B;go_region_held3 (fun w'=>w'.cell? ⟨w.heap.size,0,none⟩=some (.int .i64 d)/\w'.cell? ⟨w.heap.size,1,none⟩=some (.int .i64 f)/\w'.cell? ⟨w.heap.size,2,none⟩=some (.string k)) ((first|(simp [*];done)|go_keep)) (first
  |(
   refine Qa3 underlying24 N.o P.o (by decide) rfl (.tmp 9) (.tmp 10) rfl W.heap.size (xs:=xs) rfl rfl (U.o W lZ) (K.o.below L.o) C.o D.o (by omega) ?_;intro w1 l b;have F:=Hi l;have Y:W.heap.size<w1.heap.size:=by have:=b.size;simp at this;omega
   have t:O (Below W.heap.size W w1):=Hi (Below.ofGrown L.o b L.o.size lZ);obtain⟨Q,c1,c2,-⟩:=zc (s.o.below t.o s.o.lt)
   clear l b)
  |(
   refine Qbo underlying24 N.o P.o rfl (.tmp 11) (.tmp 15) rfl W.heap.size (xs:=xs) (news:=z) (n:=v.length) (m:=3) rfl rfl (F.o.alloc _) S.o (R.o w1) T.o lZ ?_;intro w2 q r;have Z:=Hi q;have aj:w1.heap.size<w2.heap.size:=by have:=r.size;simp at this;omega
   have x:Below W.heap.size W w2:=Below.ofGrown (t.o.alloc t.o.size _) r (by have:=t.o.size;simp;omega) lZ;obtain⟨Q,c1,c2,-⟩:=zc (s.o.below x s.o.lt);have aa:O (Below w.heap.size w w2):=Hi (y.o.trans (x.mono y.o.size))
   clear q r x)
  |(
   refine Qa3 underlying24 N.o P.o (by decide) rfl (.tmp 9) (.tmp 10) rfl W.heap.size (xs:=xs) rfl rfl ((U.o W lZ).alloc (.cells #[.int .i64 d,.int .i64 f,.string k,.int .i64 d,.int .i64 f,.string k,.int .i64 d,.int .i64 f,.string k] 83)) (K.o.below (L.o.alloc L.o.size _)) C.o D.o (by omega) ?_;intro w1 l b;have F:=Hi l;have Y:W.heap.size<w1.heap.size:=by have:=b.size;simp at this;omega
   have t:O (Below W.heap.size W w1):=Hi (Below.ofGrown (L.o.alloc L.o.size _) b (by simp<;>omega) lZ);obtain⟨Q,c1,c2,-⟩:=zc (s.o.below t.o s.o.lt);have ab:O (∀(j:Nat) (u:Value),z[j]?=some u->w1.cell? ⟨W.heap.size+1,j,none⟩=some u):=Hi (fun j u H=>(Qbp b (p:=⟨W.heap.size+1,j,none⟩) (by simp<;>omega) (by simp<;>omega)).trans (by simpa using R.o (W.alloc (.cells G 83)) j u H))
   clear l b)
  |(
   refine Qa3 underlying24 N.o P.o (by decide) rfl (.tmp 9) (.tmp 10) rfl W.heap.size (xs:=xs) (g:=W.heap.size+1) rfl rfl (ag.o) (ah.o) C.o D.o (by omega) ?_;intro w1 l b;have F:=Hi l;have Y:W.heap.size<w1.heap.size:=by have:=b.size;simp at this;omega
   have t:O (Below W.heap.size W w1):=Hi (Below.ofGrown V.o b (by simp<;>omega) (by omega));obtain⟨Q,c1,c2,-⟩:=zc (s.o.below t.o s.o.lt);have ab:O (∀(j:Nat) (u:Value),z[j]?=some u->w1.cell? ⟨W.heap.size,j,none⟩=some u):=Hi (fun j u H=>(Qbp b (p:=⟨W.heap.size,j,none⟩) (by simp<;>omega) (by simp<;>omega)).trans (ai.o j u H))
   clear l b)
  |(
   refine Qbo underlying24 N.o P.o rfl (.tmp 11) (.tmp 15) rfl W.heap.size (xs:=xs) (news:=z) (n:=v.length) (m:=3) rfl rfl F.o S.o ab.o T.o lZ ?_;intro w2 q r;have Z:=Hi q;have aj:w1.heap.size<=w2.heap.size:=r.size;have x:Below W.heap.size W w2:=Below.ofGrown t.o r t.o.size (by omega);obtain⟨Q,c1,c2,-⟩:=zc (s.o.below x s.o.lt);have aa:O (Below w.heap.size w w2):=Hi (y.o.trans (x.mono y.o.size))
   clear q r x)
  )
 all_goals
  go_wp2;go_ret;exact⟨_,by omega,rfl,⟨by simp,by rw[List.flatMap_append,ae.o,show ([⟨d,f,k⟩,⟨d,f,k⟩,⟨d,f,k⟩]:List H3).flatMap H3.cells=z from af.o.symm];exact Qd1 Z.o⟩,aa.o⟩
theorem Qi8:(prog.info? 62).map (fun i=>(i.zero,i.size,i.bytes))=some (some (.agg #[.int .i64 0,.string ⟨#[]⟩,.string ⟨#[]⟩]),3,40):=by kernel_rfl
theorem Qpm(n:Nat)(g:n<=1048576):∃a:Vw,a.size=(n+3)*3/\∀w,(Instr.makeSlice 59 (.int .i64 0) (.int .i64 (IntKind.i64.wrap ((n:Int)+3)))).run prog w=.ok (.slice (some ⟨w.heap.size,0,none⟩) 0 (n+3)) (w.alloc (.cells a 62)):=by
 obtain⟨i,b,h⟩:=Option.map_eq_some_iff.1 Qi8;simp only[Prod.mk.injEq] at h;obtain⟨c,d,f⟩:=h;refine⟨madeCells (Value.cells (.agg #[.int .i64 0,.string ⟨#[]⟩,.string ⟨#[]⟩])) ((n+3)*3),size_madeCells _ _,fun w=>?_⟩;have:=run_make w 59 62 i _ underlying59 b c .i64 .i64 0 ((n:Int)+3) (by omega) (by omega) (by rw[f];omega) (by omega);have e:((n:Int)+3).toNat=n+3:=by omega
 rw[e,d] at this;rw[show IntKind.i64.wrap ((n:Int)+3)=(n:Int)+3 by rw[IntKind.wrap_i64];omega];exact this
theorem Qpn(a:Vx)(cap:Nat)(v:List L3)(d:Int)(f:Vs)(k:Vs)(w:Vz)(hf:ARow L3.cells w a cap v)(hn:v.length<=1048576):
 Calls prog 20 #[.slice a v.length cap,.agg #[.int .i64 d,.string f,.string k]] w fun e w'=>∃g,w.heap.size<=g/\e=.returned (.slice (some ⟨g,0,none⟩) v.length (v.length+3))/\ARow L3.cells w' (some ⟨g,0,none⟩) (v.length+3) (v++ [⟨d,f,k⟩,⟨d,f,k⟩,⟨d,f,k⟩])/\Below w.heap.size w w':=by
 have HC:=Hi hf.row;obtain⟨G,M,ak⟩:=Qpm v.length hn;have ad:=Hi M;obtain⟨i,hi,h⟩:=Option.map_eq_some_iff.1 Qi8;simp only[Prod.mk.injEq] at h;obtain⟨hz,hs,hb⟩:=h;obtain⟨N,P,C,D⟩:=Ic hi hs (Qbb (c:=L3.cells) (sz:=3) (fun _=>rfl) v) (Qdv L3.one v);obtain⟨xs,I⟩:=nm (v.flatMap L3.cells);rw[I] at HC C D;have ae:=Hi I;clear hz hb hi hs M hf I;go_enter func20,ntmps20;go_wp2_with fail;obtain⟨W,hW⟩:=nm (w.alloc (.cells #[.int .i64 d,.string f,.string k] 62));have y:=Ua hW;have E:SB W w.heap.size 62 #[.int .i64 d,.string f,.string k]:=by rw[<-hW];exact SB.new w _ _
 rw[hW];have al:=E.lt;obtain⟨Q,c1,c2,-⟩:=zc E;have s:=Hi E;clear E hW;obtain⟨z,A⟩:∃z:Vv,z= [.int .i64 d,.string f,.string k,.int .i64 d,.string f,.string k,.int .i64 d,.string f,.string k]:=⟨_,rfl⟩;have af:=Hi A;have J:∀(X:Vz) (j:Nat) (u:Value),z[j]?=some u->(X.alloc (.cells #[.int .i64 d,.string f,.string k,.int .i64 d,.string f,.string k,.int .i64 d,.string f,.string k] 62)).cell? ⟨X.heap.size,j,none⟩=some u:=by
  intro X j u H;rw[(SB.new X 62 #[.int .i64 d,.string f,.string k,.int .i64 d,.string f,.string k,.int .i64 d,.string f,.string k]).cell j];rw[A] at H
  simpa using H
 have R:=Hi J;have S:O (z.length=3*3):=Hi (by rw[A];rfl);have T:O (∀u∈ z,u.oneCell'=true):=Hi (by rw[A];simp[Value.oneCell']);have K:=Hi (HC.o.below y.o);have B:∀X:Vz,W.heap.size<=X.heap.size->(X.alloc (.cells G 62)).ownsRow W.heap.size 62 3 (.slice (some ⟨X.heap.size,0,none⟩) 0 (v.length+3)) 0 []:=fun X hX=>World.ownsRow_made X G (v.length+3) hX (by unfold maxLen;omega) ad.o
 have U:=Hi B;have L:O (Below W.heap.size W (W.alloc (.cells G 62)).drew):=Hi (bR.alloc lZ _).drew;have V:O (Below W.heap.size W ((W.alloc (.cells #[.int .i64 d,.string f,.string k,.int .i64 d,.string f,.string k,.int .i64 d,.string f,.string k] 62)).alloc (.cells G 62)).drew):=Hi (((bR.alloc lZ _).alloc (by simp) _).drew);have ag:O (((W.alloc (.cells #[.int .i64 d,.string f,.string k,.int .i64 d,.string f,.string k,.int .i64 d,.string f,.string k] 62)).alloc (.cells G 62)).drew.ownsRow W.heap.size 62 3 (.slice (some ⟨W.heap.size+1,0,none⟩) 0 (v.length+3)) 0 []):=Hi (by
  have:=B (W.alloc (.cells #[.int .i64 d,.string f,.string k,.int .i64 d,.string f,.string k,.int .i64 d,.string f,.string k] 62)) (by simp);simp only[World.size_alloc] at this
  exact this)
 have ah:=Hi (K.o.below V.o);have ai:O (∀(j:Nat) (u:Value),z[j]?=some u->((W.alloc (.cells #[.int .i64 d,.string f,.string k,.int .i64 d,.string f,.string k,.int .i64 d,.string f,.string k] 62)).alloc (.cells G 62)).drew.cell? ⟨W.heap.size,j,none⟩=some u):=Hi (fun j u H=>by
  have h1:=J W j u H;have h2:Below (W.alloc (.cells #[.int .i64 d,.string f,.string k,.int .i64 d,.string f,.string k,.int .i64 d,.string f,.string k] 62)).heap.size _ _:=(Below.refl _ (W.alloc (.cells #[.int .i64 d,.string f,.string k,.int .i64 d,.string f,.string k,.int .i64 d,.string f,.string k] 62))).alloc lZ (.cells G 62)
  exact ce h2.drew (by simp) h1)
 clear A J B;go_region_held3 (fun w'=>w'.cell? ⟨w.heap.size,0,none⟩=some (.int .i64 d)/\w'.cell? ⟨w.heap.size,1,none⟩=some (.string f)/\w'.cell? ⟨w.heap.size,2,none⟩=some (.string k)) ((first|(simp [*];done)|go_keep)) (first
  |(
   refine Qa3 underlying59 N.o P.o (by decide) rfl (.tmp 9) (.tmp 10) rfl W.heap.size (xs:=xs) rfl rfl (U.o W lZ) (K.o.below L.o) C.o D.o (by omega) ?_;intro w1 l b;have F:=Hi l;have Y:W.heap.size<w1.heap.size:=by have:=b.size;simp at this;omega
   have t:O (Below W.heap.size W w1):=Hi (Below.ofGrown L.o b L.o.size lZ);obtain⟨Q,c1,c2,-⟩:=zc (s.o.below t.o s.o.lt)
   clear l b)
  |(
   refine Qbo underlying59 N.o P.o rfl (.tmp 11) (.tmp 15) rfl W.heap.size (xs:=xs) (news:=z) (n:=v.length) (m:=3) rfl rfl (F.o.alloc _) S.o (R.o w1) T.o lZ ?_;intro w2 q r;have Z:=Hi q;have aj:w1.heap.size<w2.heap.size:=by have:=r.size;simp at this;omega
   have x:Below W.heap.size W w2:=Below.ofGrown (t.o.alloc t.o.size _) r (by have:=t.o.size;simp;omega) lZ;obtain⟨Q,c1,c2,-⟩:=zc (s.o.below x s.o.lt);have aa:O (Below w.heap.size w w2):=Hi (y.o.trans (x.mono y.o.size))
   clear q r x)
  |(
   refine Qa3 underlying59 N.o P.o (by decide) rfl (.tmp 9) (.tmp 10) rfl W.heap.size (xs:=xs) rfl rfl ((U.o W lZ).alloc (.cells #[.int .i64 d,.string f,.string k,.int .i64 d,.string f,.string k,.int .i64 d,.string f,.string k] 62)) (K.o.below (L.o.alloc L.o.size _)) C.o D.o (by omega) ?_;intro w1 l b;have F:=Hi l;have Y:W.heap.size<w1.heap.size:=by have:=b.size;simp at this;omega
   have t:O (Below W.heap.size W w1):=Hi (Below.ofGrown (L.o.alloc L.o.size _) b (by simp<;>omega) lZ);obtain⟨Q,c1,c2,-⟩:=zc (s.o.below t.o s.o.lt);have ab:O (∀(j:Nat) (u:Value),z[j]?=some u->w1.cell? ⟨W.heap.size+1,j,none⟩=some u):=Hi (fun j u H=>(Qbp b (p:=⟨W.heap.size+1,j,none⟩) (by simp<;>omega) (by simp<;>omega)).trans (by simpa using R.o (W.alloc (.cells G 62)) j u H))
   clear l b)
  |(
   refine Qa3 underlying59 N.o P.o (by decide) rfl (.tmp 9) (.tmp 10) rfl W.heap.size (xs:=xs) (g:=W.heap.size+1) rfl rfl (ag.o) (ah.o) C.o D.o (by omega) ?_;intro w1 l b;have F:=Hi l;have Y:W.heap.size<w1.heap.size:=by have:=b.size;simp at this;omega
   have t:O (Below W.heap.size W w1):=Hi (Below.ofGrown V.o b (by simp<;>omega) (by omega));obtain⟨Q,c1,c2,-⟩:=zc (s.o.below t.o s.o.lt);have ab:O (∀(j:Nat) (u:Value),z[j]?=some u->w1.cell? ⟨W.heap.size,j,none⟩=some u):=Hi (fun j u H=>(Qbp b (p:=⟨W.heap.size,j,none⟩) (by simp<;>omega) (by simp<;>omega)).trans (ai.o j u H))
   clear l b)
  |(
   refine Qbo underlying59 N.o P.o rfl (.tmp 11) (.tmp 15) rfl W.heap.size (xs:=xs) (news:=z) (n:=v.length) (m:=3) rfl rfl F.o S.o ab.o T.o lZ ?_;intro w2 q r;have Z:=Hi q;have aj:w1.heap.size<=w2.heap.size:=r.size;have x:Below W.heap.size W w2:=Below.ofGrown t.o r t.o.size (by omega);obtain⟨Q,c1,c2,-⟩:=zc (s.o.below x s.o.lt);have aa:O (Below w.heap.size w w2):=Hi (y.o.trans (x.mono y.o.size))
   clear q r x)
  )
 all_goals
  go_wp2;go_ret;exact⟨_,by omega,rfl,⟨by simp,by rw[List.flatMap_append,ae.o,show ([⟨d,f,k⟩,⟨d,f,k⟩,⟨d,f,k⟩]:List L3).flatMap L3.cells=z from af.o.symm];exact Qd1 Z.o⟩,aa.o⟩
end Go.Proofs.YtppkmifkpjkgpaaGreatDoor
