import Derived.Test.YtppkmifkpjkgpaaGreatDoorE19MotD
namespace Go.Proofs.YtppkmifkpjkgpaaGreatDoor
open Go.RowKit
open Go.Proofs.Tryz
set_option linter.unusedSimpArgs false
set_option linter.unusedVariables false
set_option maxHeartbeats 8000000
set_option maxRecDepth 1000000
theorem Qlw(Z a2 a3:Vx)(c1 c2 c3 i:Nat)(J:List S2)(L:List B6)(hs:List H3)(b:B6)(p:Nat × Nat × Rat × Rat)(w:Vz)(hg:∃m,w.cell? ⟨4,0,none⟩=some (.int .i64 m))(M:FrRow w Z a2 a3 c1 c2 c3 J L hs)(hi:L[i]?=some b)(hb:BarV 1048576 J b p)(n1:J.length<=10)(n2:L.length<=24):
 Calls prog 93 #[.agg #[.slice Z J.length c1,.slice a2 L.length c2,.slice a3 hs.length c3],.int .i64 i] w fun e w'=>∃S b2,e=.returned (.tuple #[.pointer (some ⟨S,0,none⟩),.pointer (some ⟨b2,0,none⟩)])/\RBag w w' [(S,p.2.2.1,8388611),(b2,p.2.2.2,8388611)]:=by
 obtain⟨A,B,rx,ry⟩:=p;obtain⟨s,t,x1,y1,x2,y2,e1,e2,z1,z2,z3,z4,q1,q2,q3,q4,e3,e4⟩:=hb.ex;have hA:=hb.a;have hB:=hb.b;simp only at e1 e2 e3 e4 hA hB;subst e3;subst e4;have ab:=(gZ hi).1;have ad:=(gZ e1).1;have ae:=(gZ e2).1;obtain⟨HG,HF,HI,HS,HT,N,O⟩:=If (RBag.start hg) M hi e1 e2 (⟨z1,z2,z3,z4⟩:s.x.size<=1048576/\s.y.size<=1048576/\t.x.size<=1048576/\t.y.size<=1048576) (⟨q1,q2,q3,q4⟩:QOf s.x.data.toList x1/\QOf s.y.data.toList y1/\QOf t.x.data.toList x2/\QOf t.y.data.toList y2);have iA:((A:Int)<(J.length:Int)):=by omega
 have iB:((B:Int)<(J.length:Int)):=by omega
 have iI:((i:Int)<(L.length:Int)):=by omega
 clear hg M hi e1 e2 z1 z2 z3 z4 q1 q2 q3 q4 hb;obtain⟨T,P⟩:=nm w.heap.size;obtain⟨V,hV⟩:=nm (w.alloc (.cells #[.slice Z J.length c1,.slice a2 L.length c2,.slice a3 hs.length c3] 26));have E:=Ua hV;have K:SB V T 26 #[.slice Z J.length c1,.slice a2 L.length c2,.slice a3 hs.length c3]:=by rw[<-hV,<-P];exact SB.new w _ _
 obtain⟨Q,U,rfl,af,u0,u1⟩:=(HF.o.below E.o).j.spot HS.o;obtain⟨ag,ah,e',_,u2,u3⟩:=(HF.o.below E.o).j.spot HT.o;cases e';obtain⟨W,bo,rfl,ai,f2,f3,_⟩:=(HF.o.below E.o).b.bar HI.o;rw[hA] at f2;rw[hB] at f3;have f0:=K.cell 0;have f1:=K.cell 1;simp at f0 f1;have Y:=K.lt;have aj:V.heap.size≠T:=by omega
 have ak:V.heap.size+1≠T:=by omega
 have al:V.heap.size≠Q:=by omega
 have am:V.heap.size+1≠Q:=by omega
 have an:V.heap.size≠W:=by omega
 have ao:V.heap.size+1≠W:=by omega
 obtain⟨HV,aa⟩:=Ia hV P;clear hV P K hA hB Y;go_enter func93,ntmps93;go_wp2_with fail;rw[HV.o];simp only[aa.o];go_region_held3 (fun v=>v.cell? ⟨T,0,none⟩=some (.slice (some ⟨Q,U,none⟩) J.length c1)/\v.cell? ⟨T,1,none⟩=some (.slice (some ⟨W,bo,none⟩) L.length c2)/\v.cell? ⟨W,bo+i*6,none⟩=some (.int .i64 (A:Nat))/\v.cell? ⟨W,bo+i*6+1,none⟩=some (.int .i64 (B:Nat))/\v.cell? ⟨Q,U+A*2,none⟩=some (.string s.x)/\v.cell? ⟨Q,U+A*2+1,none⟩=some (.string s.y)/\v.cell? ⟨Q,U+B*2,none⟩=some (.string t.x)/\v.cell? ⟨Q,U+B*2+1,none⟩=some (.string t.y)) ((first|(simp [*];done)|go_keep)) (fail)
 .
  obtain⟨X,F⟩:=nm (((V.alloc (.cells #[.string s.x,.string s.y] 56)).alloc (.cells #[.string t.x,.string t.y] 56)).drew);have G:Bl V X:=by rw[<-F];exact((bR.alloc lZ _).alloc (by simp) _).drew
  have C:SB X (V.heap.size) 56 #[.string s.x,.string s.y]:=by rw[<-F];exact((SB.new V _ _).alloc _)
  have D:SB X (V.heap.size+1) 56 #[.string t.x,.string t.y]:=by rw[<-F];exact Qa1 V _ _ _
  obtain⟨g,h,H⟩:=Ib C D (E.o.trans (G.mono E.o.size));have d:=Hi (HG.o.below H.o).rebase;have k:=C.cell 0;have l:=C.cell 1;have r:=D.cell 0;have u:=D.cell 1;simp at k l r u;have R:=Hi F;clear G C D F f0 f1 f2 f3 u0 u1 u2 u3;rw[R.o];go_wp2_with fail;go_region_held3 (fun v=>v.cell? ⟨V.heap.size,0,none⟩=some (.string s.x)/\v.cell? ⟨V.heap.size,1,none⟩=some (.string s.y)/\v.cell? ⟨V.heap.size+1,0,none⟩=some (.string t.x)/\v.cell? ⟨V.heap.size+1,1,none⟩=some (.string t.y)) ((first|(simp [*];done)|go_keep)) (first
   |
    (go_at_call_of 33 (Value.string t.x)
     apply cM;apply RBag.of (w0:=X) (n:=1048576) t.x;(first|exact d.o|exact d.o.drew);exact N.o.2.2.1;omega;rintro e I ⟨q,z,S,rfl,c⟩;rw[z.inj O.o.2.2.1] at c;clear d k l r u;have d:=Hi c;clear z c;have k:=(g.o.below d.o.base g.o.lt).cell 0;have l:=(g.o.below d.o.base g.o.lt).cell 1;have r:=(h.o.below d.o.base h.o.lt).cell 0;have u:=(h.o.below d.o.base h.o.lt).cell 1;simp at k l r u
     skip)
   |
    (go_at_call_of 33 (Value.string s.x)
     apply cM;apply RBag.of (w0:=X) (n:=1048576) s.x;(first|exact d.o|exact d.o.drew);exact N.o.1;omega;rintro e I ⟨q,z,b2,rfl,c⟩;rw[z.inj O.o.1] at c;clear d k l r u;have d:=Hi c;clear z c;have k:=(g.o.below d.o.base g.o.lt).cell 0;have l:=(g.o.below d.o.base g.o.lt).cell 1;have r:=(h.o.below d.o.base h.o.lt).cell 0;have u:=(h.o.below d.o.base h.o.lt).cell 1;simp at k l r u
     skip)
   |
    (go_at_call_of 90 (Value.pointer (some ⟨S,0,none⟩))
     apply cM;apply RBag.sub (w0:=X);(first|exact d.o|exact d.o.drew);repeat(first|exact mH|apply mT);omega;rintro e I ⟨b3,rfl,c⟩;clear d k l r u;have d:=Hi c;clear c;have k:=(g.o.below d.o.base g.o.lt).cell 0;have l:=(g.o.below d.o.base g.o.lt).cell 1;have r:=(h.o.below d.o.base h.o.lt).cell 0;have u:=(h.o.below d.o.base h.o.lt).cell 1;simp at k l r u
     skip)
   |
    (go_at_call_of 33 (Value.string t.y)
     apply cM;apply RBag.of (w0:=X) (n:=1048576) t.y;(first|exact d.o|exact d.o.drew);exact N.o.2.2.2;omega;rintro e I ⟨q,z,b4,rfl,c⟩;rw[z.inj O.o.2.2.2] at c;clear d k l r u;have d:=Hi c;clear z c;have k:=(g.o.below d.o.base g.o.lt).cell 0;have l:=(g.o.below d.o.base g.o.lt).cell 1;have r:=(h.o.below d.o.base h.o.lt).cell 0;have u:=(h.o.below d.o.base h.o.lt).cell 1;simp at k l r u
     skip)
   |
    (go_at_call_of 33 (Value.string s.y)
     apply cM;apply RBag.of (w0:=X) (n:=1048576) s.y;(first|exact d.o|exact d.o.drew);exact N.o.2.1;omega;rintro e I ⟨q,z,b5,rfl,c⟩;rw[z.inj O.o.2.1] at c;clear d k l r u;have d:=Hi c;clear z c;have k:=(g.o.below d.o.base g.o.lt).cell 0;have l:=(g.o.below d.o.base g.o.lt).cell 1;have r:=(h.o.below d.o.base h.o.lt).cell 0;have u:=(h.o.below d.o.base h.o.lt).cell 1;simp at k l r u
     skip)
   |
    (go_at_call_of 90 (Value.pointer (some ⟨b4,0,none⟩))
     apply cM;apply RBag.sub (w0:=X);(first|exact d.o|exact d.o.drew);repeat(first|exact mH|apply mT);omega;rintro e I ⟨b6,rfl,c⟩;clear d k l r u;have d:=Hi c;clear c;have k:=(g.o.below d.o.base g.o.lt).cell 0;have l:=(g.o.below d.o.base g.o.lt).cell 1;have r:=(h.o.below d.o.base h.o.lt).cell 0;have u:=(h.o.below d.o.base h.o.lt).cell 1;simp at k l r u
     skip)
   |fail)
  all_goals
   clear k l r u;go_wp2;go_ret2;refine⟨b3,b6,rfl,(by first|exact d.o|exact d.o.drew:RBag X _ _).mono H.o (fun f M=>?_)⟩;simp only[List.mem_cons,List.not_mem_nil,or_false] at M;rcases M with rfl|rfl
   .
    exact⟨_,(by
     repeat(first|exact mH|apply mT)
     skip),Nat.le_refl _⟩
   .
    exact⟨_,(by
     repeat(first|exact mH|apply mT)
     skip),Nat.le_refl _⟩
 .
  obtain⟨X,F⟩:=nm (((V.alloc (.cells #[.string t.x,.string t.y] 56)).alloc (.cells #[.string s.x,.string s.y] 56)).drew);have G:Bl V X:=by rw[<-F];exact((bR.alloc lZ _).alloc (by simp) _).drew
  have C:SB X (V.heap.size+1) 56 #[.string s.x,.string s.y]:=by rw[<-F];exact Qa1 V _ _ _
  have D:SB X (V.heap.size) 56 #[.string t.x,.string t.y]:=by rw[<-F];exact((SB.new V _ _).alloc _)
  obtain⟨g,h,H⟩:=Ib C D (E.o.trans (G.mono E.o.size));have d:=Hi (HG.o.below H.o).rebase;have k:=C.cell 0;have l:=C.cell 1;have r:=D.cell 0;have u:=D.cell 1;simp at k l r u;have R:=Hi F;clear G C D F f0 f1 f2 f3 u0 u1 u2 u3;rw[R.o];go_wp2_with fail;go_region_held3 (fun v=>v.cell? ⟨V.heap.size+1,0,none⟩=some (.string s.x)/\v.cell? ⟨V.heap.size+1,1,none⟩=some (.string s.y)/\v.cell? ⟨V.heap.size,0,none⟩=some (.string t.x)/\v.cell? ⟨V.heap.size,1,none⟩=some (.string t.y)) ((first|(simp [*];done)|go_keep)) (first
   |
    (go_at_call_of 33 (Value.string t.x)
     apply cM;apply RBag.of (w0:=X) (n:=1048576) t.x;(first|exact d.o|exact d.o.drew);exact N.o.2.2.1;omega;rintro e I ⟨q,z,S,rfl,c⟩;rw[z.inj O.o.2.2.1] at c;clear d k l r u;have d:=Hi c;clear z c;have k:=(g.o.below d.o.base g.o.lt).cell 0;have l:=(g.o.below d.o.base g.o.lt).cell 1;have r:=(h.o.below d.o.base h.o.lt).cell 0;have u:=(h.o.below d.o.base h.o.lt).cell 1;simp at k l r u
     skip)
   |
    (go_at_call_of 33 (Value.string s.x)
     apply cM;apply RBag.of (w0:=X) (n:=1048576) s.x;(first|exact d.o|exact d.o.drew);exact N.o.1;omega;rintro e I ⟨q,z,b2,rfl,c⟩;rw[z.inj O.o.1] at c;clear d k l r u;have d:=Hi c;clear z c;have k:=(g.o.below d.o.base g.o.lt).cell 0;have l:=(g.o.below d.o.base g.o.lt).cell 1;have r:=(h.o.below d.o.base h.o.lt).cell 0;have u:=(h.o.below d.o.base h.o.lt).cell 1;simp at k l r u
     skip)
   |
    (go_at_call_of 90 (Value.pointer (some ⟨S,0,none⟩))
     apply cM;apply RBag.sub (w0:=X);(first|exact d.o|exact d.o.drew);repeat(first|exact mH|apply mT);omega;rintro e I ⟨b3,rfl,c⟩;clear d k l r u;have d:=Hi c;clear c;have k:=(g.o.below d.o.base g.o.lt).cell 0;have l:=(g.o.below d.o.base g.o.lt).cell 1;have r:=(h.o.below d.o.base h.o.lt).cell 0;have u:=(h.o.below d.o.base h.o.lt).cell 1;simp at k l r u
     skip)
   |
    (go_at_call_of 33 (Value.string t.y)
     apply cM;apply RBag.of (w0:=X) (n:=1048576) t.y;(first|exact d.o|exact d.o.drew);exact N.o.2.2.2;omega;rintro e I ⟨q,z,b4,rfl,c⟩;rw[z.inj O.o.2.2.2] at c;clear d k l r u;have d:=Hi c;clear z c;have k:=(g.o.below d.o.base g.o.lt).cell 0;have l:=(g.o.below d.o.base g.o.lt).cell 1;have r:=(h.o.below d.o.base h.o.lt).cell 0;have u:=(h.o.below d.o.base h.o.lt).cell 1;simp at k l r u
     skip)
   |
    (go_at_call_of 33 (Value.string s.y)
     apply cM;apply RBag.of (w0:=X) (n:=1048576) s.y;(first|exact d.o|exact d.o.drew);exact N.o.2.1;omega;rintro e I ⟨q,z,b5,rfl,c⟩;rw[z.inj O.o.2.1] at c;clear d k l r u;have d:=Hi c;clear z c;have k:=(g.o.below d.o.base g.o.lt).cell 0;have l:=(g.o.below d.o.base g.o.lt).cell 1;have r:=(h.o.below d.o.base h.o.lt).cell 0;have u:=(h.o.below d.o.base h.o.lt).cell 1;simp at k l r u
     skip)
   |
    (go_at_call_of 90 (Value.pointer (some ⟨b4,0,none⟩))
     apply cM;apply RBag.sub (w0:=X);(first|exact d.o|exact d.o.drew);repeat(first|exact mH|apply mT);omega;rintro e I ⟨b6,rfl,c⟩;clear d k l r u;have d:=Hi c;clear c;have k:=(g.o.below d.o.base g.o.lt).cell 0;have l:=(g.o.below d.o.base g.o.lt).cell 1;have r:=(h.o.below d.o.base h.o.lt).cell 0;have u:=(h.o.below d.o.base h.o.lt).cell 1;simp at k l r u
     skip)
   |fail)
  all_goals
   clear k l r u;go_wp2;go_ret2;refine⟨b3,b6,rfl,(by first|exact d.o|exact d.o.drew:RBag X _ _).mono H.o (fun f M=>?_)⟩;simp only[List.mem_cons,List.not_mem_nil,or_false] at M;rcases M with rfl|rfl
   .
    exact⟨_,(by
     repeat(first|exact mH|apply mT)
     skip),Nat.le_refl _⟩
   .
    exact⟨_,(by
     repeat(first|exact mH|apply mT)
     skip),Nat.le_refl _⟩
def stretch(p:Nat × Nat × Rat × Rat)(v:Vec):Rat:=p.2.2.1*(v (2*p.2.1) - v (2*p.1))+p.2.2.2*(v (2*p.2.1+1) - v (2*p.1+1))
theorem RBag.all{w0 w:Vz}{L M:List RT}(h:RBag w0 w L)(k:RVs w M):RBag w0 w (L++M):=⟨h.base,h.glob,fun t a=>by
 rcases List.mem_append.1 a with a|a
 . exact h.ts t a
 . exact k t a⟩
theorem Qwm(a1 a2 a3 av:Vx)(c1 c2 c3 cv i K:Nat)(F:List S2)(G:List B6)(hs:List H3)(b:B6)(p:Nat × Nat × Rat × Rat)(j:List RT)(w:Vz)(hg:∃m,w.cell? ⟨4,0,none⟩=some (.int .i64 m))(J:FrRow w a1 a2 a3 c1 c2 c3 F G hs)(hi:G[i]?=some b)(M:BarV 1048576 F b p)(n1:F.length<=10)(n2:G.length<=24)
 (k:PRow w av j) (hl:j.length=2*F.length) (hk:∀t,t∈ j->t.2.2<=K) (hK:4*K<200000000000):
 Calls prog 52 #[.agg #[.slice a1 F.length c1,.slice a2 G.length c2,.slice a3 hs.length c3],.int .i64 i,.slice av j.length cv] w fun e w'=>∃g,e=.returned (.pointer (some ⟨g,0,none⟩))/\RBag w w' [(g,stretch p (qv j),4*K+16777225)]:=by
 have af:=Hi (fun u (hu:Bl w u)=>Qlw a1 a2 a3 c1 c2 c3 i F G hs b p u ((RBag.start hg).below hu).glob (J.below hu) hi M n1 n2);obtain⟨s,t,x1,y1,x2,y2,e1,e2,_⟩:=M.ex;have hA:=M.a;have hB:=M.b;have ao:=(gZ hi).1;have ag:=(gZ e1).1;have ah:=(gZ e2).1;obtain⟨A,B,rx,ry⟩:=p;simp only at hA hB ag ah;obtain⟨⟨g1,q1,k1⟩,I⟩:∃t,j[2*B]?=some t:=⟨j[2*B]'(by omega),gE _⟩;obtain⟨⟨g2,q2,k2⟩,h2⟩:∃t,j[2*A]?=some t:=⟨j[2*A]'(by omega),gE _⟩;obtain⟨⟨g3,q3,k3⟩,h3⟩:∃t,j[2*B+1]?=some t:=⟨j[2*B+1]'(by omega),gE _⟩;obtain⟨⟨g4,q4,k4⟩,h4⟩:∃t,j[2*A+1]?=some t:=⟨j[2*A+1]'(by omega),gE _⟩;have N:=mO I;have P:=mO h2;have Q:=mO h3;have R:=mO h4
 have l1:=hk _ N;have l2:=hk _ P;have l3:=hk _ Q;have l4:=hk _ R;simp only at l1 l2 l3 l4;have ai:O (RVs w [(g1,q1,K),(g2,q2,K),(g3,q3,K),(g4,q4,K)]):=Hi (fun x hx=>by
  simp only[List.mem_cons,List.not_mem_nil,or_false] at hx;rcases hx with rfl|rfl|rfl|rfl
  . exact⟨(k.vs _ N).1,(k.vs _ N).2.1.mono l1,Nat.lt_of_lt_of_le (k.vs _ N).2.2 l1⟩
  . exact⟨(k.vs _ P).1,(k.vs _ P).2.1.mono l2,Nat.lt_of_lt_of_le (k.vs _ P).2.2 l2⟩
  . exact⟨(k.vs _ Q).1,(k.vs _ Q).2.1.mono l3,Nat.lt_of_lt_of_le (k.vs _ Q).2.2 l3⟩
  . exact⟨(k.vs _ R).1,(k.vs _ R).2.1.mono l4,Nat.lt_of_lt_of_le (k.vs _ R).2.2 l4⟩)
 have aj:O (stretch (A,B,rx,ry) (qv j)=rx*(q1 - q2)+ry*(q3 - q4)):=Hi (by
  simp only[stretch]
  rw[qv_at I,qv_at h2,qv_at h3,qv_at h4])
 obtain⟨S,vo,rfl,l,D0⟩:=k.at I;obtain⟨T,U,W,_,D1⟩:=k.at h2;cases W;obtain⟨T,U,W,_,D2⟩:=k.at h3;cases W;obtain⟨T,U,W,_,D3⟩:=k.at h4;cases W;simp only at D0 D1 D2 D3;have iI:((i:Int)<(G.length:Int)):=by omega
 obtain⟨X1,Y⟩:=nm (2*B);obtain⟨X2,Z⟩:=nm (2*A);obtain⟨Y1,aa⟩:=nm (2*B+1);obtain⟨Y2,ab⟩:=nm (2*A+1);rw[Y] at D0;rw[Z] at D1;rw[aa] at D2;rw[ab] at D3;have i1:(X1:Int)<(j.length:Int):=by omega
 have i2:(X2:Int)<(j.length:Int):=by omega
 have i3:(Y1:Int)<(j.length:Int):=by omega
 have i4:(Y2:Int)<(j.length:Int):=by omega
 have w1:IntKind.i64.wrap (2*(B:Int))=(X1:Int):=by rw[wrap_i64 _ (by omega) (by omega)];omega
 have w2:IntKind.i64.wrap (2*(A:Int))=(X2:Int):=by rw[wrap_i64 _ (by omega) (by omega)];omega
 have w3:IntKind.i64.wrap ((X1:Int)+1)=(Y1:Int):=by rw[wrap_i64 _ (by omega) (by omega)];omega
 have w4:IntKind.i64.wrap ((X2:Int)+1)=(Y2:Int):=by rw[wrap_i64 _ (by omega) (by omega)];omega
 clear Y Z aa ab;obtain⟨HF,HI⟩:=Ia J hi;obtain⟨NT,ad⟩:=nm j.length;rw[ad] at i1 i2 i3 i4 ⊢;clear hg J hi M e1 e2 k hl hk I h2 h3 h4 N P Q R l1 l2 l3 l4 ad;obtain⟨B0,H⟩:=nm w.heap.size;obtain⟨V,hV⟩:=nm (w.alloc (.cells #[.slice a1 F.length c1,.slice a2 G.length c2,.slice a3 hs.length c3] 26));have D:=Ua hV;have ae:=Uf hV H;obtain⟨HV,ak,al⟩:=Ib hV H (af.o V D.o);have ap:=D.o.size;clear hV H;go_enter func52,ntmps52;go_wp2_with fail;rw[HV.o];simp only[ak.o];go_fit al.o;rintro e X0 ⟨bx,bv,rfl,c⟩;have C:=c.base;have E:=D.o.trans (C.mono D.o.size)
 obtain⟨-,f1,-⟩:=zc (ae.o.below C ae.o.lt);obtain⟨bb,bo,rfl,aq,f2,f3,_⟩:=(HF.o.below E).b.bar HI.o;rw[hA] at f2;rw[hB] at f3;obtain⟨X,hX⟩:=nm X0.drew;have h:Bl w X:=by rw[<-hX];exact E.drew
 have am:=Hi h;have d:O (RBag X X [(bx,rx,8388611),(bv,ry,8388611),(g1,q1,K),(g2,q2,K),(g3,q3,K),(g4,q4,K)]):=Hi (by
  have I:=RBag.all (L:=[(bx,rx,8388611),(bv,ry,8388611)]) c.rebase (ai.o.below E);rw[<-hX]
  exact I.drew.rebase)
 have n:S<X.heap.size:=by have:=h.size;omega
 obtain⟨q,r,y,z,an⟩:=Id (ce h l D0) (ce h l D1) (ce h l D2) (ce h l D3) hX;clear c C E D0 D1 D2 D3 hA hB hX h;go_wp2_with fail;go_region;rw[an.o];clear f1 f2 f3;obtain⟨d0,d1,d2,d3⟩:=Jc d.o.base n q.o r.o y.o z.o;go_wp2_with fail
 go_region_held3 (fun v=>v.cell? ⟨S,vo+X1,none⟩=some (.pointer (some ⟨g1,0,none⟩))/\v.cell? ⟨S,vo+X2,none⟩=some (.pointer (some ⟨g2,0,none⟩))/\v.cell? ⟨S,vo+Y1,none⟩=some (.pointer (some ⟨g3,0,none⟩))/\v.cell? ⟨S,vo+Y2,none⟩=some (.pointer (some ⟨g4,0,none⟩))) ((first|(simp [*];done)|go_keep)) (first
  |
   (go_at_call_of 90 (Value.pointer (some ⟨g1,0,none⟩))
    apply cM;apply RBag.sub (w0:=X);(first|exact d.o|exact d.o.drew);repeat(first|exact mH|apply mT);omega;rintro e wn ⟨b1,rfl,c⟩;clear d d0 d1 d2 d3;have d:=Hi c;clear c;obtain⟨d0,d1,d2,d3⟩:=Jc d.o.base n q.o r.o y.o z.o
    skip)
  |
   (go_at_call_of 91 (Value.pointer (some ⟨bx,0,none⟩))
    apply cM;apply RBag.mul (w0:=X);(first|exact d.o|exact d.o.drew);repeat(first|exact mH|apply mT);omega;rintro e wn ⟨b2,rfl,c⟩;clear d d0 d1 d2 d3;have d:=Hi c;clear c;obtain⟨d0,d1,d2,d3⟩:=Jc d.o.base n q.o r.o y.o z.o
    skip)
  |
   (go_at_call_of 90 (Value.pointer (some ⟨g3,0,none⟩))
    apply cM;apply RBag.sub (w0:=X);(first|exact d.o|exact d.o.drew);repeat(first|exact mH|apply mT);omega;rintro e wn ⟨b3,rfl,c⟩;clear d d0 d1 d2 d3;have d:=Hi c;clear c;obtain⟨d0,d1,d2,d3⟩:=Jc d.o.base n q.o r.o y.o z.o
    skip)
  |
   (go_at_call_of 91 (Value.pointer (some ⟨bv,0,none⟩))
    apply cM;apply RBag.mul (w0:=X);(first|exact d.o|exact d.o.drew);repeat(first|exact mH|apply mT);omega;rintro e wn ⟨b4,rfl,c⟩;clear d d0 d1 d2 d3;have d:=Hi c;clear c;obtain⟨d0,d1,d2,d3⟩:=Jc d.o.base n q.o r.o y.o z.o
    skip)
  |
   (go_at_call_of 94 (Value.pointer (some ⟨b2,0,none⟩))
    apply cM;apply RBag.add (w0:=X);(first|exact d.o|exact d.o.drew);repeat(first|exact mH|apply mT);omega;rintro e wn ⟨b5,rfl,c⟩;clear d d0 d1 d2 d3;have d:=Hi c;clear c;obtain⟨d0,d1,d2,d3⟩:=Jc d.o.base n q.o r.o y.o z.o
    skip)
  |fail)
 all_goals
  clear d0 d1 d2 d3;go_wp2;go_ret;refine⟨b5,rfl,(by first|exact d.o|exact d.o.drew:RBag X _ _).mono am.o (fun f J=>?_)⟩;obtain rfl:=List.mem_singleton.1 J;rw[aj.o];exact⟨_,List.Mem.head _,by simp only;omega⟩
structure PBlk (w:Vz) (g:Nat) (ts:List RT):Prop where
 blk:SB w g 84 (ts.map ptrV).toArray
 vs:RVs w ts
theorem PBlk.below{w w':Vz}{g:Nat}{a:List RT}(h:PBlk w g a)(b:Bl w w'):PBlk w' g a:=⟨h.blk.below b h.blk.lt,h.vs.below b⟩
theorem PBlk.cell{w:Vz}{g i:Nat}{a:List RT}{t:RT}(h:PBlk w g a)(b:a[i]?=some t):w.cell? ⟨g,i,none⟩=some (.pointer (some ⟨t.1,0,none⟩)):=by
 rw[h.blk.cell];simp[b,ptrV]
theorem PBlk.set{w:Vz}{g i b k:Nat}{q:Rat}{a:List RT}(h:PBlk w g a)(e:RatVal w b q)(f:Fits q k)(hk:0<k):PBlk (w.setCell ⟨g,i,none⟩ (.pointer (some ⟨b,0,none⟩))) g (a.set i (b,q,k)):=by
 have j:Only g w (w.setCell ⟨g,i,none⟩ (.pointer (some ⟨b,0,none⟩))):=(Only.refl g w).setCell _ _;have d:=Fp.of_only j h.blk (fun u l=>Qcm a u (by simpa using l));refine⟨?_,fun t c=>?_⟩
 .
  have:=h.blk.set i (.pointer (some ⟨b,0,none⟩));rw[List.map_set]
  simpa [ptrV] using this
 .
  rcases List.mem_or_eq_of_mem_set c with c|rfl
  . exact(h.vs.fp d) t c
  . exact⟨e.fp d,f,hk⟩
theorem Qqj(n:Nat):madeCells (Value.cells (.pointer none)) n=(List.replicate n (Value.pointer none)).toArray:=by
 have e:Value.cells (.pointer none)=#[.pointer none]:=by rfl
 rw[e];apply Array.ext';rw[toList_madeCells_one]
theorem Qjg(n:Nat)(d:n<=1048576)(w:Vz):(Instr.makeSlice 52 (.int .i64 n) (.int .i64 n)).run prog w=.ok (.slice (some ⟨w.heap.size,0,.none⟩) n n) (w.alloc (.cells (List.replicate n (Value.pointer none)).toArray 84)):=by
 obtain⟨i,a,h⟩:=Option.map_eq_some_iff.1 Qkr;simp only[Prod.mk.injEq] at h;obtain⟨b,hs,c⟩:=h;have:=run_make w 52 84 i _ underlying52 a b .i64 .i64 n n (by omega) (by omega) (by rw[c];omega) (by omega);rw[Int.toNat_natCast,hs,Nat.mul_one,Qqj] at this;exact this
theorem Qqk{n k:Nat}{x z:Value}{l:Vv}(hk:k<n)(hl:l.length=k):(l++List.replicate (n - k) z).set k x=(l++ [x])++List.replicate (n - (k+1)) z:=by
 rw[show n - k=(n - (k+1))+1 by omega,List.replicate_succ,List.set_append_right _ _ (by omega),hl,Nat.sub_self,List.set_cons_zero];simp
structure Noughts (w:Vz) (g n k:Nat) (ts:List RT):Prop where
 blk:SB w g 84 (ts.map ptrV++List.replicate (n - k) (Value.pointer none)).toArray
 vs:RVs w ts
 len:ts.length=k
 zero:∀t,t∈ ts->t.2.1=0/\t.2.2=1
theorem Noughts.below{w w':Vz}{g n k:Nat}{a:List RT}(h:Noughts w g n k a)(b:Bl w w'):Noughts w' g n k a:=⟨h.blk.below b h.blk.lt,h.vs.below b,h.len,h.zero⟩
theorem Noughts.step{w:Vz}{g n k b:Nat}{d:List RT}(h:Noughts w g n k d)(hk:k<n)(f:RatVal w b 0):Noughts (w.setCell ⟨g,k,none⟩ (.pointer (some ⟨b,0,none⟩))) g n (k+1) (d++ [(b,0,1)]):=by
 have i:Only g w (w.setCell ⟨g,k,none⟩ (.pointer (some ⟨b,0,none⟩))):=(Only.refl g w).setCell _ _;have e:=Fp.of_only i h.blk (fun u c=>by
  simp only[List.toList_toArray,List.mem_append] at c;rcases c with c|c
  . exact Qcm d u c
  . obtain⟨_,rfl⟩:=List.mem_replicate.1 c
    exact⟨_,rfl⟩)
 refine⟨?_,fun t a=>?_,by simp[h.len],fun t a=>?_⟩
 .
  have:=h.blk.set k (.pointer (some ⟨b,0,none⟩));rw[List.setIfInBounds_toArray,Qqk hk (by rw[List.length_map];exact h.len)] at this;rw[List.map_append];exact this
 .
  rcases List.mem_append.1 a with a|a
  . exact(h.vs.fp e) t a
  . obtain rfl:=List.mem_singleton.1 a
    exact⟨f.fp e,Fits.zero,Nat.one_pos⟩
 .
  rcases List.mem_append.1 a with a|a
  . exact h.zero t a
  . obtain rfl:=List.mem_singleton.1 a
    exact⟨rfl,rfl⟩
structure PR where
 b:Nat
 cap:Nat
 ts:List RT
 sp:List Value
def PR.val(r:PR):Value:=.slice (some ⟨r.b,0,none⟩) r.ts.length r.cap
def PR.cells(r:PR):List Value:=r.ts.map ptrV++r.sp
def PR.put(r:PR)(j:Nat)(t:RT):PR:=⟨r.b,r.cap,r.ts.set j t,r.sp⟩
def ratV(ts:List RT):Vec:=fun i=>match ts[i]? with
 |some t=>t.2.1
 |none=>0
def PR.q(r:PR):Vec:=ratV r.ts
theorem Qkd{a:List RT}{i:Nat}{t:RT}(h:a[i]?=some t):ratV a i=t.2.1:=by simp only[ratV,h]
theorem Qke{a:List RT}{i:Nat}(h:a.length<=i):ratV a i=0:=by simp only[ratV,List.getElem?_eq_none h]
theorem PR.put_val(r:PR)(j:Nat)(t:RT):(r.put j t).val=r.val:=by simp[PR.put,PR.val]
theorem IsSl.of_val(r:PR):IsSl r.val:=⟨_,_,_,rfl⟩
theorem Qee:84≠103:=by decide
theorem Qkf:3≠103:=by decide
theorem Qkg:3≠84:=by decide
structure Fs (w w':Vz):Prop where
 size:w.heap.size<=w'.heap.size
 keep:∀b i u,w.cell? ⟨b,i,none⟩=some u->¬IsSl u->w'.heap[b]?=w.heap[b]?
theorem Fs.cell{w w':Vz}(h:Fs w w'){b i:Nat}{u:Value}(a:w.cell? ⟨b,i,none⟩=some u)(hk:¬IsSl u)(j:Nat):w'.cell? ⟨b,j,none⟩=w.cell? ⟨b,j,none⟩:=World.cell?_of_block (w:=w) (h.keep b i u a hk)
theorem Fs.of_only{w w':Vz}{g:Nat}{t:Vr}{C:Vw}(c:Only g w w')(hs:SB w g t C)(hC:∀u,u∈ C.toList->IsSl u):Fs w w':=by
 refine⟨c.size,fun b i u a hk=>c.block b (World.block_lt_of_cell? _ _ a) ?_⟩;rintro rfl;rw[hs.cell] at a;exact hk (hC u (mO (by rw[Array.getElem?_toList];exact a)))
theorem Qsl(x:Bool):¬IsSl (.bool x):=fun ⟨_,_,_,e⟩=>by cases e
theorem Qsm(k:IntKind)(n:Int):¬IsSl (.int k n):=fun ⟨_,_,_,e⟩=>by cases e
theorem Row.fs{k:IntKind}{w w':Vz}{a:Vx}{cap:Nat}{l:Vy}(h:Row k w a cap l)(c:Fs w w'):Row k w' a cap l:=by
 refine⟨h.fit,?_,fun i g=>?_⟩
 .
  rcases h.shape with d|⟨e,b,rfl,j⟩
  . exact .inl d
  . exact .inr ⟨e,b,rfl,by have:=c.size;omega⟩
 . obtain⟨e,b,d,j,f⟩:=h.cell i g
   exact⟨e,b,d,by have:=c.size;omega,(c.cell f (Qsm _ _) _).trans f⟩
theorem RatVal.fs{w w':Vz}{b:Nat}{q:Rat}(h:RatVal w b q)(c:Fs w w'):RatVal w' b q:=by
 obtain⟨D,d,c1,f,g,c2,i,a,j⟩:=h;refine⟨D,d,c1,f,g,c2,i,⟨?_,⟨a.num.row.fs c,a.num.num,a.num.short⟩,⟨a.den.row.fs c,a.den.num,a.den.short⟩⟩,j⟩;have hs:=a.sb;have e:=c.keep b 0 _ (by rw[hs.cell];rfl) (Qsl _);unfold SB at hs ⊢;rw[e];exact hs
structure PMat (w:Vz) (B g:Nat) (zs:Vv) (rs:List PR):Prop where
 blk:SB w g 103 (rs.map PR.val++zs).toArray
 room:∀u,u∈ zs->IsSl u
 low:B<=g
 row:∀r,r∈ rs->SB w r.b 84 r.cells.toArray/\B<=r.b/\(∀u,u∈ r.sp->IsPt u)/\r.ts.length<=r.cap
 vs:∀r,r∈ rs->RVs w r.ts
 apart:∀(i j:Nat) (a b:PR),i≠j->rs[i]?=some a->rs[j]?=some b->a.b≠b.b
theorem PMat.below{w w':Vz}{B g:Nat}{c:Vv}{rs:List PR}(h:PMat w B g c rs)(b:Bl w w'):PMat w' B g c rs:=
 ⟨h.blk.below b h.blk.lt,h.room,h.low,fun r a=>⟨(h.row r a).1.below b (h.row r a).1.lt,(h.row r a).2⟩,fun r a=>(h.vs r a).below b,h.apart⟩
theorem PMat.slot{w:Vz}{B g i:Nat}{b:Vv}{rs:List PR}{r:PR}(h:PMat w B g b rs)(a:rs[i]?=some r):w.cell? ⟨g,i,none⟩=some r.val:=by
 rw[h.blk.cell,List.getElem?_toArray,List.getElem?_append_left (by simpa using (gZ a).1)];simp[a]
theorem PMat.num{w:Vz}{B g i j:Nat}{c:Vv}{rs:List PR}{r:PR}{t:RT}(h:PMat w B g c rs)(d:rs[i]?=some r)(a:r.ts[j]?=some t):w.cell? ⟨r.b,j,none⟩=some (.pointer (some ⟨t.1,0,none⟩)):=by
 rw[(h.row r (mO d)).1.cell];have hl:=(gZ a).1;simp only[PR.cells,List.getElem?_toArray];rw[List.getElem?_append_left (by simpa using hl)];simp[a,ptrV]
theorem PMat.free{w:Vz}{B g i j:Nat}{a:Vv}{rs:List PR}{r:PR}(h:PMat w B g a rs)(c:rs[i]?=some r):w.frozen? ⟨r.b,j,none⟩=false:=(h.row r (mO c)).1.free j
theorem PMat.val{w:Vz}{B g i j:Nat}{a:Vv}{rs:List PR}{r:PR}{t:RT}(h:PMat w B g a rs)(b:rs[i]?=some r)(c:r.ts[j]?=some t):RatVal w t.1 t.2.1/\Fits t.2.1 t.2.2/\0<t.2.2:=h.vs r (mO b) t (mO c)
theorem PMat.swap{w:Vz}{B g k b:Nat}{E:Vv}{rs:List PR}{s t:PR}(h:PMat w B g E rs)(p:rs[b]?=some s)(hk:rs[k]?=some t):
 PMat ((w.setCell ⟨g,k,none⟩ s.val).setCell ⟨g,b,none⟩ t.val) B g E ((rs.set k s).set b t)/\Only g w ((w.setCell ⟨g,k,none⟩ s.val).setCell ⟨g,b,none⟩ t.val):=by
 have q:Only g w ((w.setCell ⟨g,k,none⟩ s.val).setCell ⟨g,b,none⟩ t.val):=((Only.refl g w).setCell _ _).setCell _ _;have f:=(gZ p).1;have l:=(gZ hk).1;have c:∀r,r∈ (rs.set k s).set b t->r∈ rs:=fun r a=>by
  rcases List.mem_or_eq_of_mem_set a with a|rfl
  .
   rcases List.mem_or_eq_of_mem_set a with a|rfl
   . exact a
   . exact mO p
  . exact mO hk
 have v:=Fs.of_only q h.blk (fun x d=>by
  simp only[List.toList_toArray,List.mem_append,List.mem_map] at d;rcases d with ⟨y,_,rfl⟩|d
  . exact IsSl.of_val y
  . exact h.room x d)
 have z:=fun r a=>(h.row r a).1.unlike h.blk Qee
 have A:∀r,r∈ rs->RVs ((w.setCell ⟨g,k,none⟩ s.val).setCell ⟨g,b,none⟩ t.val) r.ts:=fun r a u F=>by
  obtain⟨G,H⟩:=h.vs r a u F;exact⟨G.fs v,H⟩
 refine⟨⟨?_,h.room,h.low,fun r a=>⟨(h.row r (c r a)).1.only q (z r (c r a)),(h.row r (c r a)).2⟩,fun r a=>A r (c r a),?_⟩,q⟩
 .
  have:=(h.blk.set k s.val).set b t.val;rw[List.setIfInBounds_toArray,List.setIfInBounds_toArray,List.set_append_left _ _ (by simpa using l),List.set_append_left _ _ (by simpa using f)] at this;rw[List.map_set,List.map_set];exact this
 .
  intro i j x y I d J;have m:∀(i:Nat) (x:PR),((rs.set k s).set b t)[i]?=some x->∃e,rs[e]?=some x/\(i=b/\e=k∨i≠b/\i=k/\e=b∨i≠b/\i≠k/\e=i):=fun i x d=>by
   by_cases n:i=b
   .
    rw[n,List.getElem?_set_self (by rw[List.length_set];exact f)] at d;obtain rfl:=Option.some.inj d;exact⟨k,hk,.inl ⟨n,rfl⟩⟩
   .
    rw[List.getElem?_set_ne (Ne.symm n)] at d;by_cases o:i=k
    .
     rw[o,List.getElem?_set_self l] at d;obtain rfl:=Option.some.inj d;exact⟨b,p,.inr (.inl ⟨n,o,rfl⟩)⟩
    . rw[List.getElem?_set_ne (Ne.symm o)] at d
      exact⟨i,d,.inr (.inr ⟨n,o,rfl⟩)⟩
  obtain⟨e,C,L⟩:=m i x d;obtain⟨K,D,M⟩:=m j y J;exact h.apart e K x y (by omega) C D
theorem PMat.put{w:Vz}{B g i j nb K:Nat}{q:Rat}{C:Vv}{rs:List PR}{r:PR}(h:PMat w B g C rs)(k:rs[i]?=some r)(D:j<r.ts.length)(E:RatVal w nb q)(F:Fits q K)(G:0<K):
 PMat (w.setCell ⟨r.b,j,none⟩ (.pointer (some ⟨nb,0,none⟩))) B g C (rs.set i (r.put j (nb,q,K)))/\Only r.b w (w.setCell ⟨r.b,j,none⟩ (.pointer (some ⟨nb,0,none⟩))):=by
 have p:Only r.b w (w.setCell ⟨r.b,j,none⟩ (.pointer (some ⟨nb,0,none⟩))):=(Only.refl r.b w).setCell _ _;have f:=h.row r (mO k);have d:=(gZ k).1;have v:=Fp.of_only p f.1 (fun u c=>by
  simp only[PR.cells,List.toList_toArray,List.mem_append] at c;rcases c with c|c
  . exact Qcm r.ts u c
  . exact f.2.2.1 u c)
 have z:=fun m s a hs=>h.apart m i s r a hs k
 refine⟨⟨?_,h.room,h.low,fun s hs=>?_,fun s hs=>?_,?_⟩,p⟩
 .
  rw[List.map_set,PR.put_val];have e:(rs.map PR.val).set i r.val=rs.map PR.val:=by
   apply List.ext_getElem?;intro m;by_cases e:m=i
   .
    subst e;rw[List.getElem?_set_self (by simpa using d)];simp[k]
   . rw[List.getElem?_set_ne (Ne.symm e)]
  rw[e];exact h.blk.only p (fun e=>(f.1.unlike h.blk Qee) e.symm)
 .
  obtain⟨m,a⟩:=List.mem_iff_getElem?.1 hs;by_cases e:m=i
  .
   subst e;rw[List.getElem?_set_self d] at a;obtain rfl:=Option.some.inj a;refine⟨?_,f.2.1,f.2.2.1,by simpa [PR.put] using f.2.2.2⟩;have:=f.1.set j (.pointer (some ⟨nb,0,none⟩));have e:(r.put j (nb,q,K)).cells.toArray=r.cells.toArray.setIfInBounds j (.pointer (some ⟨nb,0,none⟩)):=by
    simp only[PR.put,PR.cells,List.setIfInBounds_toArray,List.map_set];rw[List.set_append_left _ _ (by simpa using D)];rfl
   rw[e];exact this
  . rw[List.getElem?_set_ne (Ne.symm e)] at a
    exact⟨(h.row s (mO a)).1.only p (z m s e a),(h.row s (mO a)).2⟩
 .
  obtain⟨m,a⟩:=List.mem_iff_getElem?.1 hs;by_cases e:m=i
  .
   subst e;rw[List.getElem?_set_self d] at a;obtain rfl:=Option.some.inj a;intro u c;rcases List.mem_or_eq_of_mem_set c with c|rfl
   . exact((h.vs r (mO k)).fp v) u c
   . exact⟨E.fp v,F,G⟩
  . rw[List.getElem?_set_ne (Ne.symm e)] at a
    exact(h.vs s (mO a)).fp v
 .
  intro m n x y A l H;have o:∀(m:Nat) (x:PR),(rs.set i (r.put j (nb,q,K)))[m]?=some x->∃t,rs[m]?=some t/\t.b=x.b:=fun m x l=>by
   by_cases e:m=i
   .
    rw[e,List.getElem?_set_self d] at l;obtain rfl:=Option.some.inj l;exact⟨r,by rw[e];exact k,rfl⟩
   . rw[List.getElem?_set_ne (Ne.symm e)] at l
     exact⟨x,l,rfl⟩
  obtain⟨t,I,J⟩:=o m x l;obtain⟨L,M,N⟩:=o n y H;rw[<-J,<-N];exact h.apart m n t L A I M
theorem RatVal.grownI{w w':Vz}{b B n:Nat}{q:Rat}{v:Value}{xs:Vv}(h:RatVal w b q)(d:Grow w B 3 1 IsI v n xs)(a:w.grownBy w' v.ownBlock):RatVal w' b q:=by
 rcases ho:v.ownBlock with _|g
 . rw[ho] at a
   exact h.below ⟨a.os,a.tape,a.output,a.size,fun k hk=>a.block k hk (by simp)⟩
 .
  obtain⟨C,f,j⟩:=d.sb ho;rw[ho] at a;refine h.only32 ⟨a.os,a.tape,a.output,a.size,fun k hk c=>a.block k hk (by simpa using c)⟩ f (by decide) (fun i m e=>?_);obtain⟨x,l⟩:=j _ (mO (by rw[Array.getElem?_toList];exact e));cases l
structure PQ (w wr:Vz) (B g W K:Nat) (zs:Vv) (rs:List PR) (hs:Vy) (tv:Value):Prop where
 mat:PMat wr B g zs rs
 wide:∀r,r∈ rs->r.ts.length=W
 tag:∀r,r∈ rs->∀t,t∈ r.ts->t.2.2=K
 told:Grow wr w.heap.size 3 1 IsI tv hs.length (headsV hs)
 base:Below B w wr
 low:B<=w.heap.size
section
variable {w wr:Vz} {B g W K:Nat} {zs:Vv} {rs:List PR} {hs:Vy} {tv:Value}
theorem PQ.below{w':Vz}(h:PQ w wr B g W K zs rs hs tv)(a:Bl wr w'):PQ w w' B g W K zs rs hs tv:=
 ⟨h.mat.below a,h.wide,h.tag,h.told.below a,h.base.trans (a.mono (Nat.le_trans h.low h.base.size)),h.low⟩
theorem PQ.told_only{w':Vz}{c:Nat}{t:Vr}{C:Vw}(h:PQ w wr B g W K zs rs hs tv)(b:Only c wr w')(a:SB wr c t C)(d:3≠t):Grow w' w.heap.size 3 1 IsI tv hs.length (headsV hs):=
 h.told.keep fun k hk=>b.block k (h.told.lt hk).2 (by
  obtain⟨D,d1,_⟩:=h.told.sb hk
  exact d1.unlike a d)
theorem PQ.at(h:PQ w wr B g W K zs rs hs tv){i:Nat}(d:i<rs.length):∃r:PR,rs[i]?=some r/\wr.cell? ⟨g,i,none⟩=some (.slice (some ⟨r.b,0,none⟩) W r.cap)/\W<=r.cap/\r.b<wr.heap.size:=by
 obtain⟨r,c⟩:∃r,rs[i]?=some r:=⟨_,gE d⟩;have a:=mO c;refine⟨r,c,?_,?_,(h.mat.row r a).1.lt⟩
 . rw[h.mat.slot c,PR.val,h.wide r a]
 . rw[<-h.wide r a]
   exact(h.mat.row r a).2.2.2
theorem PQ.num(h:PQ w wr B g W K zs rs hs tv){i j:Nat}{r:PR}(c:rs[i]?=some r)(l:j<W):∃b:Nat,wr.cell? ⟨r.b,j,none⟩=some (.pointer (some ⟨b,0,none⟩))/\RatVal wr b (r.q j)/\Fits (r.q j) K/\0<K:=by
 have d:=mO c;obtain⟨t,a⟩:∃t,r.ts[j]?=some t:=⟨_,gE (by rw[h.wide r d];exact l)⟩;obtain⟨m,f,k⟩:=h.mat.val c a;have e:=h.tag r d t (mO a);rw[e] at f k;refine⟨t.1,h.mat.num c a,?_⟩;rw[show r.q j=t.2.1 from Qkd a];exact⟨m,f,k⟩
theorem PQ.swap(h:PQ w wr B g W K zs rs hs tv){k b:Nat}{s t:PR}(d:rs[b]?=some s)(hk:rs[k]?=some t):PQ w ((wr.setCell ⟨g,k,none⟩ (.slice (some ⟨s.b,0,none⟩) W s.cap)).setCell ⟨g,b,none⟩ (.slice (some ⟨t.b,0,none⟩) W t.cap)) B g W K zs ((rs.set k s).set b t) hs tv:=by
 have f:Value.slice (some ⟨s.b,0,none⟩) W s.cap=s.val:=by rw[PR.val,h.wide s (mO d)]
 have i:Value.slice (some ⟨t.b,0,none⟩) W t.cap=t.val:=by rw[PR.val,h.wide t (mO hk)]
 rw[f,i];obtain⟨j,e⟩:=h.mat.swap d hk;have c:∀r,r∈ (rs.set k s).set b t->r∈ rs:=fun r a=>by
  rcases List.mem_or_eq_of_mem_set a with a|rfl
  .
   rcases List.mem_or_eq_of_mem_set a with a|rfl
   . exact a
   . exact mO d
  . exact mO hk
 exact⟨j,fun r a=>h.wide r (c r a),fun r a=>h.tag r (c r a),h.told_only e h.mat.blk Qkf,h.base.trans (e.below h.mat.low (Nat.le_trans h.low h.base.size)),h.low⟩
theorem PQ.put(h:PQ w wr B g W K zs rs hs tv){i j nb:Nat}{r:PR}{q:Rat}(e:rs[i]?=some r)(k:j<W)(l:RatVal wr nb q)(m:Fits q K)(n:0<K):PQ w (wr.setCell ⟨r.b,j,none⟩ (.pointer (some ⟨nb,0,none⟩))) B g W K zs (rs.set i (r.put j (nb,q,K))) hs tv:=by
 have c:=mO e;have o:=(gZ e).1;obtain⟨p,f⟩:=h.mat.put e (by rw[h.wide r c];exact k) l m n;refine⟨p,fun x a=>?_,fun x a t d=>?_,h.told_only f (h.mat.row r c).1 Qkg,h.base.trans (f.below (h.mat.row r c).2.1 (Nat.le_trans h.low h.base.size)),h.low⟩
 .
  rcases List.mem_or_eq_of_mem_set a with a|rfl
  . exact h.wide x a
  . simpa [PR.put] using h.wide r c
 .
  rcases List.mem_or_eq_of_mem_set a with a|rfl
  . exact h.tag x a t d
  .
   rcases List.mem_or_eq_of_mem_set d with d|rfl
   . exact h.tag r c t d
   . rfl
theorem PQ.val_put(h:PQ w wr B g W K zs rs hs tv){i j nb b:Nat}{r:PR}{q:Rat}(d:rs[i]?=some r)(e:RatVal wr b q):RatVal (wr.setCell ⟨r.b,j,none⟩ (.pointer (some ⟨nb,0,none⟩))) b q:=by
 have c:=h.mat.row r (mO d);exact e.fp (Fp.of_only ((Only.refl r.b wr).setCell _ _) c.1 (fun u a=>by
  simp only[PR.cells,List.toList_toArray,List.mem_append] at a;rcases a with a|a
  . exact Qcm r.ts u a
  . exact c.2.2.1 u a))
theorem PQ.app(h:PQ w wr B g W K zs rs hs tv){k nb c:Nat}(p:wr.cell? ⟨nb,0,none⟩=some (.int .i64 (k:Nat)))(G:hs.length<=1000)(ty:Vr):
 ∃f w',appR prog 99 ty tv (.slice (some ⟨nb,0,none⟩) 1 c) wr=.ok f w'/\PQ w w' B g W K zs rs (hs++ [k]) f:=by
 obtain⟨H,A,q,s,hz2⟩:=info_parts Qli;obtain⟨f,w',l,u,a,E⟩:=h.told.app (P:=prog) (ty:=ty) underlying99 A q s hz2 rfl (by decide) Qlh ⟨nb,0,none⟩ 1 c [.int .i64 (k:Nat)] rfl (fun j v x=>by
  match j,x with
  |0,x=>
   obtain rfl:Value.int .i64 (k:Nat)=v:=by simpa using x
   rw[Qau]
   exact p) (fun v y=>by obtain rfl:v=Value.int .i64 (k:Nat):=by simpa using y
                         rfl) (fun v y=>by obtain rfl:v=Value.int .i64 (k:Nat):=by simpa using y
                                           exact⟨_,rfl⟩) (by omega) (by decide) h.base.size
 have d:∀b,b<wr.heap.size->tv.ownBlock≠some b->w'.heap[b]?=wr.heap[b]?:=fun b i z=>a.block b i (fun e=>z e.symm)
 have m:∀{b:Nat} {t:Vr} {C:Vw},SB wr b t C->3≠t->SB w' b t C:=fun {b t C} i o=>by
  have F:=d b i.lt (fun p=>by
   obtain⟨D,d1,_⟩:=h.told.sb p
   exact d1.unlike i o rfl)
  unfold SB at i ⊢;rw[F];exact i
 have n:Below B wr w':=⟨a.os,a.tape,a.output,a.size,fun b i=>d b (Nat.lt_of_lt_of_le i (Nat.le_trans h.low h.base.size)) (fun e=>by have:=(h.told.lt e).1;have:=h.low;omega)⟩;refine⟨f,w',l,⟨⟨m h.mat.blk Qkf,h.mat.room,h.mat.low,fun r l=>⟨m (h.mat.row r l).1 Qkg,(h.mat.row r l).2⟩,fun r l t o=>⟨?_,(h.mat.vs r l t o).2⟩,h.mat.apart⟩,h.wide,h.tag,?_,h.base.trans n,h.low⟩⟩
 . exact(h.mat.vs r l t o).1.grownI h.told a
 . rw[List.length_append,headsV,List.map_append]
   exact u
theorem PQ.glob(h:PQ w wr B g W K zs rs hs tv)(a:∃m,w.cell? ⟨4,0,none⟩=some (.int .i64 m))(hG:4<B):RBag wr wr []:=by
 obtain⟨m,b⟩:=a;exact RBag.start ⟨m,ce h.base hG b⟩
end
structure Part (rs0 rs:List PR) (i j:Nat) (v u:Vec):Prop where
 len:rs.length=rs0.length
 other:∀m,m≠i->rs[m]?=rs0[m]?
 row:∃r,rs[i]?=some r/\(∀d,d<j->r.q d=u d)/\∀d,j<=d->r.q d=v d
theorem Part.start{rs:List PR}{i:Nat}{r:PR}(u:Vec)(h:rs[i]?=some r):Part rs rs i 0 r.q u:=⟨rfl,fun _ _=>rfl,r,h,fun d a=>by omega,fun _ _=>rfl⟩
theorem PR.put_q{r:PR}{j nb K:Nat}{q:Rat}(a:j<r.ts.length)(d:Nat):(r.put j (nb,q,K)).q d=if d=j then q else r.q d:=by
 unfold PR.q PR.put ratV;by_cases e:d=j
 . subst e
   simp[a]
 . simp only[List.getElem?_set_ne (Ne.symm e),if_neg e]
theorem Part.step{a rs:List PR}{i j nb K:Nat}{v u:Vec}{r:PR}(h:Part a rs i j v u)(f:rs[i]?=some r)(k:j<r.ts.length):Part a (rs.set i (r.put j (nb,u j,K))) i (j+1) v u:=by
 have b:=(gZ f).1;obtain⟨q,c,n,o⟩:=h.row;obtain rfl:=Option.some.inj (f.symm.trans c);refine⟨by simpa using h.len,fun m l=>by rw[List.getElem?_set_ne (Ne.symm l)];exact h.other m l,_,List.getElem?_set_self b,fun d p=>?_,fun d p=>?_⟩
 .
  rw[PR.put_q k];by_cases e:d=j
  . rw[if_pos e,e]
  . rw[if_neg e]
    exact n d (by omega)
 . rw[PR.put_q k,if_neg (by omega)]
   exact o d (by omega)
theorem Part.done{a rs:List PR}{i W:Nat}{v u:Vec}(h:Part a rs i W v u)(b:∀d,W<=d->v d=u d):∃r,rs[i]?=some r/\r.q=u:=by
 obtain⟨r,c,e,f⟩:=h.row;refine⟨r,c,funext fun d=>?_⟩;rcases Nat.lt_or_ge d W with k|k
 . exact e d k
 . rw[f d k,b d k]
end Go.Proofs.YtppkmifkpjkgpaaGreatDoor
