import Derived.Test.YtppkmifkpjkgpaaGreatDoorC37RatL
namespace Go.Proofs.YtppkmifkpjkgpaaGreatDoor
open Go.RowKit
open Go.Proofs.Tryz
set_option linter.unusedSimpArgs false
set_option linter.unusedVariables false
set_option maxHeartbeats 8000000
set_option maxRecDepth 1000000
theorem Qvs(Z a2 a3:Vx)(c1 c2 c3 i:Nat)(J:List S2)(L:List B6)(hs:List H3)(b:B6)(p:Nat × Nat × Rat × Rat)(w:Vz)(hg:∃m,w.cell? ⟨4,0,none⟩=some (.int .i64 m))(M:FrRow w Z a2 a3 c1 c2 c3 J L hs)(hi:L[i]?=some b)(hb:BarV 1048576 J b p)(n1:J.length<=10)(n2:L.length<=24):
 Calls prog 93 #[.agg #[.slice Z J.length c1,.slice a2 L.length c2,.slice a3 hs.length c3],.int .i64 i] w fun e w'=>∃b1 b2,e=.returned (.tuple #[.pointer (some ⟨b1,0,none⟩),.pointer (some ⟨b2,0,none⟩)])/\RBag w w' [(b1,p.2.2.1,8388611),(b2,p.2.2.2,8388611)]:=by
 obtain⟨A,B,rx,ry⟩:=p;obtain⟨s,t,x1,y1,x2,y2,e1,e2,z1,z2,z3,z4,q1,q2,q3,q4,e3,e4⟩:=hb.ex;have hA:=hb.a;have hB:=hb.b;simp only at e1 e2 e3 e4 hA hB;subst e3;subst e4;have ab:=(gZ hi).1;have ad:=(gZ e1).1;have ae:=(gZ e2).1;obtain⟨HG,HF,HI,HS,HT,N,P⟩:=If (RBag.start hg) M hi e1 e2 (⟨z1,z2,z3,z4⟩:s.x.size<=1048576/\s.y.size<=1048576/\t.x.size<=1048576/\t.y.size<=1048576) (⟨q1,q2,q3,q4⟩:QOf s.x.data.toList x1/\QOf s.y.data.toList y1/\QOf t.x.data.toList x2/\QOf t.y.data.toList y2);have iA:((A:Int)<(J.length:Int)):=by omega
 have iB:((B:Int)<(J.length:Int)):=by omega
 have iI:((i:Int)<(L.length:Int)):=by omega
 clear hg M hi e1 e2 z1 z2 z3 z4 q1 q2 q3 q4 hb;obtain⟨T,Q⟩:=nm w.heap.size;obtain⟨V,hV⟩:=nm (w.alloc (.cells #[.slice Z J.length c1,.slice a2 L.length c2,.slice a3 hs.length c3] 26));have E:=Ua hV;have K:SB V T 26 #[.slice Z J.length c1,.slice a2 L.length c2,.slice a3 hs.length c3]:=by rw[<-hV,<-Q];exact SB.new w _ _
 obtain⟨R,U,rfl,af,u0,u1⟩:=(HF.o.below E.o).j.spot HS.o;obtain⟨ag,ah,e',_,u2,u3⟩:=(HF.o.below E.o).j.spot HT.o;cases e';obtain⟨W,bo,rfl,ai,f2,f3,_⟩:=(HF.o.below E.o).b.bar HI.o;rw[hA] at f2;rw[hB] at f3;have f0:=K.cell 0;have f1:=K.cell 1;simp at f0 f1;have Y:=K.lt;have aj:V.heap.size≠T:=by omega
 have ak:V.heap.size+1≠T:=by omega
 have al:V.heap.size≠R:=by omega
 have am:V.heap.size+1≠R:=by omega
 have an:V.heap.size≠W:=by omega
 have ao:V.heap.size+1≠W:=by omega
 obtain⟨HV,aa⟩:=Ia hV Q;clear hV Q K hA hB Y;go_enter func93,ntmps93;go_wp2_with fail;rw[HV.o];simp only[aa.o];go_region_held3 (fun v=>v.cell? ⟨T,0,none⟩=some (.slice (some ⟨R,U,none⟩) J.length c1)/\v.cell? ⟨T,1,none⟩=some (.slice (some ⟨W,bo,none⟩) L.length c2)/\v.cell? ⟨W,bo+i*6,none⟩=some (.int .i64 (A:Nat))/\v.cell? ⟨W,bo+i*6+1,none⟩=some (.int .i64 (B:Nat))/\v.cell? ⟨R,U+A*2,none⟩=some (.string s.x)/\v.cell? ⟨R,U+A*2+1,none⟩=some (.string s.y)/\v.cell? ⟨R,U+B*2,none⟩=some (.string t.x)/\v.cell? ⟨R,U+B*2+1,none⟩=some (.string t.y)) ((first|(simp [*];done)|go_keep)) (fail)
 .
  obtain⟨X,F⟩:=nm (((V.alloc (.cells #[.string s.x,.string s.y] 56)).alloc (.cells #[.string t.x,.string t.y] 56)).drew);have G:Below V.heap.size V X:=by rw[<-F];exact((bR.alloc lZ _).alloc (by simp) _).drew
  have C:SB X (V.heap.size) 56 #[.string s.x,.string s.y]:=by rw[<-F];exact((SB.new V _ _).alloc _)
  have D:SB X (V.heap.size+1) 56 #[.string t.x,.string t.y]:=by rw[<-F];exact Qan V _ _ _
  obtain⟨g,h⟩:=Ia C D;have H:O (Below w.heap.size w X):=Hi (E.o.trans (G.mono E.o.size));have d:O (RBag X X []):=Hi (HG.o.below H.o).rebase;have k:=C.cell 0;have l:=C.cell 1;have r:=D.cell 0;have u:=D.cell 1;simp at k l r u;have S:=Hi F;clear G C D F f0 f1 f2 f3 u0 u1 u2 u3;rw[S.o];go_wp2_with fail;go_region_held3 (fun v=>v.cell? ⟨V.heap.size,0,none⟩=some (.string s.x)/\v.cell? ⟨V.heap.size,1,none⟩=some (.string s.y)/\v.cell? ⟨V.heap.size+1,0,none⟩=some (.string t.x)/\v.cell? ⟨V.heap.size+1,1,none⟩=some (.string t.y)) ((first|(simp [*];done)|go_keep)) (first
   |
    (go_at_call_of 33 (Value.string t.x)
     apply cM;apply RBag.of (w0:=X) (n:=1048576) t.x;(first|exact d.o|exact d.o.drew);exact N.o.2.2.1;omega;rintro e I ⟨q,z,b1,rfl,c⟩;rw[z.inj P.o.2.2.1] at c;clear d k l r u;have d:=Hi c;clear z c;have k:=(g.o.below d.o.base g.o.lt).cell 0;have l:=(g.o.below d.o.base g.o.lt).cell 1;have r:=(h.o.below d.o.base h.o.lt).cell 0;have u:=(h.o.below d.o.base h.o.lt).cell 1;simp at k l r u
     skip)
   |
    (go_at_call_of 33 (Value.string s.x)
     apply cM;apply RBag.of (w0:=X) (n:=1048576) s.x;(first|exact d.o|exact d.o.drew);exact N.o.1;omega;rintro e I ⟨q,z,b2,rfl,c⟩;rw[z.inj P.o.1] at c;clear d k l r u;have d:=Hi c;clear z c;have k:=(g.o.below d.o.base g.o.lt).cell 0;have l:=(g.o.below d.o.base g.o.lt).cell 1;have r:=(h.o.below d.o.base h.o.lt).cell 0;have u:=(h.o.below d.o.base h.o.lt).cell 1;simp at k l r u
     skip)
   |
    (go_at_call_of 90 (Value.pointer (some ⟨b1,0,none⟩))
     apply cM;apply RBag.sub (w0:=X);(first|exact d.o|exact d.o.drew);(focus(repeat(first|exact mH|apply mT)));(focus(repeat(first|exact mH|apply mT)));omega;rintro e I ⟨b3,rfl,c⟩;clear d k l r u;have d:=Hi c;clear c;have k:=(g.o.below d.o.base g.o.lt).cell 0;have l:=(g.o.below d.o.base g.o.lt).cell 1;have r:=(h.o.below d.o.base h.o.lt).cell 0;have u:=(h.o.below d.o.base h.o.lt).cell 1;simp at k l r u
     skip)
   |
    (go_at_call_of 33 (Value.string t.y)
     apply cM;apply RBag.of (w0:=X) (n:=1048576) t.y;(first|exact d.o|exact d.o.drew);exact N.o.2.2.2;omega;rintro e I ⟨q,z,b4,rfl,c⟩;rw[z.inj P.o.2.2.2] at c;clear d k l r u;have d:=Hi c;clear z c;have k:=(g.o.below d.o.base g.o.lt).cell 0;have l:=(g.o.below d.o.base g.o.lt).cell 1;have r:=(h.o.below d.o.base h.o.lt).cell 0;have u:=(h.o.below d.o.base h.o.lt).cell 1;simp at k l r u
     skip)
   |
    (go_at_call_of 33 (Value.string s.y)
     apply cM;apply RBag.of (w0:=X) (n:=1048576) s.y;(first|exact d.o|exact d.o.drew);exact N.o.2.1;omega;rintro e I ⟨q,z,b5,rfl,c⟩;rw[z.inj P.o.2.1] at c;clear d k l r u;have d:=Hi c;clear z c;have k:=(g.o.below d.o.base g.o.lt).cell 0;have l:=(g.o.below d.o.base g.o.lt).cell 1;have r:=(h.o.below d.o.base h.o.lt).cell 0;have u:=(h.o.below d.o.base h.o.lt).cell 1;simp at k l r u
     skip)
   |
    (go_at_call_of 90 (Value.pointer (some ⟨b4,0,none⟩))
     apply cM;apply RBag.sub (w0:=X);(first|exact d.o|exact d.o.drew);(focus(repeat(first|exact mH|apply mT)));(focus(repeat(first|exact mH|apply mT)));omega;rintro e I ⟨b6,rfl,c⟩;clear d k l r u;have d:=Hi c;clear c;have k:=(g.o.below d.o.base g.o.lt).cell 0;have l:=(g.o.below d.o.base g.o.lt).cell 1;have r:=(h.o.below d.o.base h.o.lt).cell 0;have u:=(h.o.below d.o.base h.o.lt).cell 1;simp at k l r u
     skip)
   |fail)
  all_goals
   clear k l r u;go_wp2;go_ret2;refine⟨b3,b6,rfl,(by first|exact d.o|exact d.o.drew:RBag X _ _).mono H.o (fun f M=>?_)⟩;simp only[List.mem_cons,List.not_mem_nil,or_false] at M;rcases M with rfl|rfl
   .
    exact⟨_,(by
     (focus(repeat(first|exact mH|apply mT)))
     skip),Nat.le_refl _⟩
   .
    exact⟨_,(by
     (focus(repeat(first|exact mH|apply mT)))
     skip),Nat.le_refl _⟩
 .
  obtain⟨X,F⟩:=nm (((V.alloc (.cells #[.string t.x,.string t.y] 56)).alloc (.cells #[.string s.x,.string s.y] 56)).drew);have G:Below V.heap.size V X:=by rw[<-F];exact((bR.alloc lZ _).alloc (by simp) _).drew
  have C:SB X (V.heap.size+1) 56 #[.string s.x,.string s.y]:=by rw[<-F];exact Qan V _ _ _
  have D:SB X (V.heap.size) 56 #[.string t.x,.string t.y]:=by rw[<-F];exact((SB.new V _ _).alloc _)
  obtain⟨g,h⟩:=Ia C D;have H:O (Below w.heap.size w X):=Hi (E.o.trans (G.mono E.o.size));have d:O (RBag X X []):=Hi (HG.o.below H.o).rebase;have k:=C.cell 0;have l:=C.cell 1;have r:=D.cell 0;have u:=D.cell 1;simp at k l r u;have S:=Hi F;clear G C D F f0 f1 f2 f3 u0 u1 u2 u3;rw[S.o];go_wp2_with fail;go_region_held3 (fun v=>v.cell? ⟨V.heap.size+1,0,none⟩=some (.string s.x)/\v.cell? ⟨V.heap.size+1,1,none⟩=some (.string s.y)/\v.cell? ⟨V.heap.size,0,none⟩=some (.string t.x)/\v.cell? ⟨V.heap.size,1,none⟩=some (.string t.y)) ((first|(simp [*];done)|go_keep)) (first
   |
    (go_at_call_of 33 (Value.string t.x)
     apply cM;apply RBag.of (w0:=X) (n:=1048576) t.x;(first|exact d.o|exact d.o.drew);exact N.o.2.2.1;omega;rintro e I ⟨q,z,b1,rfl,c⟩;rw[z.inj P.o.2.2.1] at c;clear d k l r u;have d:=Hi c;clear z c;have k:=(g.o.below d.o.base g.o.lt).cell 0;have l:=(g.o.below d.o.base g.o.lt).cell 1;have r:=(h.o.below d.o.base h.o.lt).cell 0;have u:=(h.o.below d.o.base h.o.lt).cell 1;simp at k l r u
     skip)
   |
    (go_at_call_of 33 (Value.string s.x)
     apply cM;apply RBag.of (w0:=X) (n:=1048576) s.x;(first|exact d.o|exact d.o.drew);exact N.o.1;omega;rintro e I ⟨q,z,b2,rfl,c⟩;rw[z.inj P.o.1] at c;clear d k l r u;have d:=Hi c;clear z c;have k:=(g.o.below d.o.base g.o.lt).cell 0;have l:=(g.o.below d.o.base g.o.lt).cell 1;have r:=(h.o.below d.o.base h.o.lt).cell 0;have u:=(h.o.below d.o.base h.o.lt).cell 1;simp at k l r u
     skip)
   |
    (go_at_call_of 90 (Value.pointer (some ⟨b1,0,none⟩))
     apply cM;apply RBag.sub (w0:=X);(first|exact d.o|exact d.o.drew);(focus(repeat(first|exact mH|apply mT)));(focus(repeat(first|exact mH|apply mT)));omega;rintro e I ⟨b3,rfl,c⟩;clear d k l r u;have d:=Hi c;clear c;have k:=(g.o.below d.o.base g.o.lt).cell 0;have l:=(g.o.below d.o.base g.o.lt).cell 1;have r:=(h.o.below d.o.base h.o.lt).cell 0;have u:=(h.o.below d.o.base h.o.lt).cell 1;simp at k l r u
     skip)
   |
    (go_at_call_of 33 (Value.string t.y)
     apply cM;apply RBag.of (w0:=X) (n:=1048576) t.y;(first|exact d.o|exact d.o.drew);exact N.o.2.2.2;omega;rintro e I ⟨q,z,b4,rfl,c⟩;rw[z.inj P.o.2.2.2] at c;clear d k l r u;have d:=Hi c;clear z c;have k:=(g.o.below d.o.base g.o.lt).cell 0;have l:=(g.o.below d.o.base g.o.lt).cell 1;have r:=(h.o.below d.o.base h.o.lt).cell 0;have u:=(h.o.below d.o.base h.o.lt).cell 1;simp at k l r u
     skip)
   |
    (go_at_call_of 33 (Value.string s.y)
     apply cM;apply RBag.of (w0:=X) (n:=1048576) s.y;(first|exact d.o|exact d.o.drew);exact N.o.2.1;omega;rintro e I ⟨q,z,b5,rfl,c⟩;rw[z.inj P.o.2.1] at c;clear d k l r u;have d:=Hi c;clear z c;have k:=(g.o.below d.o.base g.o.lt).cell 0;have l:=(g.o.below d.o.base g.o.lt).cell 1;have r:=(h.o.below d.o.base h.o.lt).cell 0;have u:=(h.o.below d.o.base h.o.lt).cell 1;simp at k l r u
     skip)
   |
    (go_at_call_of 90 (Value.pointer (some ⟨b4,0,none⟩))
     apply cM;apply RBag.sub (w0:=X);(first|exact d.o|exact d.o.drew);(focus(repeat(first|exact mH|apply mT)));(focus(repeat(first|exact mH|apply mT)));omega;rintro e I ⟨b6,rfl,c⟩;clear d k l r u;have d:=Hi c;clear c;have k:=(g.o.below d.o.base g.o.lt).cell 0;have l:=(g.o.below d.o.base g.o.lt).cell 1;have r:=(h.o.below d.o.base h.o.lt).cell 0;have u:=(h.o.below d.o.base h.o.lt).cell 1;simp at k l r u
     skip)
   |fail)
  all_goals
   clear k l r u;go_wp2;go_ret2;refine⟨b3,b6,rfl,(by first|exact d.o|exact d.o.drew:RBag X _ _).mono H.o (fun f M=>?_)⟩;simp only[List.mem_cons,List.not_mem_nil,or_false] at M;rcases M with rfl|rfl
   .
    exact⟨_,(by
     (focus(repeat(first|exact mH|apply mT)))
     skip),Nat.le_refl _⟩
   .
    exact⟨_,(by
     (focus(repeat(first|exact mH|apply mT)))
     skip),Nat.le_refl _⟩
structure PBlk (w:Vz) (g:Nat) (ts:List RT):Prop where
 blk:SB w g 84 (ts.map ptrV).toArray
 vs:RVs w ts
theorem PBlk.below{w w':Vz}{g:Nat}{ts:List RT}(h:PBlk w g ts)(a:Below w.heap.size w w'):PBlk w' g ts:=⟨h.blk.below a h.blk.lt,h.vs.below a⟩
theorem PBlk.cell{w:Vz}{g i:Nat}{ts:List RT}{t:RT}(h:PBlk w g ts)(a:ts[i]?=some t):w.cell? ⟨g,i,none⟩=some (.pointer (some ⟨t.1,0,none⟩)):=by
 rw[h.blk.cell];simp[a,ptrV]
theorem PBlk.row{w:Vz}{g:Nat}{ts:List RT}(h:PBlk w g ts):PRow w (some ⟨g,0,none⟩) ts:=⟨⟨fun j u a=>⟨g,0,rfl,h.blk.lt,by rw[Nat.zero_add,h.blk.cell];simpa using a⟩⟩,h.vs⟩
theorem PBlk.set{w:Vz}{g i b k:Nat}{q:Rat}{ts:List RT}(h:PBlk w g ts)(d:RatVal w b q)(e:Fits q k)(hk:0<k):PBlk (w.setCell ⟨g,i,none⟩ (.pointer (some ⟨b,0,none⟩))) g (ts.set i (b,q,k)):=by
 have f:Only g w (w.setCell ⟨g,i,none⟩ (.pointer (some ⟨b,0,none⟩))):=(Only.refl g w).setCell _ _;have c:=Fp.of_only f h.blk (fun u j=>Qcj ts u (by simpa using j));refine⟨?_,fun t a=>?_⟩
 .
  have:=h.blk.set i (.pointer (some ⟨b,0,none⟩));rw[List.map_set]
  simpa [ptrV] using this
 .
  rcases List.mem_or_eq_of_mem_set a with a|rfl
  . exact(h.vs.fp c) t a
  . exact⟨d.fp c,e,hk⟩
theorem Qps(n:Nat):madeCells (Value.cells (.pointer none)) n=(List.replicate n (Value.pointer none)).toArray:=by
 have e:Value.cells (.pointer none)=#[.pointer none]:=by rfl
 rw[e];apply Array.ext';rw[toList_madeCells_one]
theorem Qfw(n:Nat)(e:n<=1048576)(w:Vz):(Instr.makeSlice 52 (.int .i64 n) (.int .i64 n)).run prog w=.ok (.slice (some ⟨w.heap.size,0,.none⟩) n n) (w.alloc (.cells (List.replicate n (Value.pointer none)).toArray 84)):=by
 obtain⟨i,a,h⟩:=Option.map_eq_some_iff.1 Qkd;simp only[Prod.mk.injEq] at h;obtain⟨b,c,d⟩:=h;have:=run_make w 52 84 i _ underlying52 a b .i64 .i64 n n (by omega) (by omega) (by rw[d];omega) (by omega);rw[Int.toNat_natCast,c,Nat.mul_one,Qps] at this;exact this
theorem Qpt{n k:Nat}{x z:Value}{l:Vv}(hk:k<n)(hl:l.length=k):(l++List.replicate (n - k) z).set k x=(l++ [x])++List.replicate (n - (k+1)) z:=by
 rw[show n - k=(n - (k+1))+1 by omega,List.replicate_succ,List.set_append_right _ _ (by omega),hl,Nat.sub_self,List.set_cons_zero];simp
structure Noughts (w:Vz) (g n k:Nat) (ts:List RT):Prop where
 blk:SB w g 84 (ts.map ptrV++List.replicate (n - k) (Value.pointer none)).toArray
 vs:RVs w ts
 len:ts.length=k
 zero:∀t,t∈ ts->t.2.1=0/\t.2.2=1
theorem Noughts.below{w w':Vz}{g n k:Nat}{ts:List RT}(h:Noughts w g n k ts)(a:Below w.heap.size w w'):Noughts w' g n k ts:=⟨h.blk.below a h.blk.lt,h.vs.below a,h.len,h.zero⟩
theorem Noughts.step{w:Vz}{g n k b:Nat}{ts:List RT}(h:Noughts w g n k ts)(hk:k<n)(e:RatVal w b 0):Noughts (w.setCell ⟨g,k,none⟩ (.pointer (some ⟨b,0,none⟩))) g n (k+1) (ts++ [(b,0,1)]):=by
 have f:Only g w (w.setCell ⟨g,k,none⟩ (.pointer (some ⟨b,0,none⟩))):=(Only.refl g w).setCell _ _;have d:=Fp.of_only f h.blk (fun u c=>by
  simp only[List.toList_toArray,List.mem_append] at c;rcases c with c|c
  . exact Qcj ts u c
  . obtain⟨_,rfl⟩:=List.mem_replicate.1 c
    exact⟨_,rfl⟩)
 refine⟨?_,fun t a=>?_,by simp[h.len],fun t a=>?_⟩
 .
  have:=h.blk.set k (.pointer (some ⟨b,0,none⟩));rw[List.setIfInBounds_toArray,Qpt hk (by rw[List.length_map];exact h.len)] at this;rw[List.map_append];exact this
 .
  rcases List.mem_append.1 a with a|a
  . exact(h.vs.fp d) t a
  . obtain rfl:=List.mem_singleton.1 a
    exact⟨e.fp d,Fits.zero,Nat.one_pos⟩
 .
  rcases List.mem_append.1 a with a|a
  . exact h.zero t a
  . obtain rfl:=List.mem_singleton.1 a
    exact⟨rfl,rfl⟩
structure LVal (ls:List L3) (vs:List (Nat × Rat × Rat)):Prop where
 len:vs.length=ls.length
 at_:∀(i:Nat) (l:L3) (p:Nat × Rat × Rat),ls[i]?=some l->vs[i]?=some p->p.1=l.j.toNat/\QOf l.x.data.toList p.2.1/\QOf l.y.data.toList p.2.2/\l.x.size<=1048576/\l.y.size<=1048576
theorem LVal.ex(a:List L3)(g:∀l,l∈ a->l.x.size<=1048576/\l.y.size<=1048576):∃vs,LVal a vs:=by
 have h:∀i:Nat,∃p:Nat × Rat × Rat,∀l,a[i]?=some l->p.1=l.j.toNat/\QOf l.x.data.toList p.2.1/\QOf l.y.data.toList p.2.2/\l.x.size<=1048576/\l.y.size<=1048576:=fun i=>by
  rcases hi:a[i]? with _|l
  . exact⟨(0,0,0),fun b k=>by cases k⟩
  .
   obtain⟨x,m⟩:=QOf.ex l.x.data.toList;obtain⟨y,n⟩:=QOf.ex l.y.data.toList;have z:=g l (mO hi);exact⟨(l.j.toNat,x,y),fun b e=>by cases e;exact⟨rfl,m,n,z⟩⟩
 obtain⟨f,o⟩:=Classical.axiomOfChoice h;refine⟨(List.range a.length).map f,by simp,fun i l p hl d=>?_⟩;have c:=(gZ hl).1;rw[List.getElem?_map,List.getElem?_range c] at d;obtain rfl:=Option.some.inj d;exact o i l hl
theorem LVal.loadV{a:List L3}{vs:List (Nat × Rat × Rat)}(h:LVal a vs){n:Nat}(b:∀(i:Nat) (x:L3),a[i]?=some x->IsJ n x.j):∀(i:Nat) (l:L3) (p:Nat × Rat × Rat),a[i]?=some l->vs[i]?=some p->LoadV n l p:=fun i l p hl c=>by
 obtain⟨d,e,f,g,k⟩:=h.at_ i l p hl c;obtain⟨m,o⟩:=b i l hl;exact⟨by rw[d];omega,by omega,e,f,g,k⟩
abbrev kL(k:Nat):Nat:=k*4194306+1
theorem Qpu(m:Nat):kL (m+1)=kL m+4194306:=by
 show (m+1)*4194306+1=m*4194306+1+4194306
 omega
def LoadsSays(nj en:Nat)(ls:List L3)(vs:List (Nat × Rat × Rat))(w:Vz)(e:Ending)(w':Vz):Prop:=
 Below w.heap.size w w'/\∃c at_:Int,LoadsFault nj en ls c at_/\((c≠0/\e=.returned (.tuple #[.slice none 0 0,.agg #[.int .i64 c,.int .i64 at_]]))∨
  (c=0/\∃(g N:Nat) (ts:List RT),N=2*nj/\e=.returned (.tuple #[.slice (some ⟨g,0,none⟩) N N,.agg #[.int .i64 0,.int .i64 0]])/\PBlk w' g ts/\ts.length=N/\∀(i:Nat) (t:RT),ts[i]?=some t->t.2.1= -agn vs i/\t.2.2<=kL 20))
structure LSum (w:Vz) (g N k:Nat) (vs:List (Nat × Rat × Rat)) (ts:List RT):Prop where
 blk:PBlk w g ts
 len:ts.length=N
 q:∀(i:Nat) (t:RT),ts[i]?=some t->t.2.1= -agn (vs.take k) i/\t.2.2<=kL k
theorem LSum.start{w:Vz}{g N:Nat}{vs:List (Nat × Rat × Rat)}{ts:List RT}(h:Noughts w g N N ts):LSum w g N 0 vs ts:=by
 refine⟨⟨?_,h.vs⟩,h.len,fun i t a=>?_⟩
 .
  have:=h.blk;rw[Nat.sub_self] at this
  simpa using this
 .
  obtain⟨b,c⟩:=h.zero t (mO a);rw[b,c];exact⟨by simp[agn],by simp[kL]⟩
theorem LSum.step{w:Vz}{g N k b1 b2:Nat}{vs:List (Nat × Rat × Rat)}{ts:List RT}{p:Nat × Rat × Rat}{t u:RT}(h:LSum w g N k vs ts)(o:vs[k]?=some p)(m:ts[2*p.1]?=some t)(n:ts[2*p.1+1]?=some u){w1 w2:Vz}
 (d:Below w.heap.size w w1) (r:RatVal w1 b1 (t.2.1+p.2.1)) (f1:Fits (t.2.1+p.2.1) (kL (k+1)))
 (f:Below w1.heap.size (w1.setCell ⟨g,2*p.1,none⟩ (.pointer (some ⟨b1,0,none⟩))) w2) (v:RatVal w2 b2 (u.2.1+p.2.2)) (f2:Fits (u.2.1+p.2.2) (kL (k+1))):
 LSum (w2.setCell ⟨g,2*p.1+1,none⟩ (.pointer (some ⟨b2,0,none⟩))) g N (k+1) vs ((ts.set (2*p.1) (b1,t.2.1+p.2.1,kL (k+1))).set (2*p.1+1) (b2,u.2.1+p.2.2,kL (k+1))):=by
 have x:=((h.blk.below d).set (i:=2*p.1) r f1 (by simp[kL]));have y:=x.below (by
  have e:(w1.setCell ⟨g,2*p.1,none⟩ (.pointer (some ⟨b1,0,none⟩))).heap.size=w1.heap.size:=by simp[World.setCell]
  rw[e]
  exact f)
 have j:=(gZ m).1;have l:=(gZ n).1;refine⟨y.set v f2 (by simp[kL]),by simp[h.len],fun i s a=>?_⟩;rw[Qdf o];by_cases b:i=2*p.1+1
 .
  rw[b,List.getElem?_set_self (by rw[List.length_set];exact l)] at a;obtain rfl:=Option.some.inj a;rw[b,agn_y];refine⟨?_,Nat.le_refl _⟩;simp only;rw[(h.q _ _ n).1];grind
 .
  rw[List.getElem?_set_ne (Ne.symm b)] at a;by_cases c:i=2*p.1
  .
   rw[c,List.getElem?_set_self j] at a;obtain rfl:=Option.some.inj a;rw[c,agn_x];refine⟨?_,Nat.le_refl _⟩;simp only;rw[(h.q _ _ m).1];grind
  .
   rw[List.getElem?_set_ne (Ne.symm c)] at a;obtain⟨z,A⟩:=h.q i s a;refine⟨?_,Nat.le_trans A (by simp only[kL];omega)⟩;rw[z];unfold agnStep;rw[Qad _ _ b,Qad _ _ c]
theorem Qpv(a1 a2 a3 al:Vx)(c1 c2 c3 cl nj nb nh:Nat)(G:List L3)(vs:List (Nat × Rat × Rat))(w:Vz)(hg:∃m,w.cell? ⟨4,0,none⟩=some (.int .i64 m))(hl:ARow L3.cells w al cl G)(hv:LVal G vs)(n1:nj<=10)(n2:nb<=24)(n3:nh<=20)(c8:G.length<=1048576):
 Calls prog 56 #[.agg #[.slice a1 nj c1,.slice a2 nb c2,.slice a3 nh c3],.slice al G.length cl] w (LoadsSays nj (nb+nh) G vs w):=by
 obtain⟨HL,HV,HG⟩:=Ib hl hv (RBag.start hg);clear hl hv hg;obtain⟨F,af⟩:=nm w.heap.size;obtain⟨V,hV⟩:=nm ((w.alloc (.cells #[.slice a1 nj c1,.slice a2 nb c2,.slice a3 nh c3] 26)).alloc (.cells #[.int .i64 0,.int .i64 0] 31));have A:=Ub hV;have H:=Ug hV af;have I:=Uh hV af;obtain⟨ak,am⟩:=Ia hV af;have cc:O (V.heap.size=F+1+1):=Hi (by rw[<-hV,<-af];simp);have L:w.heap.size<=F+1:=by omega
 clear hV af;go_enter func56,ntmps56;by_cases cd:20<G.length
 .
  have q0:((G.length:Int) > 20):=by omega
  obtain⟨x0,x1,x2,-⟩:=zc (H.o.below bR H.o.lt);have an:=Hi (Qen a1 a2 a3 c1 c2 c3 nj nb nh V n2 n3);rw[<-ak.o] at x0 x1 x2;rw[<-am.o] at x0 x1 x2;go_wp2_with fail;rw[ak.o];simp only[am.o];clear x0 x1 x2;go_fit an.o;rintro e v1 ⟨rfl,M⟩;obtain⟨ag,r⟩:=Ia (ref_F 2 ((nb:Int)+(nh:Int)) v1) M;clear M;go_wp2_with fail;go_fit ag.o;rintro e v2 ⟨rfl,P⟩;have D:=Hi (r.o.trans (P.mono r.o.size));clear P;have c:=I.o.below D.o I.o.lt;obtain⟨z0,z1,-⟩:=zc c;have f0:=c.free 0;have f1:=c.free 1;have Q:=Hi c;clear c;go_wp2
  refine bodyPost_ret (Qbe rfl _ _ (F+1) 31 #[.int .i64 (2),.int .i64 ((nb:Int)+(nh:Int))] (0,0) _ rfl ((Q.o.set 0 _).set 1 _) underlying31 rfl Tryz.faultInfo) rfl ?_;refine⟨((A.o.trans (D.o.mono A.o.size)).setCell (p:=⟨F+1,0,none⟩) L _).setCell (p:=⟨F+1,1,none⟩) L _,2,_,.inl ⟨cd,rfl,?_⟩,.inl ⟨by decide,rfl⟩⟩;omega
 .
  have q0:¬((G.length:Int) > 20):=by omega
  obtain⟨N,hN⟩:=nm (2*nj);have eN:IntKind.i64.wrap (2*(nj:Int))=(N:Int):=by rw[wrap_i64 _ (by omega) (by omega)];omega
  have bj:=fun w=>Qfw N (by omega) w
  obtain⟨MC,a0⟩:=nm ((List.replicate N (Value.pointer none)).toArray);rw[a0] at bj;obtain⟨V1,ao⟩:=nm (V.alloc (.cells MC 84));obtain⟨g,ap⟩:=nm V.heap.size;have bk:=Ua ao;have cf:O (Noughts V1 g N 0 []):=Hi ⟨by rw[<-ao,<-ap,<-a0];exact SB.new V _ _,(fun t ht=>by cases ht),rfl,(fun t ht=>by cases ht)⟩;have a4:=Hi hN;have c6:N<=20:=by omega
  obtain⟨cg,a5⟩:=Ia ao ap;have bl:O (F+1+1=g):=Hi (by rw[<-ap];exact cc.o.symm);obtain⟨x0,x1,x2,-⟩:=zc (H.o.below bR H.o.lt);rw[<-ak.o] at x0 x1 x2;rw[<-am.o] at x0 x1 x2;clear hN a0 ao ap;go_wp2_with fail;rw[ak.o,cg.o];simp only[am.o];rw[bl.o];clear x0 x1 x2 bj;go_loopw [23] (fun iv wr=>∃(k:Nat) (ts:List RT),k<=N/\iv=.int .i64 k/\Noughts wr g N k ts/\Below V.heap.size V wr) (fun iv _=>N - (intOf iv).toNat)
  case atStart=>exact⟨0,[],Nat.zero_le _,rfl,cf.o,bk.o⟩
  case round=>
   obtain⟨k,ts,hk,rfl,bm,ab⟩:=hrel;obtain⟨bn,z⟩:=Ia bm ab;clear bm ab;by_cases ch:k<N
   .
    have q1:((k:Int)<(N:Int)):=by omega
    have ci:=Hi (RBag.nought ((HG.o.below (A.o.trans (z.o.mono A.o.size))).rebase));go_wp2_with fail;go_fit ci.o;rintro e w2 ⟨b,rfl,a⟩;have D:=Hi a.base;have cj:=Hi (a.ts _ (List.Mem.head _)).1;have ad:=bn.o.below a.base;have f0:=ad.blk.free k;have t0:w2.cell? ⟨g,k,none⟩=some (.pointer none):=by
     rw[ad.blk.cell];have e:(ts.map ptrV++List.replicate (N - k) (Value.pointer none)).toArray[k]?=(ts.map ptrV++List.replicate (N - k) (Value.pointer none))[k]?:=by simp
     rw[e,List.getElem?_append_right (by rw[List.length_map,ad.len];exact Nat.le_refl _),List.length_map,ad.len,Nat.sub_self,List.getElem?_replicate,if_pos (by omega)]
    have ck:=Hi ad;clear a ad;go_wp2;go_roundw
    case rel=>exact⟨k+1,_,by omega,by go_num,ck.o.step ch cj.o,(z.o.trans (D.o.mono z.o.size)).setCell (p:=⟨g,k,none⟩) (show V.heap.size<=g by have:=a5.o;omega) _⟩
    case measure=>simp[intOf];omega
   .
    obtain rfl:k=N:=by omega
    have f:=Hi (LSum.start (vs:=vs) bn.o);go_wp2_with fail;go_loopw [33] (fun iv wr=>∃(m:Nat) (ts:List RT),m<=G.length/\iv=.int .i64 m/\LSum wr g k m vs ts/\(∀(i:Nat) (x:L3),i<m->G[i]?=some x->IsJ nj x.j)/\Below V.heap.size V wr) (fun iv _=>G.length - (intOf iv).toNat)
    case atStart=>exact⟨0,ts,Nat.zero_le _,rfl,f.o,fun i x hi=>absurd hi (Nat.not_lt_zero _),z.o⟩
    case round=>
     obtain⟨m,ts,hm,rfl,bo,ay,ab⟩:=hrel;obtain⟨f,aq,z,U⟩:=Ic bo ay ab (A.o.trans (ab.mono A.o.size));clear bo ay ab;by_cases cm:m<G.length
     .
      obtain⟨l,hl⟩:∃l,G[m]?=some l:=⟨G[m],gE cm⟩;obtain⟨p,hp⟩:∃p,vs[m]?=some p:=⟨vs[m]'(by have:=HV.o.len;omega),gE _⟩;obtain⟨br,bs,bt,c9,da⟩:=HV.o.at_ m l p hl hp;obtain⟨lb,lo,rfl,db,d0,d1,d2⟩:=(HL.o.below U.o).load hl;have q1:((m:Int)<(G.length:Int)):=by omega
      obtain⟨a6,cn,cp,cq,cr⟩:=Id hl hp bs bt br;clear hl hp bs bt br;by_cases hj:IsJ nj l.j
      .
       obtain⟨cs,ct⟩:=hj;obtain⟨J,hJ⟩:∃J:Nat,l.j=(J:Int):=⟨l.j.toNat,by omega⟩;have HJ:=Hi hJ;have dc:J<nj:=by omega
       have ar:O (p.1=J):=Hi (by have:=cr.o;omega);rw[hJ] at d0;clear cs ct hJ;obtain⟨X0,B⟩:=nm (wr.alloc (.cells #[.int .i64 J,.string l.x,.string l.y] 62));have E:=Ua B;have R:=Uc B;have C:=Hi (z.o.trans (E.o.mono z.o.size));obtain⟨u,-⟩:=zc R.o;obtain⟨x0,x1,x2,-⟩:=zc (H.o.below C.o H.o.lt);have au:=Hi B;rw[<-B] at u x0 x1 x2;clear B;have g1:¬((J:Int)<0):=by omega
       have g2:¬((J:Int)≥(nj:Int)):=by omega
       obtain⟨X,hX⟩:=nm (2*J);obtain⟨Y,hY⟩:=nm (2*J+1);have wX:IntKind.i64.wrap (2*(J:Int))=(X:Int):=by rw[wrap_i64 _ (by omega) (by omega)];omega
       have wY:IntKind.i64.wrap ((X:Int)+1)=(Y:Int):=by rw[wrap_i64 _ (by omega) (by omega)];omega
       have dd:X<k:=by have:=a4.o;omega
       have de:Y<k:=by have:=a4.o;omega
       have iX:(X:Int)<(k:Int):=by omega
       have iY:(Y:Int)<(k:Int):=by omega
       have cu:O (X≠Y):=Hi (by omega);obtain⟨⟨tb,tq,tk⟩,ah⟩:∃t,ts[X]?=some t:=⟨ts[X]'(by have:=f.o.len;omega),gE _⟩;obtain⟨⟨ub,uq,uk⟩,ai⟩:∃t,ts[Y]?=some t:=⟨ts[Y]'(by have:=f.o.len;omega),gE _⟩;obtain⟨KM,ae⟩:=nm (kL m);have df:KM<=83886121:=by rw[<-ae];simp only[kL];omega
       have bu:O (kL (m+1)=KM+4194306):=Hi (by rw[<-ae];exact Qpu m);have a7:tk<=KM:=by rw[<-ae];exact(f.o.q X _ ah).2
       have a8:uk<=KM:=by rw[<-ae];exact(f.o.q Y _ ai).2
       have vt:=f.o.blk.vs _ (mO ah);have vu:=f.o.blk.vs _ (mO ai);have a9:O (RatVal wr tb tq/\Fits tq KM/\0<KM):=Hi ⟨vt.1,vt.2.1.mono a7,Nat.lt_of_lt_of_le vt.2.2 a7⟩;have bv:O (RatVal wr ub uq/\Fits uq KM/\0<KM):=Hi ⟨vu.1,vu.2.1.mono a8,Nat.lt_of_lt_of_le vu.2.2 a8⟩;have cv:O (ts[2*p.1]?=some (tb,tq,tk)):=Hi (by rw[ar.o,hX];exact ah);have bw:O (ts[2*p.1+1]?=some (ub,uq,uk)):=Hi (by rw[ar.o,hY];exact ai);have bx:O (2*p.1=X):=Hi (by rw[ar.o,hX]);have bz:O (2*p.1+1=Y):=Hi (by rw[ar.o,hY]);have ba:O (X0.cell? ⟨g,X,none⟩=some (.pointer (some ⟨tb,0,none⟩))):=Hi ((f.o.blk.below E.o).cell ah);have av:O (wr.cell? ⟨g,Y,none⟩=some (.pointer (some ⟨ub,0,none⟩))):=Hi (f.o.blk.cell ai);have W:O (X0.cell? ⟨wr.heap.size,0,none⟩=some (.int .i64 (J:Int))):=Hi (R.o.cell 0)
       have bb:O (X0.cell? ⟨wr.heap.size,1,none⟩=some (.string l.x)):=Hi (R.o.cell 1);have b0:g<X0.heap.size:=(f.o.blk.below E.o).blk.lt;have b4:=R.o.lt;have s:O (RBag X0 X0 [(tb,tq,KM)]):=Hi (((HG.o.below (U.o.trans (E.o.mono U.o.size))).rebase).put (a9.o.1.below E.o) a9.o.2.1 a9.o.2.2);have dg:=Hi ae;clear hX hY ah ai ae a7 a8 vt vu;go_wp2_with fail;rw[au.o];clear u x0 x1 x2 d0 d1 d2;have u:=W.o;have c1:=bb.o;have o0:=ba.o;refine AnyBut.begin (S:=fun w':World=>w'.cell? ⟨wr.heap.size,0,none⟩=some (.int .i64 (J:Int))/\w'.cell? ⟨wr.heap.size,1,none⟩=some (.string l.x)/\w'.cell? ⟨g,X,none⟩=some (.pointer (some ⟨tb,0,none⟩))) (k:=16) (by kernel_rfl) ?_
       have d:(fun w':World=>w'.cell? ⟨wr.heap.size,0,none⟩=some (.int .i64 (J:Int))/\w'.cell? ⟨wr.heap.size,1,none⟩=some (.string l.x)/\w'.cell? ⟨g,X,none⟩=some (.pointer (some ⟨tb,0,none⟩))) X0.drew:=⟨u,c1,o0⟩;refine Plan.of [0,1,2,3,4,5,6,7,8,9,10,11,12] ?_
       iterate 13
        refine AnyBut.bp (v:=?_) (by rfl) (by kernel_rfl) (by kernel_rfl) (by kernel_rfl) (by kernel_rfl) (by exact fun _ _ _ h=>h) d (Or.inl ⟨by rfl,?_⟩) ?_
        rotate_left 1
        (focus(intro w aa;(try dsimp only at aa);go_simp;(try with_reducible rfl)));(try simp only[Act.put,List.setIfInBounds_toArray,List.set_cons_zero,List.set_cons_succ])
       refine Plan.done ?_;clear d;refine AnyBut.one (i:=13) (by kernel_rfl) rfl (fun K T=>?_);go_simp;apply cM;apply RBag.of (w0:=X0) (n:=1048576);exact s.o.drew;omega;omega;rintro e wo ⟨q,hq,bq,rfl,a⟩;rw[hq.inj cp.o] at a;clear s;have s:=Hi a;clear hq a;clear u c1 o0;obtain⟨u,c1⟩:=Ja s.o.base b4 W.o bb.o;have o0:=ce s.o.base b0 ba.o;refine T.out _ _ (fun _=>⟨u,c1,o0⟩) ?_;clear T K;(try simp only[Act.put,List.setIfInBounds_toArray,List.set_cons_zero,List.set_cons_succ]);refine AnyBut.one (i:=14) (by kernel_rfl) rfl (fun K T=>?_);go_simp;apply cM;apply RBag.add (w0:=X0);exact s.o;(focus(repeat(first|exact mH|apply mT)));(focus(repeat(first|exact mH|apply mT)))
       omega;rintro e wn ⟨b3,rfl,a⟩;clear s;have s:=Hi a;clear a;clear u c1 o0;obtain⟨u,c1⟩:=Ja s.o.base b4 W.o bb.o;have o0:=ce s.o.base b0 ba.o;have f0:=((f.o.blk.below E.o).below s.o.base).blk.free X;refine T.out _ _ (fun _=>⟨u,c1,o0⟩) ?_;clear T K;(try simp only[Act.put,List.setIfInBounds_toArray,List.set_cons_zero,List.set_cons_succ]);have d:(fun w':World=>w'.cell? ⟨wr.heap.size,0,none⟩=some (.int .i64 (J:Int))/\w'.cell? ⟨wr.heap.size,1,none⟩=some (.string l.x)/\w'.cell? ⟨g,X,none⟩=some (.pointer (some ⟨tb,0,none⟩))) wn:=⟨u,c1,o0⟩;refine AnyBut.take (i:=15) (v:=?_) rfl (by kernel_rfl) (by kernel_rfl) (by kernel_rfl) (by kernel_rfl) (fun _ _ _ h=>h) (Or.inl ⟨by rfl,?_⟩) d ?_
       rotate_left 1
       (focus(intro w aa;(try dsimp only at aa);go_simp;(try with_reducible rfl)));(try simp only[Act.put,List.setIfInBounds_toArray,List.set_cons_zero,List.set_cons_succ]);clear d;refine AnyBut.one (i:=16) (by kernel_rfl) rfl (fun K T=>?_);go_simp;refine T.out _ _ (fun h=>absurd rfl h) ?_;clear T K;(try simp only[Act.put,List.setIfInBounds_toArray,List.set_cons_zero,List.set_cons_succ]);refine AnyBut.done (by kernel_rfl) ?_ _;clear u c1 o0 f0;have h1:=s.o.ts _ (List.Mem.head _);have r:=Hi (E.o.trans (s.o.base.mono E.o.size));have b5:O (RatVal wn b3 (tq+p.2.1)):=Hi h1.1;have az:O (Fits (tq+p.2.1) (KM+4194306)):=Hi (h1.2.1.mono (by simp only;omega));obtain⟨Z,hZ⟩:=nm (wn.setCell ⟨g,X,none⟩ (.pointer (some ⟨b3,0,none⟩)));have aj:PBlk Z g (ts.set X (b3,tq+p.2.1,KM+4194306)):=by rw[<-hZ];exact(f.o.blk.below r.o).set h1.1 az.o (by omega)
       have bc:Only g wn Z:=by rw[<-hZ];exact(Only.refl g wn).setCell _ _
       have b7:g<wr.heap.size:=f.o.blk.blk.lt;have aw:=(R.o.below s.o.base R.o.lt).only bc (by omega);have bd:Below w.heap.size w Z:=(U.o.trans (r.o.mono U.o.size)).trans (bc.below (by have e1:=a5.o;have e2:=A.o.size;omega) (Nat.le_trans U.o.size r.o.size));have be:(ts.set X (b3,tq+p.2.1,KM+4194306))[Y]?=some (ub,uq,uk):=by rw[List.getElem?_set_ne cu.o,<-bz.o];exact bw.o
       have b8:=aj.vs _ (mO be);have s:O (RBag Z Z [(ub,uq,KM)]):=Hi ((HG.o.below bd).rebase.put b8.1 bv.o.2.1 bv.o.2.2);have W:O (Z.cell? ⟨wr.heap.size,0,none⟩=some (.int .i64 (J:Int))):=Hi (aw.cell 0);have bf:O (Z.cell? ⟨wr.heap.size,2,none⟩=some (.string l.y)):=Hi (aw.cell 2);have av:O (Z.cell? ⟨g,Y,none⟩=some (.pointer (some ⟨ub,0,none⟩))):=Hi (aj.cell be);have b9:=aw.lt;have ca:=aj.blk.lt;obtain⟨cw,ax,dh⟩:=Ib aj hZ bd;have u:=W.o;have c2:=bf.o;have o1:=av.o;clear h1 aj bc b7 aw bd be b8 hZ;go_wp2_with fail;rw[ax.o];refine AnyBut.begin (S:=fun w':World=>w'.cell? ⟨wr.heap.size,0,none⟩=some (.int .i64 (J:Int))/\w'.cell? ⟨wr.heap.size,2,none⟩=some (.string l.y)/\w'.cell? ⟨g,Y,none⟩=some (.pointer (some ⟨ub,0,none⟩))) (k:=18) (by kernel_rfl) ?_
       have d:(fun w':World=>w'.cell? ⟨wr.heap.size,0,none⟩=some (.int .i64 (J:Int))/\w'.cell? ⟨wr.heap.size,2,none⟩=some (.string l.y)/\w'.cell? ⟨g,Y,none⟩=some (.pointer (some ⟨ub,0,none⟩))) Z.drew:=⟨u,c2,o1⟩;refine Plan.of [0,1,2,3,4,5,6,7,8,9,10,11,12,13,14] ?_
       iterate 15
        refine AnyBut.bp (v:=?_) (by rfl) (by kernel_rfl) (by kernel_rfl) (by kernel_rfl) (by kernel_rfl) (by exact fun _ _ _ h=>h) d (Or.inl ⟨by rfl,?_⟩) ?_
        rotate_left 1
        (focus(intro w aa;(try dsimp only at aa);go_simp;(try with_reducible rfl)));(try simp only[Act.put,List.setIfInBounds_toArray,List.set_cons_zero,List.set_cons_succ])
       refine Plan.done ?_;clear d;refine AnyBut.one (i:=15) (by kernel_rfl) rfl (fun K T=>?_);go_simp;apply cM;apply RBag.of (w0:=Z) (n:=1048576);exact s.o.drew;omega;omega;rintro e wo ⟨q,hq,bq,rfl,a⟩;rw[hq.inj cq.o] at a;clear s;have s:=Hi a;clear hq a;clear u c2 o1;obtain⟨u,c2⟩:=Ja s.o.base b9 W.o bf.o;have o1:=ce s.o.base ca av.o;refine T.out _ _ (fun _=>⟨u,c2,o1⟩) ?_;clear T K;(try simp only[Act.put,List.setIfInBounds_toArray,List.set_cons_zero,List.set_cons_succ]);refine AnyBut.one (i:=16) (by kernel_rfl) rfl (fun K T=>?_);go_simp;apply cM;apply RBag.add (w0:=Z);exact s.o;(focus(repeat(first|exact mH|apply mT)));(focus(repeat(first|exact mH|apply mT)))
       omega;rintro e wm ⟨b6,rfl,a⟩;clear s;have s:=Hi a;clear a;clear u c2 o1;obtain⟨u,c2⟩:=Ja s.o.base b9 W.o bf.o;have o1:=ce s.o.base ca av.o;have f0:=(cw.o.below s.o.base).blk.free Y;refine T.out _ _ (fun _=>⟨u,c2,o1⟩) ?_;clear T K;(try simp only[Act.put,List.setIfInBounds_toArray,List.set_cons_zero,List.set_cons_succ]);have d:(fun w':World=>w'.cell? ⟨wr.heap.size,0,none⟩=some (.int .i64 (J:Int))/\w'.cell? ⟨wr.heap.size,2,none⟩=some (.string l.y)/\w'.cell? ⟨g,Y,none⟩=some (.pointer (some ⟨ub,0,none⟩))) wm:=⟨u,c2,o1⟩;refine AnyBut.take (i:=17) (v:=?_) rfl (by kernel_rfl) (by kernel_rfl) (by kernel_rfl) (by kernel_rfl) (fun _ _ _ h=>h) (Or.inl ⟨by rfl,?_⟩) d ?_
       rotate_left 1
       (focus(intro w aa;(try dsimp only at aa);go_simp;(try with_reducible rfl)));(try simp only[Act.put,List.setIfInBounds_toArray,List.set_cons_zero,List.set_cons_succ]);clear d;refine AnyBut.one (i:=18) (by kernel_rfl) rfl (fun K T=>?_);go_simp;refine T.out _ _ (fun h=>absurd rfl h) ?_;clear T K;(try simp only[Act.put,List.setIfInBounds_toArray,List.set_cons_zero,List.set_cons_succ]);refine AnyBut.done (by kernel_rfl) ?_ _;clear u c2 o1 f0;have h2:=s.o.ts _ (List.Mem.head _);have bg:=f.o.step (b1:=b3) (b2:=b6) (w1:=wn) cn.o cv.o bw.o r.o b5.o (by rw[bu.o];exact az.o) (w2:=wm) (by
        rw[bx.o,ax.o];have e:=s.o.base;have es:Z.heap.size=wn.heap.size:=by rw[<-ax.o];simp[World.setCell]
        rw[es] at e
        exact e) h2.1 (by rw[bu.o];exact h2.2.1.mono (by simp only;omega))
       rw[bz.o,bx.o] at bg;have cx:=Hi bg;have cy:O (Below V.heap.size V (wm.setCell ⟨g,Y,none⟩ (.pointer (some ⟨b6,0,none⟩)))):=Hi (by
        have e1:V.heap.size<=g:=by have:=a5.o;omega
        have b1:Below V.heap.size V wn:=z.o.trans (r.o.mono z.o.size);have b2:Below V.heap.size V Z:=by rw[<-ax.o];exact b1.setCell (p:=⟨g,X,none⟩) e1 _
        exact(b2.trans (s.o.base.mono b2.size)).setCell (p:=⟨g,Y,none⟩) e1 _)
       have cz:O (∀(i:Nat) (x:L3),i<m+1->G[i]?=some x->IsJ nj x.j):=Hi (fun i x hi hx=>by
        by_cases c4:i<m
        . exact aq.o i x c4 hx
        .
         obtain rfl:i=m:=by omega
         obtain rfl:=Option.some.inj (a6.o.symm.trans hx);rw[HJ.o]
         exact⟨by omega,by omega⟩)
       clear h2 bg;go_wp2;go_roundw
       case rel=>exact⟨m+1,_,by omega,by go_num,cx.o,cz.o,cy.o⟩
       case measure=>simp[intOf];omega
      .
       obtain⟨j,bh⟩:=nm l.j;rw[bh] at d0 hj;obtain⟨cb,bi⟩:=Ia bh hj;clear bh;obtain⟨X0,B⟩:=nm (wr.alloc (.cells #[.int .i64 j,.string l.x,.string l.y] 62));have E:=Ua B;have R:=Uc B;have C:=Hi (z.o.trans (E.o.mono z.o.size));obtain⟨u,-⟩:=zc R.o;obtain⟨x0,x1,x2,-⟩:=zc (H.o.below C.o H.o.lt);have au:=Hi B;rw[<-B] at u x0 x1 x2;clear B;have an:=Hi (Qen a1 a2 a3 c1 c2 c3 nj nb nh X0 n2 n3)
       have wS:IntKind.i64.wrap ((nb:Int)+(nh:Int)+(m:Int))=(nb:Int)+(nh:Int)+(m:Int):=wrap_i64 _ (by omega) (by omega);by_cases c7:j<0
       .
        go_wp2_with fail;rw[au.o];clear u x0 x1 x2 d0 d1 d2;go_fit an.o;rintro e v1 ⟨rfl,M⟩;obtain⟨r,ag⟩:=Ia (C.o.trans (M.mono C.o.size)) (ref_F 4 ((nb:Int)+(nh:Int)+(m:Int)) v1);clear M;go_wp2_with fail;go_fit ag.o;rintro e v2 ⟨rfl,P⟩;have D:=Hi (r.o.trans (P.mono r.o.size));clear P;have c:=I.o.below D.o I.o.lt;obtain⟨z0,z1,-⟩:=zc c;have f0:=c.free 0;have f1:=c.free 1;have Q:=Hi c;clear c;go_wp2;refine bodyPost_ret (Qbe rfl _ _ (F+1) 31 #[.int .i64 (4),.int .i64 ((nb:Int)+(nh:Int)+(m:Int))] (0,0) _ rfl ((Q.o.set 0 _).set 1 _) underlying31 rfl Tryz.faultInfo) rfl ?_
        refine⟨((A.o.trans (D.o.mono A.o.size)).setCell (p:=⟨F+1,0,none⟩) L _).setCell (p:=⟨F+1,1,none⟩) L _,4,_,.inr ⟨by omega,.inl ⟨m,l,a6.o,aq.o,fun h=>bi.o (cb.o ▸ h),rfl,?_⟩⟩,.inl ⟨by decide,rfl⟩⟩;omega
       .
        have di:(j≥(nj:Int)):=Int.not_lt.1 fun h=>bi.o ⟨by omega,h⟩
        go_wp2_with fail;rw[au.o];clear u x0 x1 x2 d0 d1 d2;go_fit an.o;rintro e v1 ⟨rfl,M⟩;obtain⟨r,ag⟩:=Ia (C.o.trans (M.mono C.o.size)) (ref_F 4 ((nb:Int)+(nh:Int)+(m:Int)) v1);clear M;go_wp2_with fail;go_fit ag.o;rintro e v2 ⟨rfl,P⟩;have D:=Hi (r.o.trans (P.mono r.o.size));clear P;have c:=I.o.below D.o I.o.lt;obtain⟨z0,z1,-⟩:=zc c;have f0:=c.free 0;have f1:=c.free 1;have Q:=Hi c;clear c;go_wp2;refine bodyPost_ret (Qbe rfl _ _ (F+1) 31 #[.int .i64 (4),.int .i64 ((nb:Int)+(nh:Int)+(m:Int))] (0,0) _ rfl ((Q.o.set 0 _).set 1 _) underlying31 rfl Tryz.faultInfo) rfl ?_
        refine⟨((A.o.trans (D.o.mono A.o.size)).setCell (p:=⟨F+1,0,none⟩) L _).setCell (p:=⟨F+1,1,none⟩) L _,4,_,.inr ⟨by omega,.inl ⟨m,l,a6.o,aq.o,fun h=>bi.o (cb.o ▸ h),rfl,?_⟩⟩,.inl ⟨by decide,rfl⟩⟩;omega
     .
      obtain rfl:m=G.length:=by omega
      have c:=I.o.below z.o I.o.lt;obtain⟨z0,z1,-⟩:=zc c;have f0:=c.free 0;have f1:=c.free 1;have Q:=Hi c;clear c;have c5:O (∀(i:Nat) (t:RT),ts[i]?=some t->t.2.1= -agn vs i/\t.2.2<=kL 20):=Hi (fun i t ht=>by
       obtain⟨h1,h2⟩:=f.o.q i t ht;rw[<-HV.o.len,List.take_length] at h1
       exact⟨h1,Nat.le_trans h2 (by simp only[kL];omega)⟩)
      go_wp2;refine bodyPost_ret (Qbe rfl _ _ (F+1) 31 #[.int .i64 (0),.int .i64 (0)] (0,0) _ rfl ((Q.o.set 0 _).set 1 _) underlying31 rfl Tryz.faultInfo) rfl ?_;have ho:Only (F+1) wr ((wr.setCell ⟨F+1,0,none⟩ (.int .i64 0)).setCell ⟨F+1,1,none⟩ (.int .i64 0)):=((Only.refl _ _).setCell _ _).setCell _ _;refine⟨(U.o.setCell (p:=⟨F+1,0,none⟩) L _).setCell (p:=⟨F+1,1,none⟩) L _,0,0,.inr ⟨by omega,.inr ⟨fun i x hx=>aq.o i x (gZ hx).1 hx,rfl,rfl⟩⟩,.inr ⟨rfl,g,k,ts,a4.o.symm,rfl,⟨f.o.blk.blk.only ho (by have:=bl.o;omega),fun t ht=>?_⟩,f.o.len,c5.o⟩⟩;obtain⟨v1,v2,v3⟩:=f.o.blk.vs t ht;exact⟨v1.only32 ho Q.o (by decide) (fun i n h=>by match i,h with|0,h=>simp at h|1,h=>simp at h|i+2,h=>simp at h),v2,v3⟩
end Go.Proofs.YtppkmifkpjkgpaaGreatDoor
