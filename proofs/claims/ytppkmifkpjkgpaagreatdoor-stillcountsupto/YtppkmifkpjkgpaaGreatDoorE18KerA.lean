import Derived.Test.YtppkmifkpjkgpaaGreatDoorE17StrA
namespace Go.Proofs.YtppkmifkpjkgpaaGreatDoor
open Go.RowKit
open Go.Proofs.Tryz
set_option linter.unusedSimpArgs false
set_option linter.unusedVariables false
set_option maxHeartbeats 8000000
set_option maxRecDepth 1000000
def stretch(p:Nat × Nat × Rat × Rat)(v:Vec):Rat:=p.2.2.1*(v (2*p.2.1) - v (2*p.1))+p.2.2.2*(v (2*p.2.1+1) - v (2*p.1+1))
theorem RBag.all{w0 w:Vz}{L M:List RT}(h:RBag w0 w L)(k:RVs w M):RBag w0 w (L++M):=⟨h.base,h.glob,fun t a=>by
 rcases List.mem_append.1 a with a|a
 . exact h.ts t a
 . exact k t a⟩
theorem Qwm(a1 a2 a3 av:Vx)(c1 c2 c3 cv i K:Nat)(F:List S2)(G:List B6)(hs:List H3)(b:B6)(p:Nat × Nat × Rat × Rat)(j:List RT)(w:Vz)(hg:∃m,w.cell? ⟨4,0,none⟩=some (.int .i64 m))(J:FrRow w a1 a2 a3 c1 c2 c3 F G hs)(hi:G[i]?=some b)(M:BarV 1048576 F b p)(n1:F.length<=10)(n2:G.length<=24)
 (k:PRow w av j) (hl:j.length=2*F.length) (hk:∀t,t∈ j->t.2.2<=K) (hK:4*K<200000000000):
 Calls prog 52 #[.agg #[.slice a1 F.length c1,.slice a2 G.length c2,.slice a3 hs.length c3],.int .i64 i,.slice av j.length cv] w fun e w'=>∃g,e=.returned (.pointer (some ⟨g,0,none⟩))/\RBag w w' [(g,stretch p (qv j),4*K+16777225)]:=by
 have af:=Hi (fun u (hu:Bl w u)=>Qlw a1 a2 a3 c1 c2 c3 i F G hs b p u ((RBag.start hg).below hu).glob (J.below hu) hi M n1 n2);obtain⟨s,t,x1,y1,x2,y2,e1,e2,_⟩:=M.ex;have hA:=M.a;have hB:=M.b;have ao:=(gZ hi).1;have ag:=(gZ e1).1;have ah:=(gZ e2).1;obtain⟨A,B,rx,ry⟩:=p;simp only at hA hB ag ah;obtain⟨⟨g1,q1,k1⟩,I⟩:∃t,j[2*B]?=some t:=⟨j[2*B]'(by omega),gE _⟩;obtain⟨⟨g2,q2,k2⟩,h2⟩:∃t,j[2*A]?=some t:=⟨j[2*A]'(by omega),gE _⟩;obtain⟨⟨g3,q3,k3⟩,h3⟩:∃t,j[2*B+1]?=some t:=⟨j[2*B+1]'(by omega),gE _⟩;obtain⟨⟨g4,q4,k4⟩,h4⟩:∃t,j[2*A+1]?=some t:=⟨j[2*A+1]'(by omega),gE _⟩;have N:=mO I;have P:=mO h2;have Q:=mO h3;have R:=mO h4
 have l1:=hk _ N;have l2:=hk _ P;have l3:=hk _ Q;have l4:=hk _ R;simp only at l1 l2 l3 l4;have ai:O (RVs w [(g1,q1,K),(g2,q2,K),(g3,q3,K),(g4,q4,K)]):=Hi (fun x hx=>by
  simp only[List.mem_cons,List.not_mem_nil,or_false] at hx;rcases hx with rfl|rfl|rfl|rfl
  . exact⟨(k.vs _ N).1,(k.vs _ N).2.1.mono l1,Nat.lt_of_lt_of_le (k.vs _ N).2.2 l1⟩
  . exact⟨(k.vs _ P).1,(k.vs _ P).2.1.mono l2,Nat.lt_of_lt_of_le (k.vs _ P).2.2 l2⟩
  . exact⟨(k.vs _ Q).1,(k.vs _ Q).2.1.mono l3,Nat.lt_of_lt_of_le (k.vs _ Q).2.2 l3⟩
  . exact⟨(k.vs _ R).1,(k.vs _ R).2.1.mono l4,Nat.lt_of_lt_of_le (k.vs _ R).2.2 l4⟩)
 have aj:O (stretch (A,B,rx,ry) (qv j)=rx*(q1 - q2)+ry*(q3 - q4)):=Hi (by
  simp only[stretch]
  rw[qv_at I,qv_at h2,qv_at h3,qv_at h4])
 obtain⟨S,vo,rfl,l,D0⟩:=k.at I;obtain⟨T,U,W,_,D1⟩:=k.at h2;cases W;obtain⟨T,U,W,_,D2⟩:=k.at h3;cases W;obtain⟨T,U,W,_,D3⟩:=k.at h4;cases W;simp only at D0 D1 D2 D3;have iI:((i:Int)<(G.length:Int)):=by omega
 obtain⟨X1,Y⟩:=nm (2*B);obtain⟨X2,Z⟩:=nm (2*A);obtain⟨Y1,aa⟩:=nm (2*B+1);obtain⟨Y2,ab⟩:=nm (2*A+1);rw[Y] at D0;rw[Z] at D1;rw[aa] at D2;rw[ab] at D3;have i1:(X1:Int)<(j.length:Int):=by omega
 have i2:(X2:Int)<(j.length:Int):=by omega
 have i3:(Y1:Int)<(j.length:Int):=by omega
 have i4:(Y2:Int)<(j.length:Int):=by omega
 have w1:IntKind.i64.wrap (2*(B:Int))=(X1:Int):=by rw[wrap_i64 _ (by omega) (by omega)];omega
 have w2:IntKind.i64.wrap (2*(A:Int))=(X2:Int):=by rw[wrap_i64 _ (by omega) (by omega)];omega
 have w3:IntKind.i64.wrap ((X1:Int)+1)=(Y1:Int):=by rw[wrap_i64 _ (by omega) (by omega)];omega
 have w4:IntKind.i64.wrap ((X2:Int)+1)=(Y2:Int):=by rw[wrap_i64 _ (by omega) (by omega)];omega
 clear Y Z aa ab;obtain⟨HF,HI⟩:=Ia J hi;obtain⟨NT,ad⟩:=nm j.length;rw[ad] at i1 i2 i3 i4 ⊢;clear hg J hi M e1 e2 k hl hk I h2 h3 h4 N P Q R l1 l2 l3 l4 ad;obtain⟨B0,H⟩:=nm w.heap.size;obtain⟨V,hV⟩:=nm (w.alloc (.cells #[.slice a1 F.length c1,.slice a2 G.length c2,.slice a3 hs.length c3] 26));have D:=Ua hV;have ae:=Uf hV H;obtain⟨HV,ak,al⟩:=Ib hV H (af.o V D.o);have ap:=D.o.size;clear hV H;go_enter func52,ntmps52;go_wp2_with fail;rw[HV.o];simp only[ak.o];go_fit al.o;rintro e X0 ⟨bx,bv,rfl,c⟩;have C:=c.base;have E:=D.o.trans (C.mono D.o.size)
 obtain⟨-,f1,-⟩:=zc (ae.o.below C ae.o.lt);obtain⟨bb,bo,rfl,aq,f2,f3,_⟩:=(HF.o.below E).b.bar HI.o;rw[hA] at f2;rw[hB] at f3;obtain⟨X,hX⟩:=nm X0.drew;have h:Bl w X:=by rw[<-hX];exact E.drew
 have am:=Hi h;have d:O (RBag X X [(bx,rx,8388611),(bv,ry,8388611),(g1,q1,K),(g2,q2,K),(g3,q3,K),(g4,q4,K)]):=Hi (by
  have I:=RBag.all (L:=[(bx,rx,8388611),(bv,ry,8388611)]) c.rebase (ai.o.below E);rw[<-hX]
  exact I.drew.rebase)
 have n:S<X.heap.size:=by have:=h.size;omega
 obtain⟨q,r,y,z,an⟩:=Id (ce h l D0) (ce h l D1) (ce h l D2) (ce h l D3) hX;clear c C E D0 D1 D2 D3 hA hB hX h;go_wp2_with fail;go_region;rw[an.o];clear f1 f2 f3;obtain⟨d0,d1,d2,d3⟩:=Jc d.o.base n q.o r.o y.o z.o;go_wp2_with fail
 go_region_held3 (fun v=>v.cell? ⟨S,vo+X1,none⟩=some (.pointer (some ⟨g1,0,none⟩))/\v.cell? ⟨S,vo+X2,none⟩=some (.pointer (some ⟨g2,0,none⟩))/\v.cell? ⟨S,vo+Y1,none⟩=some (.pointer (some ⟨g3,0,none⟩))/\v.cell? ⟨S,vo+Y2,none⟩=some (.pointer (some ⟨g4,0,none⟩))) ((first|(simp [*];done)|go_keep)) (first
  |
   (go_at_call_of 90 (Value.pointer (some ⟨g1,0,none⟩))
    apply cM;apply RBag.sub (w0:=X);(first|exact d.o|exact d.o.drew);repeat(first|exact mH|apply mT);omega;rintro e wn ⟨b1,rfl,c⟩;clear d d0 d1 d2 d3;have d:=Hi c;clear c;obtain⟨d0,d1,d2,d3⟩:=Jc d.o.base n q.o r.o y.o z.o
    skip)
  |
   (go_at_call_of 91 (Value.pointer (some ⟨bx,0,none⟩))
    apply cM;apply RBag.mul (w0:=X);(first|exact d.o|exact d.o.drew);repeat(first|exact mH|apply mT);omega;rintro e wn ⟨b2,rfl,c⟩;clear d d0 d1 d2 d3;have d:=Hi c;clear c;obtain⟨d0,d1,d2,d3⟩:=Jc d.o.base n q.o r.o y.o z.o
    skip)
  |
   (go_at_call_of 90 (Value.pointer (some ⟨g3,0,none⟩))
    apply cM;apply RBag.sub (w0:=X);(first|exact d.o|exact d.o.drew);repeat(first|exact mH|apply mT);omega;rintro e wn ⟨b3,rfl,c⟩;clear d d0 d1 d2 d3;have d:=Hi c;clear c;obtain⟨d0,d1,d2,d3⟩:=Jc d.o.base n q.o r.o y.o z.o
    skip)
  |
   (go_at_call_of 91 (Value.pointer (some ⟨bv,0,none⟩))
    apply cM;apply RBag.mul (w0:=X);(first|exact d.o|exact d.o.drew);repeat(first|exact mH|apply mT);omega;rintro e wn ⟨b4,rfl,c⟩;clear d d0 d1 d2 d3;have d:=Hi c;clear c;obtain⟨d0,d1,d2,d3⟩:=Jc d.o.base n q.o r.o y.o z.o
    skip)
  |
   (go_at_call_of 94 (Value.pointer (some ⟨b2,0,none⟩))
    apply cM;apply RBag.add (w0:=X);(first|exact d.o|exact d.o.drew);repeat(first|exact mH|apply mT);omega;rintro e wn ⟨b5,rfl,c⟩;clear d d0 d1 d2 d3;have d:=Hi c;clear c;obtain⟨d0,d1,d2,d3⟩:=Jc d.o.base n q.o r.o y.o z.o
    skip)
  |fail)
 all_goals
  clear d0 d1 d2 d3;go_wp2;go_ret;refine⟨b5,rfl,(by first|exact d.o|exact d.o.drew:RBag X _ _).mono am.o (fun f J=>?_)⟩;obtain rfl:=List.mem_singleton.1 J;rw[aj.o];exact⟨_,List.Mem.head _,by simp only;omega⟩
structure PBlk (w:Vz) (g:Nat) (ts:List RT):Prop where
 blk:SB w g 84 (ts.map ptrV).toArray
 vs:RVs w ts
theorem PBlk.below{w w':Vz}{g:Nat}{a:List RT}(h:PBlk w g a)(b:Bl w w'):PBlk w' g a:=⟨h.blk.below b h.blk.lt,h.vs.below b⟩
theorem PBlk.cell{w:Vz}{g i:Nat}{a:List RT}{t:RT}(h:PBlk w g a)(b:a[i]?=some t):w.cell? ⟨g,i,none⟩=some (.pointer (some ⟨t.1,0,none⟩)):=by
 rw[h.blk.cell];simp[b,ptrV]
theorem PBlk.set{w:Vz}{g i b k:Nat}{q:Rat}{a:List RT}(h:PBlk w g a)(e:RatVal w b q)(f:Fits q k)(hk:0<k):PBlk (w.setCell ⟨g,i,none⟩ (.pointer (some ⟨b,0,none⟩))) g (a.set i (b,q,k)):=by
 have j:Only g w (w.setCell ⟨g,i,none⟩ (.pointer (some ⟨b,0,none⟩))):=(Only.refl g w).setCell _ _;have d:=Fp.of_only j h.blk (fun u l=>Qcm a u (by simpa using l));refine⟨?_,fun t c=>?_⟩
 .
  have:=h.blk.set i (.pointer (some ⟨b,0,none⟩));rw[List.map_set]
  simpa [ptrV] using this
 .
  rcases List.mem_or_eq_of_mem_set c with c|rfl
  . exact(h.vs.fp d) t c
  . exact⟨e.fp d,f,hk⟩
theorem Qqj(n:Nat):madeCells (Value.cells (.pointer none)) n=(List.replicate n (Value.pointer none)).toArray:=by
 have e:Value.cells (.pointer none)=#[.pointer none]:=by rfl
 rw[e];apply Array.ext';rw[toList_madeCells_one]
theorem Qjg(n:Nat)(d:n<=1048576)(w:Vz):(Instr.makeSlice 52 (.int .i64 n) (.int .i64 n)).run prog w=.ok (.slice (some ⟨w.heap.size,0,.none⟩) n n) (w.alloc (.cells (List.replicate n (Value.pointer none)).toArray 84)):=by
 obtain⟨i,a,h⟩:=Option.map_eq_some_iff.1 Qkr;simp only[Prod.mk.injEq] at h;obtain⟨b,hs,c⟩:=h;have:=run_make w 52 84 i _ underlying52 a b .i64 .i64 n n (by omega) (by omega) (by rw[c];omega) (by omega);rw[Int.toNat_natCast,hs,Nat.mul_one,Qqj] at this;exact this
theorem Qqk{n k:Nat}{x z:Value}{l:Vv}(hk:k<n)(hl:l.length=k):(l++List.replicate (n - k) z).set k x=(l++ [x])++List.replicate (n - (k+1)) z:=by
 rw[show n - k=(n - (k+1))+1 by omega,List.replicate_succ,List.set_append_right _ _ (by omega),hl,Nat.sub_self,List.set_cons_zero];simp
structure Noughts (w:Vz) (g n k:Nat) (ts:List RT):Prop where
 blk:SB w g 84 (ts.map ptrV++List.replicate (n - k) (Value.pointer none)).toArray
 vs:RVs w ts
 len:ts.length=k
 zero:∀t,t∈ ts->t.2.1=0/\t.2.2=1
theorem Noughts.below{w w':Vz}{g n k:Nat}{a:List RT}(h:Noughts w g n k a)(b:Bl w w'):Noughts w' g n k a:=⟨h.blk.below b h.blk.lt,h.vs.below b,h.len,h.zero⟩
theorem Noughts.step{w:Vz}{g n k b:Nat}{d:List RT}(h:Noughts w g n k d)(hk:k<n)(f:RatVal w b 0):Noughts (w.setCell ⟨g,k,none⟩ (.pointer (some ⟨b,0,none⟩))) g n (k+1) (d++ [(b,0,1)]):=by
 have i:Only g w (w.setCell ⟨g,k,none⟩ (.pointer (some ⟨b,0,none⟩))):=(Only.refl g w).setCell _ _;have e:=Fp.of_only i h.blk (fun u c=>by
  simp only[List.toList_toArray,List.mem_append] at c;rcases c with c|c
  . exact Qcm d u c
  . obtain⟨_,rfl⟩:=List.mem_replicate.1 c
    exact⟨_,rfl⟩)
 refine⟨?_,fun t a=>?_,by simp[h.len],fun t a=>?_⟩
 .
  have:=h.blk.set k (.pointer (some ⟨b,0,none⟩));rw[List.setIfInBounds_toArray,Qqk hk (by rw[List.length_map];exact h.len)] at this;rw[List.map_append];exact this
 .
  rcases List.mem_append.1 a with a|a
  . exact(h.vs.fp e) t a
  . obtain rfl:=List.mem_singleton.1 a
    exact⟨f.fp e,Fits.zero,Nat.one_pos⟩
 .
  rcases List.mem_append.1 a with a|a
  . exact h.zero t a
  . obtain rfl:=List.mem_singleton.1 a
    exact⟨rfl,rfl⟩
structure PR where
 b:Nat
 cap:Nat
 ts:List RT
 sp:List Value
def PR.val(r:PR):Value:=.slice (some ⟨r.b,0,none⟩) r.ts.length r.cap
def PR.cells(r:PR):List Value:=r.ts.map ptrV++r.sp
def PR.put(r:PR)(j:Nat)(t:RT):PR:=⟨r.b,r.cap,r.ts.set j t,r.sp⟩
def ratV(ts:List RT):Vec:=fun i=>match ts[i]? with
 |some t=>t.2.1
 |none=>0
def PR.q(r:PR):Vec:=ratV r.ts
theorem Qkd{a:List RT}{i:Nat}{t:RT}(h:a[i]?=some t):ratV a i=t.2.1:=by simp only[ratV,h]
theorem Qke{a:List RT}{i:Nat}(h:a.length<=i):ratV a i=0:=by simp only[ratV,List.getElem?_eq_none h]
theorem PR.put_val(r:PR)(j:Nat)(t:RT):(r.put j t).val=r.val:=by simp[PR.put,PR.val]
theorem IsSl.of_val(r:PR):IsSl r.val:=⟨_,_,_,rfl⟩
theorem Qee:84≠103:=by decide
theorem Qkf:3≠103:=by decide
theorem Qkg:3≠84:=by decide
structure Fs (w w':Vz):Prop where
 size:w.heap.size<=w'.heap.size
 keep:∀b i u,w.cell? ⟨b,i,none⟩=some u->¬IsSl u->w'.heap[b]?=w.heap[b]?
theorem Fs.cell{w w':Vz}(h:Fs w w'){b i:Nat}{u:Value}(a:w.cell? ⟨b,i,none⟩=some u)(hk:¬IsSl u)(j:Nat):w'.cell? ⟨b,j,none⟩=w.cell? ⟨b,j,none⟩:=World.cell?_of_block (w:=w) (h.keep b i u a hk)
theorem Fs.of_only{w w':Vz}{g:Nat}{t:Vr}{C:Vw}(c:Only g w w')(hs:SB w g t C)(hC:∀u,u∈ C.toList->IsSl u):Fs w w':=by
 refine⟨c.size,fun b i u a hk=>c.block b (World.block_lt_of_cell? _ _ a) ?_⟩;rintro rfl;rw[hs.cell] at a;exact hk (hC u (mO (by rw[Array.getElem?_toList];exact a)))
theorem Qsl(x:Bool):¬IsSl (.bool x):=fun ⟨_,_,_,e⟩=>by cases e
theorem Qsm(k:IntKind)(n:Int):¬IsSl (.int k n):=fun ⟨_,_,_,e⟩=>by cases e
theorem Row.fs{k:IntKind}{w w':Vz}{a:Vx}{cap:Nat}{l:Vy}(h:Row k w a cap l)(c:Fs w w'):Row k w' a cap l:=by
 refine⟨h.fit,?_,fun i g=>?_⟩
 .
  rcases h.shape with d|⟨e,b,rfl,j⟩
  . exact .inl d
  . exact .inr ⟨e,b,rfl,by have:=c.size;omega⟩
 . obtain⟨e,b,d,j,f⟩:=h.cell i g
   exact⟨e,b,d,by have:=c.size;omega,(c.cell f (Qsm _ _) _).trans f⟩
theorem RatVal.fs{w w':Vz}{b:Nat}{q:Rat}(h:RatVal w b q)(c:Fs w w'):RatVal w' b q:=by
 obtain⟨D,d,c1,f,g,c2,i,a,j⟩:=h;refine⟨D,d,c1,f,g,c2,i,⟨?_,⟨a.num.row.fs c,a.num.num,a.num.short⟩,⟨a.den.row.fs c,a.den.num,a.den.short⟩⟩,j⟩;have hs:=a.sb;have e:=c.keep b 0 _ (by rw[hs.cell];rfl) (Qsl _);unfold SB at hs ⊢;rw[e];exact hs
structure PMat (w:Vz) (B g:Nat) (zs:Vv) (rs:List PR):Prop where
 blk:SB w g 103 (rs.map PR.val++zs).toArray
 room:∀u,u∈ zs->IsSl u
 low:B<=g
 row:∀r,r∈ rs->SB w r.b 84 r.cells.toArray/\B<=r.b/\(∀u,u∈ r.sp->IsPt u)/\r.ts.length<=r.cap
 vs:∀r,r∈ rs->RVs w r.ts
 apart:∀(i j:Nat) (a b:PR),i≠j->rs[i]?=some a->rs[j]?=some b->a.b≠b.b
theorem PMat.below{w w':Vz}{B g:Nat}{c:Vv}{rs:List PR}(h:PMat w B g c rs)(b:Bl w w'):PMat w' B g c rs:=
 ⟨h.blk.below b h.blk.lt,h.room,h.low,fun r a=>⟨(h.row r a).1.below b (h.row r a).1.lt,(h.row r a).2⟩,fun r a=>(h.vs r a).below b,h.apart⟩
theorem PMat.slot{w:Vz}{B g i:Nat}{b:Vv}{rs:List PR}{r:PR}(h:PMat w B g b rs)(a:rs[i]?=some r):w.cell? ⟨g,i,none⟩=some r.val:=by
 rw[h.blk.cell,List.getElem?_toArray,List.getElem?_append_left (by simpa using (gZ a).1)];simp[a]
theorem PMat.num{w:Vz}{B g i j:Nat}{c:Vv}{rs:List PR}{r:PR}{t:RT}(h:PMat w B g c rs)(d:rs[i]?=some r)(a:r.ts[j]?=some t):w.cell? ⟨r.b,j,none⟩=some (.pointer (some ⟨t.1,0,none⟩)):=by
 rw[(h.row r (mO d)).1.cell];have hl:=(gZ a).1;simp only[PR.cells,List.getElem?_toArray];rw[List.getElem?_append_left (by simpa using hl)];simp[a,ptrV]
theorem PMat.free{w:Vz}{B g i j:Nat}{a:Vv}{rs:List PR}{r:PR}(h:PMat w B g a rs)(c:rs[i]?=some r):w.frozen? ⟨r.b,j,none⟩=false:=(h.row r (mO c)).1.free j
theorem PMat.val{w:Vz}{B g i j:Nat}{a:Vv}{rs:List PR}{r:PR}{t:RT}(h:PMat w B g a rs)(b:rs[i]?=some r)(c:r.ts[j]?=some t):RatVal w t.1 t.2.1/\Fits t.2.1 t.2.2/\0<t.2.2:=h.vs r (mO b) t (mO c)
theorem PMat.swap{w:Vz}{B g k b:Nat}{E:Vv}{rs:List PR}{s t:PR}(h:PMat w B g E rs)(p:rs[b]?=some s)(hk:rs[k]?=some t):
 PMat ((w.setCell ⟨g,k,none⟩ s.val).setCell ⟨g,b,none⟩ t.val) B g E ((rs.set k s).set b t)/\Only g w ((w.setCell ⟨g,k,none⟩ s.val).setCell ⟨g,b,none⟩ t.val):=by
 have q:Only g w ((w.setCell ⟨g,k,none⟩ s.val).setCell ⟨g,b,none⟩ t.val):=((Only.refl g w).setCell _ _).setCell _ _;have f:=(gZ p).1;have l:=(gZ hk).1;have c:∀r,r∈ (rs.set k s).set b t->r∈ rs:=fun r a=>by
  rcases List.mem_or_eq_of_mem_set a with a|rfl
  .
   rcases List.mem_or_eq_of_mem_set a with a|rfl
   . exact a
   . exact mO p
  . exact mO hk
 have v:=Fs.of_only q h.blk (fun x d=>by
  simp only[List.toList_toArray,List.mem_append,List.mem_map] at d;rcases d with ⟨y,_,rfl⟩|d
  . exact IsSl.of_val y
  . exact h.room x d)
 have z:=fun r a=>(h.row r a).1.unlike h.blk Qee
 have A:∀r,r∈ rs->RVs ((w.setCell ⟨g,k,none⟩ s.val).setCell ⟨g,b,none⟩ t.val) r.ts:=fun r a u F=>by
  obtain⟨G,H⟩:=h.vs r a u F;exact⟨G.fs v,H⟩
 refine⟨⟨?_,h.room,h.low,fun r a=>⟨(h.row r (c r a)).1.only q (z r (c r a)),(h.row r (c r a)).2⟩,fun r a=>A r (c r a),?_⟩,q⟩
 .
  have:=(h.blk.set k s.val).set b t.val;rw[List.setIfInBounds_toArray,List.setIfInBounds_toArray,List.set_append_left _ _ (by simpa using l),List.set_append_left _ _ (by simpa using f)] at this;rw[List.map_set,List.map_set];exact this
 .
  intro i j x y I d J;have m:∀(i:Nat) (x:PR),((rs.set k s).set b t)[i]?=some x->∃e,rs[e]?=some x/\(i=b/\e=k∨i≠b/\i=k/\e=b∨i≠b/\i≠k/\e=i):=fun i x d=>by
   by_cases n:i=b
   .
    rw[n,List.getElem?_set_self (by rw[List.length_set];exact f)] at d;obtain rfl:=Option.some.inj d;exact⟨k,hk,.inl ⟨n,rfl⟩⟩
   .
    rw[List.getElem?_set_ne (Ne.symm n)] at d;by_cases o:i=k
    .
     rw[o,List.getElem?_set_self l] at d;obtain rfl:=Option.some.inj d;exact⟨b,p,.inr (.inl ⟨n,o,rfl⟩)⟩
    . rw[List.getElem?_set_ne (Ne.symm o)] at d
      exact⟨i,d,.inr (.inr ⟨n,o,rfl⟩)⟩
  obtain⟨e,C,L⟩:=m i x d;obtain⟨K,D,M⟩:=m j y J;exact h.apart e K x y (by omega) C D
theorem PMat.put{w:Vz}{B g i j nb K:Nat}{q:Rat}{C:Vv}{rs:List PR}{r:PR}(h:PMat w B g C rs)(k:rs[i]?=some r)(D:j<r.ts.length)(E:RatVal w nb q)(F:Fits q K)(G:0<K):
 PMat (w.setCell ⟨r.b,j,none⟩ (.pointer (some ⟨nb,0,none⟩))) B g C (rs.set i (r.put j (nb,q,K)))/\Only r.b w (w.setCell ⟨r.b,j,none⟩ (.pointer (some ⟨nb,0,none⟩))):=by
 have p:Only r.b w (w.setCell ⟨r.b,j,none⟩ (.pointer (some ⟨nb,0,none⟩))):=(Only.refl r.b w).setCell _ _;have f:=h.row r (mO k);have d:=(gZ k).1;have v:=Fp.of_only p f.1 (fun u c=>by
  simp only[PR.cells,List.toList_toArray,List.mem_append] at c;rcases c with c|c
  . exact Qcm r.ts u c
  . exact f.2.2.1 u c)
 have z:=fun m s a hs=>h.apart m i s r a hs k
 refine⟨⟨?_,h.room,h.low,fun s hs=>?_,fun s hs=>?_,?_⟩,p⟩
 .
  rw[List.map_set,PR.put_val];have e:(rs.map PR.val).set i r.val=rs.map PR.val:=by
   apply List.ext_getElem?;intro m;by_cases e:m=i
   .
    subst e;rw[List.getElem?_set_self (by simpa using d)];simp[k]
   . rw[List.getElem?_set_ne (Ne.symm e)]
  rw[e];exact h.blk.only p (fun e=>(f.1.unlike h.blk Qee) e.symm)
 .
  obtain⟨m,a⟩:=List.mem_iff_getElem?.1 hs;by_cases e:m=i
  .
   subst e;rw[List.getElem?_set_self d] at a;obtain rfl:=Option.some.inj a;refine⟨?_,f.2.1,f.2.2.1,by simpa [PR.put] using f.2.2.2⟩;have:=f.1.set j (.pointer (some ⟨nb,0,none⟩));have e:(r.put j (nb,q,K)).cells.toArray=r.cells.toArray.setIfInBounds j (.pointer (some ⟨nb,0,none⟩)):=by
    simp only[PR.put,PR.cells,List.setIfInBounds_toArray,List.map_set];rw[List.set_append_left _ _ (by simpa using D)];rfl
   rw[e];exact this
  . rw[List.getElem?_set_ne (Ne.symm e)] at a
    exact⟨(h.row s (mO a)).1.only p (z m s e a),(h.row s (mO a)).2⟩
 .
  obtain⟨m,a⟩:=List.mem_iff_getElem?.1 hs;by_cases e:m=i
  .
   subst e;rw[List.getElem?_set_self d] at a;obtain rfl:=Option.some.inj a;intro u c;rcases List.mem_or_eq_of_mem_set c with c|rfl
   . exact((h.vs r (mO k)).fp v) u c
   . exact⟨E.fp v,F,G⟩
  . rw[List.getElem?_set_ne (Ne.symm e)] at a
    exact(h.vs s (mO a)).fp v
 .
  intro m n x y A l H;have o:∀(m:Nat) (x:PR),(rs.set i (r.put j (nb,q,K)))[m]?=some x->∃t,rs[m]?=some t/\t.b=x.b:=fun m x l=>by
   by_cases e:m=i
   .
    rw[e,List.getElem?_set_self d] at l;obtain rfl:=Option.some.inj l;exact⟨r,by rw[e];exact k,rfl⟩
   . rw[List.getElem?_set_ne (Ne.symm e)] at l
     exact⟨x,l,rfl⟩
  obtain⟨t,I,J⟩:=o m x l;obtain⟨L,M,N⟩:=o n y H;rw[<-J,<-N];exact h.apart m n t L A I M
theorem RatVal.grownI{w w':Vz}{b B n:Nat}{q:Rat}{v:Value}{xs:Vv}(h:RatVal w b q)(d:Grow w B 3 1 IsI v n xs)(a:w.grownBy w' v.ownBlock):RatVal w' b q:=by
 rcases ho:v.ownBlock with _|g
 . rw[ho] at a
   exact h.below ⟨a.os,a.tape,a.output,a.size,fun k hk=>a.block k hk (by simp)⟩
 .
  obtain⟨C,f,j⟩:=d.sb ho;rw[ho] at a;refine h.only32 ⟨a.os,a.tape,a.output,a.size,fun k hk c=>a.block k hk (by simpa using c)⟩ f (by decide) (fun i m e=>?_);obtain⟨x,l⟩:=j _ (mO (by rw[Array.getElem?_toList];exact e));cases l
structure PQ (w wr:Vz) (B g W K:Nat) (zs:Vv) (rs:List PR) (hs:Vy) (tv:Value):Prop where
 mat:PMat wr B g zs rs
 wide:∀r,r∈ rs->r.ts.length=W
 tag:∀r,r∈ rs->∀t,t∈ r.ts->t.2.2=K
 told:Grow wr w.heap.size 3 1 IsI tv hs.length (headsV hs)
 base:Below B w wr
 low:B<=w.heap.size
section
variable {w wr:Vz} {B g W K:Nat} {zs:Vv} {rs:List PR} {hs:Vy} {tv:Value}
theorem PQ.below{w':Vz}(h:PQ w wr B g W K zs rs hs tv)(a:Bl wr w'):PQ w w' B g W K zs rs hs tv:=
 ⟨h.mat.below a,h.wide,h.tag,h.told.below a,h.base.trans (a.mono (Nat.le_trans h.low h.base.size)),h.low⟩
theorem PQ.told_only{w':Vz}{c:Nat}{t:Vr}{C:Vw}(h:PQ w wr B g W K zs rs hs tv)(b:Only c wr w')(a:SB wr c t C)(d:3≠t):Grow w' w.heap.size 3 1 IsI tv hs.length (headsV hs):=
 h.told.keep fun k hk=>b.block k (h.told.lt hk).2 (by
  obtain⟨D,d1,_⟩:=h.told.sb hk
  exact d1.unlike a d)
theorem PQ.at(h:PQ w wr B g W K zs rs hs tv){i:Nat}(d:i<rs.length):∃r:PR,rs[i]?=some r/\wr.cell? ⟨g,i,none⟩=some (.slice (some ⟨r.b,0,none⟩) W r.cap)/\W<=r.cap/\r.b<wr.heap.size:=by
 obtain⟨r,c⟩:∃r,rs[i]?=some r:=⟨_,gE d⟩;have a:=mO c;refine⟨r,c,?_,?_,(h.mat.row r a).1.lt⟩
 . rw[h.mat.slot c,PR.val,h.wide r a]
 . rw[<-h.wide r a]
   exact(h.mat.row r a).2.2.2
theorem PQ.num(h:PQ w wr B g W K zs rs hs tv){i j:Nat}{r:PR}(c:rs[i]?=some r)(l:j<W):∃b:Nat,wr.cell? ⟨r.b,j,none⟩=some (.pointer (some ⟨b,0,none⟩))/\RatVal wr b (r.q j)/\Fits (r.q j) K/\0<K:=by
 have d:=mO c;obtain⟨t,a⟩:∃t,r.ts[j]?=some t:=⟨_,gE (by rw[h.wide r d];exact l)⟩;obtain⟨m,f,k⟩:=h.mat.val c a;have e:=h.tag r d t (mO a);rw[e] at f k;refine⟨t.1,h.mat.num c a,?_⟩;rw[show r.q j=t.2.1 from Qkd a];exact⟨m,f,k⟩
theorem PQ.swap(h:PQ w wr B g W K zs rs hs tv){k b:Nat}{s t:PR}(d:rs[b]?=some s)(hk:rs[k]?=some t):PQ w ((wr.setCell ⟨g,k,none⟩ (.slice (some ⟨s.b,0,none⟩) W s.cap)).setCell ⟨g,b,none⟩ (.slice (some ⟨t.b,0,none⟩) W t.cap)) B g W K zs ((rs.set k s).set b t) hs tv:=by
 have f:Value.slice (some ⟨s.b,0,none⟩) W s.cap=s.val:=by rw[PR.val,h.wide s (mO d)]
 have i:Value.slice (some ⟨t.b,0,none⟩) W t.cap=t.val:=by rw[PR.val,h.wide t (mO hk)]
 rw[f,i];obtain⟨j,e⟩:=h.mat.swap d hk;have c:∀r,r∈ (rs.set k s).set b t->r∈ rs:=fun r a=>by
  rcases List.mem_or_eq_of_mem_set a with a|rfl
  .
   rcases List.mem_or_eq_of_mem_set a with a|rfl
   . exact a
   . exact mO d
  . exact mO hk
 exact⟨j,fun r a=>h.wide r (c r a),fun r a=>h.tag r (c r a),h.told_only e h.mat.blk Qkf,h.base.trans (e.below h.mat.low (Nat.le_trans h.low h.base.size)),h.low⟩
theorem PQ.put(h:PQ w wr B g W K zs rs hs tv){i j nb:Nat}{r:PR}{q:Rat}(e:rs[i]?=some r)(k:j<W)(l:RatVal wr nb q)(m:Fits q K)(n:0<K):PQ w (wr.setCell ⟨r.b,j,none⟩ (.pointer (some ⟨nb,0,none⟩))) B g W K zs (rs.set i (r.put j (nb,q,K))) hs tv:=by
 have c:=mO e;have o:=(gZ e).1;obtain⟨p,f⟩:=h.mat.put e (by rw[h.wide r c];exact k) l m n;refine⟨p,fun x a=>?_,fun x a t d=>?_,h.told_only f (h.mat.row r c).1 Qkg,h.base.trans (f.below (h.mat.row r c).2.1 (Nat.le_trans h.low h.base.size)),h.low⟩
 .
  rcases List.mem_or_eq_of_mem_set a with a|rfl
  . exact h.wide x a
  . simpa [PR.put] using h.wide r c
 .
  rcases List.mem_or_eq_of_mem_set a with a|rfl
  . exact h.tag x a t d
  .
   rcases List.mem_or_eq_of_mem_set d with d|rfl
   . exact h.tag r c t d
   . rfl
theorem PQ.val_put(h:PQ w wr B g W K zs rs hs tv){i j nb b:Nat}{r:PR}{q:Rat}(d:rs[i]?=some r)(e:RatVal wr b q):RatVal (wr.setCell ⟨r.b,j,none⟩ (.pointer (some ⟨nb,0,none⟩))) b q:=by
 have c:=h.mat.row r (mO d);exact e.fp (Fp.of_only ((Only.refl r.b wr).setCell _ _) c.1 (fun u a=>by
  simp only[PR.cells,List.toList_toArray,List.mem_append] at a;rcases a with a|a
  . exact Qcm r.ts u a
  . exact c.2.2.1 u a))
theorem PQ.app(h:PQ w wr B g W K zs rs hs tv){k nb c:Nat}(p:wr.cell? ⟨nb,0,none⟩=some (.int .i64 (k:Nat)))(G:hs.length<=1000)(ty:Vr):
 ∃f w',appR prog 99 ty tv (.slice (some ⟨nb,0,none⟩) 1 c) wr=.ok f w'/\PQ w w' B g W K zs rs (hs++ [k]) f:=by
 obtain⟨H,A,q,s,hz2⟩:=info_parts Qli;obtain⟨f,w',l,u,a,E⟩:=h.told.app (P:=prog) (ty:=ty) underlying99 A q s hz2 rfl (by decide) Qlh ⟨nb,0,none⟩ 1 c [.int .i64 (k:Nat)] rfl (fun j v x=>by
  match j,x with
  |0,x=>
   obtain rfl:Value.int .i64 (k:Nat)=v:=by simpa using x
   rw[Qau]
   exact p) (fun v y=>by obtain rfl:v=Value.int .i64 (k:Nat):=by simpa using y
                         rfl) (fun v y=>by obtain rfl:v=Value.int .i64 (k:Nat):=by simpa using y
                                           exact⟨_,rfl⟩) (by omega) (by decide) h.base.size
 have d:∀b,b<wr.heap.size->tv.ownBlock≠some b->w'.heap[b]?=wr.heap[b]?:=fun b i z=>a.block b i (fun e=>z e.symm)
 have m:∀{b:Nat} {t:Vr} {C:Vw},SB wr b t C->3≠t->SB w' b t C:=fun {b t C} i o=>by
  have F:=d b i.lt (fun p=>by
   obtain⟨D,d1,_⟩:=h.told.sb p
   exact d1.unlike i o rfl)
  unfold SB at i ⊢;rw[F];exact i
 have n:Below B wr w':=⟨a.os,a.tape,a.output,a.size,fun b i=>d b (Nat.lt_of_lt_of_le i (Nat.le_trans h.low h.base.size)) (fun e=>by have:=(h.told.lt e).1;have:=h.low;omega)⟩;refine⟨f,w',l,⟨⟨m h.mat.blk Qkf,h.mat.room,h.mat.low,fun r l=>⟨m (h.mat.row r l).1 Qkg,(h.mat.row r l).2⟩,fun r l t o=>⟨?_,(h.mat.vs r l t o).2⟩,h.mat.apart⟩,h.wide,h.tag,?_,h.base.trans n,h.low⟩⟩
 . exact(h.mat.vs r l t o).1.grownI h.told a
 . rw[List.length_append,headsV,List.map_append]
   exact u
theorem PQ.glob(h:PQ w wr B g W K zs rs hs tv)(a:∃m,w.cell? ⟨4,0,none⟩=some (.int .i64 m))(hG:4<B):RBag wr wr []:=by
 obtain⟨m,b⟩:=a;exact RBag.start ⟨m,ce h.base hG b⟩
end
structure Part (rs0 rs:List PR) (i j:Nat) (v u:Vec):Prop where
 len:rs.length=rs0.length
 other:∀m,m≠i->rs[m]?=rs0[m]?
 row:∃r,rs[i]?=some r/\(∀d,d<j->r.q d=u d)/\∀d,j<=d->r.q d=v d
theorem Part.start{rs:List PR}{i:Nat}{r:PR}(u:Vec)(h:rs[i]?=some r):Part rs rs i 0 r.q u:=⟨rfl,fun _ _=>rfl,r,h,fun d a=>by omega,fun _ _=>rfl⟩
theorem PR.put_q{r:PR}{j nb K:Nat}{q:Rat}(a:j<r.ts.length)(d:Nat):(r.put j (nb,q,K)).q d=if d=j then q else r.q d:=by
 unfold PR.q PR.put ratV;by_cases e:d=j
 . subst e
   simp[a]
 . simp only[List.getElem?_set_ne (Ne.symm e),if_neg e]
theorem Part.step{a rs:List PR}{i j nb K:Nat}{v u:Vec}{r:PR}(h:Part a rs i j v u)(f:rs[i]?=some r)(k:j<r.ts.length):Part a (rs.set i (r.put j (nb,u j,K))) i (j+1) v u:=by
 have b:=(gZ f).1;obtain⟨q,c,n,o⟩:=h.row;obtain rfl:=Option.some.inj (f.symm.trans c);refine⟨by simpa using h.len,fun m l=>by rw[List.getElem?_set_ne (Ne.symm l)];exact h.other m l,_,List.getElem?_set_self b,fun d p=>?_,fun d p=>?_⟩
 .
  rw[PR.put_q k];by_cases e:d=j
  . rw[if_pos e,e]
  . rw[if_neg e]
    exact n d (by omega)
 . rw[PR.put_q k,if_neg (by omega)]
   exact o d (by omega)
theorem Part.done{a rs:List PR}{i W:Nat}{v u:Vec}(h:Part a rs i W v u)(b:∀d,W<=d->v d=u d):∃r,rs[i]?=some r/\r.q=u:=by
 obtain⟨r,c,e,f⟩:=h.row;refine⟨r,c,funext fun d=>?_⟩;rcases Nat.lt_or_ge d W with k|k
 . exact e d k
 . rw[f d k,b d k]
theorem Qkh:sgn3 (Rat.num 0)=0:=by decide
theorem Qki{q:Rat}(h:q≠0):(sgn3 q.num != 0)=true/\(sgn3 q.num == 0)=false:=by
 have a:q.num≠0:=fun e=>h (Rat.num_eq_zero.1 e)
 have:sgn3 q.num≠0:=by
  unfold sgn3
  split
  . decide
  . first|decide|(split<;>first|decide|omega)
 exact⟨by rw[bne_iff_ne];exact this,by rw[beq_eq_false_iff_ne];exact this⟩
def Cells2(a b:Addr)(x y:Value)(v:Vz):Prop:=v.cell? a=some x/\v.cell? b=some y
theorem cq2{a b:Addr}{x y:Value}(v:Vz)(c:v.cell? a=some x)(d:v.cell? b=some y):Cells2 a b x y v:=⟨c,d⟩
def Cells4(a b c d:Addr)(x y z t:Value)(v:Vz):Prop:=v.cell? a=some x/\v.cell? b=some y/\v.cell? c=some z/\v.cell? d=some t
theorem cq4{a b c d:Addr}{x y z t:Value}(v:Vz)(e:v.cell? a=some x)(f:v.cell? b=some y)(g:v.cell? c=some z)(h:v.cell? d=some t):Cells4 a b c d x y z t v:=⟨e,f,g,h⟩
def Best(rs:List PR)(c k i:Nat)(bv:Value):Prop:=
 (bv=.int .i64 (-1)/\∀(j:Nat) (r:PR),k<=j->j<i->rs[j]?=some r->r.q c=0)∨∃(b:Nat) (r:PR),bv=.int .i64 (b:Nat)/\k<=b/\b<i/\rs[b]?=some r/\r.q c≠0
theorem Best.next0{rs:List PR}{c k i:Nat}{f:Value}{r:PR}(h:Best rs c k i f)(l:rs[i]?=some r)(m:r.q c=0):Best rs c k (i+1) f:=by
 rcases h with ⟨a,d⟩|⟨b,n,a,d,u,o,p⟩
 .
  refine .inl ⟨a,fun j x s t g=>?_⟩;by_cases e:j=i
  .
   subst e;obtain rfl:=Option.some.inj (l.symm.trans g);exact m
  . exact d j x s (by omega) g
 . exact .inr ⟨b,n,a,d,by omega,o,p⟩
theorem Qsn{rs:List PR}{k b:Nat}{s t:PR}(a:rs[b]?=some s)(hk:rs[k]?=some t):((rs.set k s).set b t)[k]?=some s:=by
 by_cases e:k=b
 .
  subst e;obtain rfl:=Option.some.inj (a.symm.trans hk);exact List.getElem?_set_self (by simpa using (gZ hk).1)
 . rw[List.getElem?_set_ne (Ne.symm e)]
   exact List.getElem?_set_self (gZ hk).1
theorem Qgl(rs:List PR)(k b:Nat)(s t:PR):((rs.set k s).set b t).length=rs.length:=by simp
def Done(rs1 ra:List PR)(c k i:Nat)(p:Vec):Prop:=ra.length=rs1.length/\∀(m:Nat) (r r1:PR),ra[m]?=some r->rs1[m]?=some r1->r.q=if m=k then p else if m<i then down c p r1.q else r1.q
theorem Done.start{a g:List PR}{c k W:Nat}{v p:Vec}(h:Part a g k W v p)(i:∀d,W<=d->v d=p d):Done a g c k 0 p:=by
 refine⟨h.len,fun m r n b f=>?_⟩;by_cases e:m=k
 .
  subst e;rw[if_pos rfl];obtain⟨o,j,l⟩:=h.done i;obtain rfl:=Option.some.inj (b.symm.trans j);exact l
 .
  rw[if_neg e,if_neg (by omega)];rw[h.other m e,f] at b;rw[Option.some.inj b]
theorem Done.next{a j f:List PR}{c k i:Nat}{p:Vec}(h:Done a j c k i p)(hl:f.length=j.length)(o:∀m,m≠i->f[m]?=j[m]?)(s:∀(r b:PR),f[i]?=some r->a[i]?=some b->r.q=if i=k then p else down c p b.q):Done a f c k (i+1) p:=by
 refine⟨hl.trans h.1,fun m r b l d=>?_⟩;by_cases e:m=i
 . subst e
   rw[s r b l d,if_pos (Nat.lt_succ_self _)]
 .
  rw[o m e] at l;rw[h.2 m r b l d];by_cases g:m=k
  . rw[if_pos g,if_pos g]
  .
   rw[if_neg g,if_neg g];by_cases n:m<i
   . rw[if_pos n,if_pos (by omega)]
   . rw[if_neg n,if_neg (by omega)]
theorem Done.all{rs d:List PR}{c k b R:Nat}{s t:PR}(h:Done ((rs.set k s).set b t) d c k R (overAt c s.q))(l:rs.length=R):d.map PR.q=plStep c k b s.q t.q (rs.map PR.q):=by
 have hl:d.length=rs.length:=h.1.trans (Qgl _ _ _ _ _);apply List.ext_getElem?;intro m;rcases Nat.lt_or_ge m rs.length with i|i
 .
  obtain⟨r,j⟩:∃r,d[m]?=some r:=⟨_,gE (by omega)⟩;obtain⟨g,a⟩:∃g,((rs.set k s).set b t)[m]?=some g:=⟨_,gE (by rw[Qgl];exact i)⟩;have e:((List.map PR.q rs).set k s.q).set b t.q=((rs.set k s).set b t).map PR.q:=by rw[List.map_set,List.map_set]
  rw[plStep,List.getElem?_mapIdx,e,List.getElem?_map,List.getElem?_map,j,a];simp only[Option.map_some];rw[h.2 m r g j a];by_cases f:m=k
  . rw[if_pos f,if_pos f]
  . rw[if_neg f,if_neg f,if_pos (by omega)]
 . rw[List.getElem?_eq_none (by rw[List.length_map];omega),List.getElem?_eq_none (by rw[Qef,List.length_map];omega)]
theorem q_far{r:PR}{W d:Nat}(h:r.ts.length=W)(a:W<=d):r.q d=0:=Qke (by omega)
theorem Qso{r:PR}{W c d:Nat}(h:r.ts.length=W)(a:W<=d):overAt c r.q d=0:=by
 simp only[overAt];rw[q_far h a];grind
theorem Qsp{c d:Nat}{p v:Vec}(h:p d=0):v d=down c p v d:=by
 simp only[down];rw[h];grind
theorem Qsq{c:Nat}{p v:Vec}(h:v c=0):down c p v=v:=by
 funext d;simp only[down];rw[h];grind
theorem Qsr(B g n W N K R cp:Nat)(zs:Vv)(rs:List PR)(M:List Vec)(w:Vz)
 (T:∃m,w.cell? ⟨4,0,none⟩=some (.int .i64 m)) (ax:4<B)
 (be:∀c L hs,Pl W N M c L hs->∀(j:Nat) (v:Vec),L[j]?=some v->∀i,Fits (v i) K) (U:0<K) (P:4*K<100000000000)
 (hq:PQ w w B g W K zs rs [] (.slice none 0 0)) (h0:Pl W N M 0 (rs.map PR.q) []) (hn:n<=W) (hW:W<=1000) (hR:rs.length=R) (dx:R<=1000) (dy:R<=cp):
 Calls prog 48 #[.slice (some ⟨g,0,none⟩) R cp,.int .i64 n] w fun e w'=>∃(bq:List PR) (hs:Vy) (tv:Value),e=.returned tv/\PQ w w' B g W K zs bq hs tv/\Pl W N M n (bq.map PR.q) hs/\bq.length=R:=by
 obtain⟨ay,bf,HQ,H0,HR⟩:=Id T be hq h0 hR;clear T be hq h0 hR;go_enter func48,ntmps48;go_wp2_with fail;go_loopw [5,6] (fun tv cv wr=>∃(c:Nat) (rs:List PR) (hs:Vy),c<=n/\cv=.int .i64 c/\PQ w wr B g W K zs rs hs tv/\Pl W N M c (rs.map PR.q) hs/\rs.length=R) (fun _ cv _=>n - (intOf cv).toNat)
 case atStart=>exact⟨0,rs,[],Nat.zero_le _,rfl,HQ.o,H0.o,HR.o⟩
 case round=>
  obtain⟨c,rs,hs,hc,rfl,hq,cd,bg⟩:=hrel;clear HQ H0 HR;obtain⟨HQ,az,l⟩:=Ib hq cd bg;clear hq cd bg;by_cases dz:c<n
  .
   have q1:(c:Int)<(n:Int):=by omega
   obtain⟨ta,tc,br,_⟩:=HQ.o.told.slice;obtain⟨k,hk⟩:=nm hs.length;rw[hk] at br;obtain⟨HK,c7⟩:=Ia hk br;have c8:k<=R:=by
    have:=az.o.le;rw[List.length_map] at this;have:=l.o;omega
   subst br;clear hk c7;go_wp2_with fail;go_loopw [8,9] (fun bv iv c9=>∃i:Nat,k<=i/\i<=R/\iv=.int .i64 i/\c9=wr/\Best rs c k i bv) (fun _ iv _=>R - (intOf iv).toNat)
   case atStart=>exact⟨k,Nat.le_refl _,c8,rfl,rfl,.inl ⟨rfl,fun j r h1 h2=>by omega⟩⟩
   case round=>
    obtain⟨i,da,db,rfl,rfl,al⟩:=hrel;have a0:=Hi al;clear al;by_cases ea:i<R
    .
     obtain⟨r,hr,G,cf,bs⟩:=HQ.o.at (i:=i) (by have:=l.o;omega);obtain⟨pb,x1,hv,hf,_⟩:=HQ.o.num hr (j:=c) (by omega);obtain⟨HS,aj⟩:=Ia (RBag.sign (((HQ.o.glob ay.o ax)).put hv hf U) (List.Mem.head _)) hr;have q2:(i:Int)<(R:Int):=by omega
     have q3:(c:Int)<(W:Int):=by omega
     clear hv hf hr;by_cases hz:r.q c=0
     .
      have HZ:=Hi hz;rw[hz,Qkh] at HS;clear hz;go_wp2_with fail;go_fit HS.o;rintro e wn ⟨rfl,rfl⟩;go_wp2;go_roundw
      case rel=>exact⟨i+1,by omega,by omega,by go_num,by first|rfl|trivial,a0.o.next0 aj.o HZ.o⟩
      case measure=>simp[intOf];omega
     .
      have HZ:=Hi hz;have sz:=(Qki hz).1;obtain⟨S,hS⟩:=nm (sgn3 (r.q c).num);rw[hS] at HS sz;clear hz hS;go_wp2_with fail;go_fit HS.o;rintro e wn ⟨rfl,rfl⟩;go_wp2;go_roundw
      case rel=>exact⟨i+1,by omega,by omega,by go_num,by first|rfl|trivial,.inr ⟨i,r,rfl,da,by omega,aj.o,HZ.o⟩⟩
      case measure=>simp[intOf];omega
    .
     obtain rfl:R=i:=by omega
     rcases a0.o with ⟨rfl,cg⟩|⟨b,V,rfl,dc,eb,ch,ci⟩
     .
      have dd:=Hi cg;clear cg a0;go_wp2;go_roundw
      case rel=>
       refine⟨c+1,rs,hs,by omega,by go_num,HQ.o,az.o.skip (fun j v hj de=>?_),l.o⟩;rw[List.getElem?_map] at hj;obtain⟨r,hr,rfl⟩:=Option.map_eq_some_iff.1 hj;exact dd.o j r (by rw[<-HK.o];exact de) (by have:=(gZ hr).1;have:=l.o;omega) hr
      case measure=>simp[intOf];omega
     .
      obtain⟨am,cj⟩:=Ia ch ci;clear ch ci a0;have q2:¬((b:Int)<0):=by omega
      obtain⟨df,aa,G,ck,cl⟩:=HQ.o.at (i:=b) (by have:=l.o;omega);obtain rfl:=Option.some.inj (am.o.symm.trans aa);obtain⟨tr,a1,x1,dt,du⟩:=HQ.o.at (i:=k) (by have:=l.o;omega);have cm:=Hi a1;have q3:(b:Int)<(R:Int):=by omega
      have q4:(k:Int)<(R:Int):=by omega
      have f:=(HQ.o.below bR.drew).swap am.o a1;have an:=az.o.step (b:=b) (s:=V.q) (t:=tr.q) (by rw[HK.o];exact dc) (by rw[List.getElem?_map,am.o];rfl) (by rw[List.getElem?_map,HK.o,a1];rfl) cj.o;rw[HK.o] at an;have ao:=Hi an;have f0:=(HQ.o.below bR.drew).mat.blk.free k;obtain⟨Z1,a2⟩:=nm ((wr.setCell ⟨g,k,none⟩ (.slice (some ⟨V.b,0,none⟩) W V.cap)).drew);have bt:SB Z1 g 103 ((rs.map PR.val++zs).toArray.setIfInBounds k (.slice (some ⟨V.b,0,none⟩) W V.cap)):=by
       rw[<-a2];exact(HQ.o.mat.blk.set k _).drew
      have f1:=bt.free b;obtain⟨y1,dg⟩:∃y,Z1.cell? ⟨g,b,none⟩=some y:=by
       rw[bt.cell];exact⟨_,Array.getElem?_eq_getElem (by simp;have:=l.o;omega)⟩
      obtain⟨Z,hZ⟩:=nm (Z1.setCell ⟨g,b,none⟩ (.slice (some ⟨tr.b,0,none⟩) W tr.cap));replace f:PQ w Z B g W K zs ((rs.set k V).set b tr) hs (.slice ta k tc):=by
       rw[<-hZ,<-a2];exact f
      obtain⟨ap,cn,cq⟩:=Ib f a2 hZ;clear aa a1 f an a2 hZ bt;go_wp2_with fail;have a:=cq2 wr.drew G x1;refine AnyDs.beg (D:=[13,15]) (by kernel_rfl) a ?_;refine Plan.of [0,1,2,3,4,5,6,7,8,9,10,11,12] ?_
      iterate 13
       first
        |(
         refine AnyDs.pp (v:=?_) (by rfl) (by kernel_rfl) (by kernel_rfl) (by kernel_rfl) (by kernel_rfl) (by exact fun _ _ _ h=>h) (fun _=>a) (Or.inl ⟨by rfl,?_⟩) ?_
         rotate_left
         (focus(intro wq E;clear E;first|(go_simp;done)|(go_simp;with_reducible rfl))))
        |(
         refine AnyDs.sp (v:=?_) (by rfl) (by kernel_rfl) (by kernel_rfl) (by kernel_rfl) (by kernel_rfl) (by kernel_rfl) (by exact fun _ _ _ h=>h) a (Or.inl ⟨by rfl,?_⟩) ?_
         rotate_left
         (focus(intro wq E;obtain⟨f,a3⟩:=E;first|(go_simp;done)|(go_simp;with_reducible rfl))))
       (try simp only[Act.put,sA,sB,sC])
      refine Plan.done ?_;clear a;refine AnyDs.ready (rs:=[13]) (by kernel_rfl) (by simp) ?_;refine AllDs.cons (by rfl) ?_ AllDs.nil;intro KK P;go_simp;(try dsimp only);refine P.out _ _ (fun h=>absurd (by decide) h) ?_;clear P KK;(try simp only[Act.put,sA,sB,sC]);rw[cn.o];refine AnyDs.takeP (i:=14) (v:=?_) rfl (by kernel_rfl) (by kernel_rfl) (by kernel_rfl) (by kernel_rfl) (fun _ _ _ h=>h) (Or.inl ⟨by rfl,?_⟩) (fun h=>absurd h (Qcl (d:=13) (by rfl) (by rfl))) ?_
      rotate_left
      .
       intro wq E;clear E
       first|(go_simp;done)|(go_simp;with_reducible rfl)
      (try simp only[Act.put,sA,sB,sC]);refine AnyDs.ready (rs:=[15]) (by kernel_rfl) (by simp) ?_;refine AllDs.cons (by rfl) ?_ AllDs.nil;intro KK P;go_simp;(try dsimp only);refine P.out _ _ (fun h=>absurd (by decide) h) ?_;clear P KK;(try simp only[Act.put,sA,sB,sC]);refine AnyDs.done (by kernel_rfl) ?_ _;rw[cq.o];clear G x1 f0 f1 dg cn cq;obtain⟨af,ab⟩:=nm ((rs.set k V).set b tr);have aq:af[k]?=some V:=by rw[<-ab];exact Qsn am.o cm.o
      have a4:O (af.length=R):=Hi (by rw[<-ab,Qgl];exact l.o);have f:=ap.o;rw[ab] at f;obtain⟨bu,bh⟩:=Ia aq ab;have bw:=f.wide V (mO aq);obtain⟨p,hp⟩:=nm (overAt c V.q);have HP:=Hi hp;have dh:O (∀d,Fits (p d) K):=Hi (fun d=>by
       rw[<-hp]
       exact bf.o _ _ _ ao.o k _ (Qeg (by rw[List.getElem?_map,am.o];rfl) (by rw[List.getElem?_map,cm.o];rfl)) d)
      have bi:O (∀d,W<=d->V.q d=p d):=Hi (fun d hd=>by rw[<-hp,q_far bw hd,Qso bw hd]);obtain⟨df,aa,G,ck,cl⟩:=f.at (i:=k) (by have:=a4.o;omega);obtain rfl:=Option.some.inj (aq.symm.trans aa);obtain⟨pk,x1,H,cr,_⟩:=f.num aq (j:=c) (by omega);obtain⟨cs,ct⟩:=Ia H cr;clear ap;have ap:=Hi f;have q5:(c:Int)<(W:Int):=by omega
      clear aq ab f hp aa H cr bw;go_wp2_with fail;clear G x1;go_loopw [67] (fun jv I=>∃(j:Nat) (ra:List PR),j<=W/\jv=.int .i64 j/\PQ w I B g W K zs ra hs (.slice ta k tc)/\Part af ra k j V.q p/\RatVal I pk (V.q c)) (fun jv _=>W - (intOf jv).toNat)
      case atStart=>exact⟨0,af,Nat.zero_le _,rfl,ap.o,Part.start _ bu.o,cs.o⟩
      case round=>
       obtain⟨j,ra,hj,rfl,F,ak,H⟩:=hrel;obtain⟨I,rfl⟩:∃I,I=wr:=⟨wr,rfl⟩;by_cases ad:j<W
       .
        obtain⟨r,hr,ar,X⟩:=ak.row;obtain⟨r',cu,G,cf,bs⟩:=F.at (i:=k) (by have:=ak.len;have:=a4.o;omega);obtain rfl:=Option.some.inj (hr.symm.trans cu);obtain⟨b1,x1,ag,ah,_⟩:=F.num hr ad;have cw:=X j lZ;rw[cw] at ag ah;have q6:(j:Int)<(W:Int):=by omega
        have T:=F.mat.blk.lt;have f0:=fun (u:Vz) (hb:Bl I u)=>(F.below hb).mat.free (j:=j) hr
        obtain⟨bx,a5,a6⟩:=Ib f0 G x1;have Q:O (RBag I I [(b1,V.q j,K),(pk,V.q c,K)]):=Hi (((F.glob ay.o ax).put H ct.o U).put ag ah U);obtain⟨C,di,bz,au⟩:=Ic F ak hr H;have b0:O (j<r.ts.length):=Hi (by rw[F.wide r (mO hr)];exact ad);clear hr ar X cu ag ah cw F ak H f0;go_wp2_with fail;have a:=cq2 I.drew G x1;refine AnyBut.beg (k:=15) (by kernel_rfl) a ?_;refine Plan.of [0,1,2,3,4,5,6,7,8,9,10,11,12] ?_
        iterate 13
         refine AnyBut.bp (v:=?_) (by rfl) (by kernel_rfl) (by kernel_rfl) (by kernel_rfl) (by kernel_rfl) (by exact fun _ _ _ h=>h) a (Or.inl ⟨by rfl,?_⟩) ?_
         rotate_left 1
         (focus(intro wq E;obtain⟨f,a3⟩:=E;first|(go_simp;done)|(go_simp;with_reducible rfl)));(try simp only[Act.put,sA,sB,sC])
        refine Plan.done ?_;clear a;refine AnyBut.one (i:=13) (by kernel_rfl) rfl (fun KK P=>?_);go_simp;apply cM;apply RBag.quoA (w0:=I);exact Q.o.drew;exact List.Mem.head _;exact List.Mem.tail _ (List.Mem.head _);omega;exact cj.o;rintro e wn ⟨nb,rfl,z⟩;have A:=Hi z.base;have b4:=Hi (z.ts _ (List.Mem.head _)).1;clear G x1 z;have G:=ce A.o T a5.o;have x1:=ce A.o bs a6.o;have f0:=bx.o wn A.o;refine P.out _ _ (fun _=>⟨G,x1⟩) ?_;clear P KK;(try simp only[Act.put,sA,sB,sC]);have a:=cq2 wn G x1;refine AnyBut.take (i:=14) (v:=?_) rfl (by kernel_rfl) (by kernel_rfl) (by kernel_rfl) (by kernel_rfl) (fun _ _ _ h=>h) (Or.inl ⟨by rfl,?_⟩) a ?_
        rotate_left 1
        .
         intro wq E;obtain⟨f,a3⟩:=E
         first|(go_simp;done)|(go_simp;with_reducible rfl)
        (try simp only[Act.put,sA,sB,sC]);clear a;refine AnyBut.one (i:=15) (by kernel_rfl) rfl (fun KK P=>?_);go_simp;refine P.out _ _ (fun h=>absurd rfl h) ?_;clear P KK;(try simp only[Act.put,sA,sB,sC]);refine AnyBut.done (by kernel_rfl) ?_ _;clear G x1 f0;have b5:O (RatVal wn nb (p j)):=Hi (by rw[<-HP.o];exact b4.o);go_wp2;go_roundw
        case rel=>exact⟨j+1,_,by omega,by go_num,(C.o.below A.o).put bz.o ad b5.o (dh.o j) U,di.o.step bz.o b0.o,(C.o.below A.o).val_put bz.o (au.o.below A.o)⟩
        case measure=>simp[intOf];omega
       .
        obtain rfl:W=j:=by omega
        obtain⟨HD,C⟩:=Ia (Done.start (c:=c) ak bi.o) F;clear F ak H cs;go_wp2_with fail;go_loopw [88] (fun iv I=>∃(i:Nat) (ra:List PR),i<=R/\iv=.int .i64 i/\PQ w I B g W K zs ra hs (.slice ta k tc)/\Done af ra c k i p) (fun iv _=>R - (intOf iv).toNat)
        case atStart=>exact⟨0,ra,Nat.zero_le _,rfl,C.o,HD.o⟩
        case round=>
         clear HD C;obtain⟨i,ra,hi,rfl,F,b6⟩:=hrel;obtain⟨I,rfl⟩:∃I,I=wr:=⟨wr,rfl⟩;obtain⟨C,ai⟩:=Ia F b6;have a7:O (ra.length=R):=Hi (b6.1.trans a4.o);clear F b6;by_cases db:i<R
         .
          have q6:(i:Int)<(R:Int):=by omega
          by_cases a8:i=k
          .
           subst a8;have e1:((i:Int) == (i:Int))=true:=by simp
           go_wp2;go_roundw
           case rel=>exact⟨i+1,ra,by omega,by go_num,C.o,ai.o.next rfl (fun _ _=>rfl) (fun r r1 h1 h2=>by rw[ai.o.2 i r r1 h1 h2,if_pos rfl,if_pos rfl])⟩
           case measure=>simp[intOf];omega
          .
           have e1:((i:Int) == (k:Int))=false:=by rw[beq_eq_false_iff_ne];omega
           obtain⟨r,hr,G,cf,bs⟩:=C.o.at (i:=i) (by have:=a7.o;omega);obtain⟨pb,x1,hv,hf,_⟩:=C.o.num hr (j:=c) (by omega);obtain⟨r1,ar⟩:∃r1,af[i]?=some r1:=⟨_,gE (by have:=a4.o;omega)⟩;have cx:r.q=r1.q:=by rw[ai.o.2 i r r1 hr ar,if_neg a8,if_neg (Nat.lt_irrefl _)]
           obtain⟨HS,aj,b7,b8,a9,ba,bb⟩:=If (RBag.sign (((C.o.glob ay.o ax)).put hv hf U) (List.Mem.head _)) hr ar cx hv hf a8;clear hv hf hr ar cx a8;by_cases hz:r.q c=0
           .
            have HZ:=Hi hz;rw[hz,Qkh] at HS;clear hz;go_wp2_with fail;go_fit HS.o;rintro e wn ⟨rfl,rfl⟩;go_wp2;go_roundw
            case rel=>
             refine⟨i+1,ra,by omega,by go_num,C.o,ai.o.next rfl (fun _ _=>rfl) (fun r' dj h1 h2=>?_)⟩;obtain rfl:=Option.some.inj (aj.o.symm.trans h1);obtain rfl:=Option.some.inj (b7.o.symm.trans h2);rw[if_neg bb.o,<-b8.o,Qsq HZ.o]
            case measure=>simp[intOf];omega
           .
            have sz:=(Qki hz).2;obtain⟨S,hS⟩:=nm (sgn3 (r.q c).num);rw[hS] at HS sz;obtain⟨v,hv⟩:=nm r.q;obtain⟨u,hu⟩:=nm (down c p v);obtain⟨HU,cy⟩:=Ia hu hv;have dk:O (∀d,Fits (u d) K):=Hi (fun d=>by
             have hh:=ao.o;have hd:∃x,(plStep c k b V.q tr.q (rs.map PR.q))[i]?=some x/\x=u:=by
              rw[<-hu,<-HP.o,<-hv,b8.o];refine⟨_,?_,rfl⟩;have e:((List.map PR.q rs).set k V.q).set b tr.q=af.map PR.q:=by rw[<-bh.o,List.map_set,List.map_set]
              rw[plStep,List.getElem?_mapIdx,e,List.getElem?_map,b7.o];simp only[Option.map_some,if_neg bb.o]
             obtain⟨x,hx,rfl⟩:=hd
             exact bf.o _ _ _ hh i _ hx d)
            have dl:=C.o.wide r (mO aj.o);have dm:O (∀d,W<=d->v d=u d):=Hi (fun d hd=>by
             have h1:p d=0:=by rw[<-bi.o d hd];exact q_far (ap.o.wide V (mO bu.o)) hd
             rw[<-hu]
             exact Qsp h1)
            have b9:=a9.o;have ca:=ba.o;rw[hv] at b9 ca;clear a9 ba;obtain⟨a9,ba,dn⟩:=Ib b9 ca (Part.start (rs:=ra) u aj.o);clear hz hS hu hv dl b9 ca;go_wp2_with fail;go_fit HS.o;rintro e wn ⟨rfl,rfl⟩;go_wp2_with fail;clear G x1;go_loopw [117] (fun jv I=>∃(j:Nat) (rb:List PR),j<=W/\jv=.int .i64 j/\PQ w I B g W K zs rb hs (.slice ta k tc)/\Part ra rb i j v u/\RatVal I pb (v c)) (fun jv _=>W - (intOf jv).toNat)
            case atStart=>exact⟨0,ra,Nat.zero_le _,rfl,C.o,by rw[<-cy.o];exact dn.o,a9.o⟩
            case round=>
             obtain⟨j,rb,hj,rfl,J,ae,H⟩:=hrel;obtain⟨wy,rfl⟩:∃wy,wy=wr:=⟨wr,rfl⟩;by_cases ad:j<W
             .
              obtain⟨r2,X,cz,bj⟩:=ae.row;obtain⟨ec,bk,G,dv,bl⟩:=J.at (i:=i) (by have:=ae.len;have:=a7.o;omega);obtain rfl:=Option.some.inj (X.symm.trans bk);obtain⟨b1,x1,ag,ah,_⟩:=J.num X ad;rw[bj j lZ] at ag ah;obtain⟨rk,bc,x2,dw,bm⟩:=J.at (i:=k) (by have:=ae.len;have:=a7.o;omega);obtain⟨b2,x3,hv2,cb,_⟩:=J.num bc ad;have bn:rk.q=p:=by
               rw[ae.other k (Ne.symm bb.o)] at bc;rw[ai.o.2 k rk V bc bu.o,if_pos rfl]
              rw[bn] at hv2 cb;have q7:(j:Int)<(W:Int):=by omega
              have T:=J.mat.blk.lt;obtain⟨bx,a5,a6,c0,c1⟩:=Id (fun (u:Vz) (hb:Bl wy u)=>(J.below hb).mat.free (j:=j) X) G x1 x2 x3;have Q:O (RBag wy wy [(b1,v j,K),(b2,p j,K),(pb,v c,K)]):=Hi ((((J.glob ay.o ax).put H ba.o U).put hv2 cb U).put ag ah U);obtain⟨bd,av,cc,au⟩:=Ic J ae X H;have b0:O (j<r2.ts.length):=Hi (by rw[J.wide r2 (mO X)];exact ad);clear X cz bj bk ag ah hv2 cb bc bn J ae H;go_wp2_with fail;have a:=cq4 wy.drew G x1 x2 x3;refine AnyBut.beg (k:=23) (by kernel_rfl) a ?_;refine Plan.of [0,1,2,3,4,5,6,7,8,9,10,11,12,13,14,15,16,17,18,19] ?_
              iterate 20
               refine AnyBut.bp (v:=?_) (by rfl) (by kernel_rfl) (by kernel_rfl) (by kernel_rfl) (by kernel_rfl) (by exact fun _ _ _ h=>h) a (Or.inl ⟨by rfl,?_⟩) ?_
               rotate_left 1
               (focus(intro wq E;obtain⟨f,a3,dp,dq⟩:=E;first|(go_simp;done)|(go_simp;with_reducible rfl)));(try simp only[Act.put,sA,sB,sC])
              refine Plan.done ?_;clear a;refine AnyBut.one (i:=20) (by kernel_rfl) rfl (fun KK P=>?_);go_simp;apply cM;apply RBag.mul (w0:=wy);exact Q.o.drew;exact List.Mem.tail _ (List.Mem.tail _ (List.Mem.head _));exact List.Mem.tail _ (List.Mem.head _);omega;rintro e wm ⟨b3,rfl,z⟩;clear Q;have Q:=Hi z;clear G x1 x2 x3 z;have G:=ce Q.o.base T a5.o;have x1:=ce Q.o.base bl a6.o;have x2:=ce Q.o.base T c0.o;have x3:=ce Q.o.base bm c1.o;refine P.out _ _ (fun _=>⟨G,x1,x2,x3⟩) ?_;clear P KK;(try simp only[Act.put,sA,sB,sC]);refine AnyBut.one (i:=21) (by kernel_rfl) rfl (fun KK P=>?_);go_simp;apply cM;apply RBag.sub (w0:=wy);exact Q.o
              exact List.Mem.tail _ (List.Mem.head _);exact List.Mem.head _;omega;rintro e wn ⟨nb,rfl,z⟩;have A:=Hi z.base;have b4:=Hi (z.ts _ (List.Mem.head _)).1;clear G x1 x2 x3 z;have G:=ce A.o T a5.o;have x1:=ce A.o bl a6.o;have x2:=ce A.o T c0.o;have x3:=ce A.o bm c1.o;have f0:=bx.o wn A.o;refine P.out _ _ (fun _=>⟨G,x1,x2,x3⟩) ?_;clear P KK;(try simp only[Act.put,sA,sB,sC]);have a:=cq4 wn G x1 x2 x3;refine AnyBut.take (i:=22) (v:=?_) rfl (by kernel_rfl) (by kernel_rfl) (by kernel_rfl) (by kernel_rfl) (fun _ _ _ h=>h) (Or.inl ⟨by rfl,?_⟩) a ?_
              rotate_left 1
              .
               intro wq E;obtain⟨f,a3,dp,dq⟩:=E
               first|(go_simp;done)|(go_simp;with_reducible rfl)
              (try simp only[Act.put,sA,sB,sC]);clear a;refine AnyBut.one (i:=23) (by kernel_rfl) rfl (fun KK P=>?_);go_simp;refine P.out _ _ (fun h=>absurd rfl h) ?_;clear P KK;(try simp only[Act.put,sA,sB,sC]);refine AnyBut.done (by kernel_rfl) ?_ _;clear G x1 x2 x3 f0;have b5:O (RatVal wn nb (u j)):=Hi (by rw[<-HU.o];exact b4.o);go_wp2;go_roundw
              case rel=>exact⟨j+1,_,by omega,by go_num,(bd.o.below A.o).put cc.o ad b5.o (dk.o j) U,av.o.step cc.o b0.o,(bd.o.below A.o).val_put cc.o (au.o.below A.o)⟩
              case measure=>simp[intOf];omega
             .
              obtain rfl:W=j:=by omega
              obtain⟨bd,av⟩:=Ia J ae;clear J ae H;go_wp2;go_roundw
              case rel=>
               refine⟨i+1,rb,by omega,by go_num,bd.o,ai.o.next av.o.len av.o.other (fun r' dj h1 h2=>?_)⟩;obtain⟨r3,h3,h4⟩:=av.o.done dm.o;obtain rfl:=Option.some.inj (h1.symm.trans h3);obtain rfl:=Option.some.inj (b7.o.symm.trans h2);rw[if_neg bb.o,h4,<-HU.o,<-cy.o,b8.o]
              case measure=>simp[intOf];omega
         .
          obtain rfl:R=i:=by omega
          have aw:=ai.o;rw[<-bh.o,<-HP.o] at aw;have bo:=aw.all l.o;have dr:O (Pl W N M (c+1) (ra.map PR.q) (hs++ [c])):=Hi (by rw[bo];exact ao.o);obtain⟨Y,hY⟩:=nm (I.alloc (.cells #[.int .i64 (c:Nat)] 3));have c2:Bl I Y:=by rw[<-hY];exact(Below.refl _ _).alloc lZ _
          have c3:Y.cell? ⟨I.heap.size,0,none⟩=some (.int .i64 (c:Nat)):=by rw[<-hY];exact Qa0 I _ _
          obtain⟨ed,w',c4,c5⟩:=(C.o.below c2).app (k:=c) (nb:=I.heap.size) (c:=1) c3 (by have:=HK.o;omega) 99;rw[<-hY] at c4;have ds:=Hi c5;clear aw bo hY c2 c3 c5;go_wp2;go_roundw
          case rel=>exact⟨c+1,ra,hs++ [c],by omega,by go_num,ds.o,dr.o,a7.o⟩
          case measure=>simp[intOf];omega
  .
   have c6:=Hi (And.intro HQ.o az.o);obtain rfl:c=n:=by omega
   go_wp2;go_ret;exact⟨rs,hs,_,rfl,c6.o.1,c6.o.2,l.o⟩
theorem PGrow.low{w:Vz}{B c:Nat}{v:Value}{d:List RT}(h:PGrow w B v d)(hB:c<=B):PGrow w c v d:=by
 refine⟨⟨⟨h.list.own.1,?_⟩,h.list.all⟩,h.vs⟩;rcases h.list.own.2 with a|⟨g,cap,b,a,e,f⟩
 . exact .inl a
 . exact .inr ⟨g,cap,b,a,Nat.le_trans hB e,f⟩
theorem RBag.unit{w0 w:Vz}{L:List (Nat × Rat × Nat)}(h:RBag w0 w L):
 Calls prog 92 #[.int .i64 1] w (RNew w0 L 1 1):=
 (ref_N 1 w (by decide)).mono fun e w' a=>h.new a Fits.one (by decide)
structure PV (w:Vz) (B g n K:Nat) (x:Vec) (ts:List RT):Prop where
 blk:PBlk w g ts
 low:B<=g
 len:ts.length=n
 q:∀(i:Nat) (t:RT),ts[i]?=some t->t.2.1=x i/\t.2.2<=K
theorem PV.below{w w':Vz}{B g n K:Nat}{x:Vec}{a:List RT}(h:PV w B g n K x a)(b:Bl w w'):PV w' B g n K x a:=⟨h.blk.below b,h.low,h.len,h.q⟩
theorem PV.get{w:Vz}{B g n K i:Nat}{x:Vec}{c:List RT}(h:PV w B g n K x c)(m:i<n):∃b k:Nat,c[i]?=some (b,x i,k)/\w.cell? ⟨g,i,none⟩=some (.pointer (some ⟨b,0,none⟩))/\RatVal w b (x i)/\Fits (x i) K/\0<K:=by
 obtain⟨⟨b,q,k⟩,a⟩:∃t,c[i]?=some t:=⟨_,gE (by rw[h.len];exact m)⟩;obtain⟨e,d⟩:=h.q i _ a;obtain⟨f,j,l⟩:=h.blk.vs _ (mO a);simp only at e d f j l;subst e;exact⟨b,k,a,h.blk.cell a,f,j.mono d,Nat.lt_of_lt_of_le l d⟩
theorem PV.set{w:Vz}{B g n K i b k:Nat}{x:Vec}{q:Rat}{d:List RT}(h:PV w B g n K x d)(f:i<n)(l:RatVal w b q)(m:Fits q k)(hk:0<k)(c:k<=K):PV (w.setCell ⟨g,i,none⟩ (.pointer (some ⟨b,0,none⟩))) B g n K (upd x i q) (d.set i (b,q,k)):=by
 refine⟨h.blk.set l m hk,h.low,by simpa using h.len,fun j t a=>?_⟩;by_cases e:j=i
 .
  rw[e,List.getElem?_set_self (by rw[h.len];exact f)] at a;obtain rfl:=Option.some.inj a;rw[e,Qan];exact⟨rfl,c⟩
 .
  rw[List.getElem?_set_ne (Ne.symm e)] at a;rw[Qad _ _ e];exact h.q j t a
theorem PV.mono{w:Vz}{B g n K K':Nat}{x:Vec}{a:List RT}(h:PV w B g n K x a)(hk:K<=K'):PV w B g n K' x a:=⟨h.blk,h.low,h.len,fun i t b=>⟨(h.q i t b).1,Nat.le_trans (h.q i t b).2 hk⟩⟩
theorem PV.of{w:Vz}{B g n:Nat}{a:List RT}(h:Noughts w g n n a)(hB:B<=g):PV w B g n 1 (fun _=>0) a:=by
 refine⟨⟨?_,h.vs⟩,hB,h.len,fun i t b=>?_⟩
 .
  have:=h.blk;rw[Nat.sub_self] at this
  simpa using this
 . obtain⟨c,d⟩:=h.zero t (mO b)
   exact⟨c,by rw[d];exact Nat.le_refl _⟩
theorem Qss(k:Nat):upd (fun _=>0) k 1=unitV k:=by
 funext i;simp only[upd,unitV]
theorem Qgm(n k:Nat)(w:Vz)(J:∃m,w.cell? ⟨4,0,none⟩=some (.int .i64 m))(hk:k<n)(P:n<=1000):
 Calls prog 49 #[.int .i64 n,.int .i64 k] w fun e w'=>∃(g:Nat) (v:List RT),e=.returned (.slice (some ⟨g,0,none⟩) n n)/\PV w' w.heap.size g n 1 (unitV k) v/\Below w.heap.size w w':=by
 have K:=Hi (RBag.start J);have x:=Qjg n (by omega) w;obtain⟨M,j⟩:=nm ((List.replicate n (Value.pointer none)).toArray);rw[j] at x;obtain⟨g,l⟩:=nm w.heap.size;obtain⟨V,C⟩:=nm (w.alloc (.cells M 84));have D:=Ua C;have E:O (Noughts V g n 0 []):=Hi ⟨by rw[<-C,<-l,<-j];exact SB.new w _ _,(fun t F=>by cases F),rfl,(fun t F=>by cases F)⟩;obtain⟨N,f⟩:=Ia C l;have Q:(k:Int)<(n:Int):=by omega
 clear J j C l;go_enter func49,ntmps49;go_wp2_with fail;rw[N.o];rw[f.o];clear x;go_loopw [11] (fun G wr=>∃(i:Nat) (v:List RT),i<=n/\G=.int .i64 i/\Noughts wr g n i v/\Below w.heap.size w wr) (fun G _=>n - (intOf G).toNat)
 case atStart=>exact⟨0,[],Nat.zero_le _,rfl,E.o,D.o⟩
 case round=>
  obtain⟨i,v,R,rfl,y,z⟩:=hrel;obtain⟨A,d⟩:=Ia y z;clear y z;by_cases H:i<n
  .
   have S:(i:Int)<(n:Int):=by omega
   have q:=Hi (RBag.nought ((K.o.below d.o).rebase));go_wp2_with fail;go_fit q.o;rintro e L ⟨b,rfl,a⟩;have r:=Hi a.base;have s:=Hi (a.ts _ (List.Mem.head _)).1;have c:=A.o.below a.base;have f0:=c.blk.free i;have t0:L.cell? ⟨g,i,none⟩=some (.pointer none):=by
    rw[c.blk.cell];have e:(v.map ptrV++List.replicate (n - i) (Value.pointer none)).toArray[i]?=(v.map ptrV++List.replicate (n - i) (Value.pointer none))[i]?:=by simp
    rw[e,List.getElem?_append_right (by rw[List.length_map,c.len];exact Nat.le_refl _),List.length_map,c.len,Nat.sub_self,List.getElem?_replicate,if_pos (by omega)]
   have u:=Hi c;clear a c;go_wp2;go_roundw
   case rel=>exact⟨i+1,_,by omega,by go_num,u.o.step H s.o,(d.o.trans (r.o.mono d.o.size)).setCell (p:=⟨g,i,none⟩) (Nat.le_of_eq f.o) _⟩
   case measure=>simp[intOf];omega
  .
   obtain rfl:n=i:=by omega
   obtain⟨I,q⟩:=Ia (PV.of (B:=w.heap.size) A.o (Nat.le_of_eq f.o)) (RBag.unit ((K.o.below d.o).rebase));go_wp2_with fail;go_fit q.o;rintro e L ⟨b,rfl,a⟩;have r:=Hi a.base;have s:=Hi (a.ts _ (List.Mem.head _)).1;have c:=I.o.below a.base;obtain⟨T,U,_,t0,_⟩:=c.get hk;have f0:=c.blk.blk.free k;have u:=Hi c;clear a c;go_wp2;go_ret;have h:=u.o.set hk s.o Fits.one Nat.one_pos lZ;rw[Qss] at h;exact⟨g,_,rfl,h,(d.o.trans (r.o.mono d.o.size)).setCell (p:=⟨g,k,none⟩) (Nat.le_of_eq f.o) _⟩
theorem Fs.grown{w w':Vz}{B n:Nat}{e:Vr}{v:Value}{xs:Vv}(c:Grow w B e 1 IsSl v n xs)(h:w.grownBy w' v.ownBlock):Fs w w':=by
 refine⟨h.size,fun b i u a hk=>h.block b (World.block_lt_of_cell? _ _ a) (fun e=>?_)⟩;obtain⟨C,hC,d⟩:=c.sb e.symm;rw[hC.cell] at a;exact hk (d u (mO (by rw[Array.getElem?_toList];exact a)))
theorem Qpv:52≠84:=by decide
theorem PV.grown{w w':Vz}{B f g n K m:Nat}{x:Vec}{a:List RT}{v:Value}{xs:Vv}(h:PV w B g n K x a)(b:Grow w f 52 1 IsSl v m xs)(c:w.grownBy w' v.ownBlock):PV w' B g n K x a:=by
 refine⟨⟨?_,fun t d=>⟨(h.blk.vs t d).1.fs (Fs.grown b c),(h.blk.vs t d).2⟩⟩,h.low,h.len,h.q⟩;have i:=c.block g h.blk.blk.lt (fun e=>by
  obtain⟨C,hC,_⟩:=b.sb e.symm
  exact hC.unlike h.blk.blk Qpv rfl)
 have:=h.blk.blk;unfold SB at this ⊢;rw[i];exact this
structure KR where
 g:Nat
 ts:List RT
def KR.val(n:Nat)(r:KR):Value:=.slice (some ⟨r.g,0,none⟩) n n
structure KerAt (w:Vz) (B n K:Nat) (v:Value) (ks:List KR) (xs:List Vec):Prop where
 list:Grow w B 52 1 IsSl v ks.length (ks.map (KR.val n))
 len:ks.length=xs.length
 each:∀(i:Nat) (r:KR) (x:Vec),ks[i]?=some r->xs[i]?=some x->PV w B r.g n K x r.ts
theorem KerAt.below{w w':Vz}{B n K:Nat}{v:Value}{a:List KR}{xs:List Vec}(h:KerAt w B n K v a xs)(b:Bl w w'):KerAt w' B n K v a xs:=⟨h.list.below b,h.len,fun i r x c d=>(h.each i r x c d).below b⟩
theorem PV.low'{w:Vz}{B a g n K:Nat}{x:Vec}{b:List RT}(h:PV w B g n K x b)(hB:a<=B):PV w a g n K x b:=⟨h.blk,Nat.le_trans hB h.low,h.len,h.q⟩
theorem KerAt.mono{w:Vz}{B a n K:Nat}{v:Value}{b:List KR}{xs:List Vec}(h:KerAt w B n K v b xs)(hB:a<=B):KerAt w a n K v b xs:=⟨h.list.mono hB,h.len,fun i r x c d=>(h.each i r x c d).low' hB⟩
theorem Qpw:(prog.info? 52).map (fun i=>(i.zero,i.size,i.bytes))=some (some (.slice .none 0 0),1,24):=by kernel_rfl
theorem KerAt.app{w:Vz}{B n K nb c:Nat}{v:Value}{b:List KR}{xs:List Vec}{r:KR}{x:Vec}(h:KerAt w B n K v b xs)(p:w.cell? ⟨nb,0,none⟩=some (r.val n))(q:PV w B r.g n K x r.ts)(G:b.length<=1000)(hB:B<=w.heap.size)(ty:Vr):
 ∃f w',appR prog 42 ty v (.slice (some ⟨nb,0,none⟩) 1 c) w=.ok f w'/\KerAt w' B n K f (b++ [r]) (xs++ [x])/\Below B w w':=by
 obtain⟨i,s,z⟩:=Option.map_eq_some_iff.1 Qpw;injection z with A l
 injection l with l C
 obtain⟨f,w',D,E,m,_⟩:=h.list.app (P:=prog) (t:=42) (ty:=ty) underlying42 s A l C rfl (by decide) (fun u d=>⟨none,0,0,by simpa [Value.cells] using d⟩) ⟨nb,0,none⟩ 1 c [r.val n] rfl (fun j u a=>by
  match j,a with
  |0,a=>
   obtain rfl:=Option.some.inj a
   exact p) (fun u d=>by obtain rfl:=List.mem_singleton.1 d;rfl) (fun u d=>by obtain rfl:=List.mem_singleton.1 d;exact⟨_,_,_,rfl⟩) (by omega) (by decide) hB
 refine⟨f,w',D,⟨?_,?_,fun j t y e k=>?_⟩,Qb4 m (fun g F=>(h.list.lt F).1) hB⟩
 . rw[List.length_append,List.length_singleton,List.map_append]
   exact E
 . rw[List.length_append,List.length_append,h.len];rfl
 .
  by_cases a:j<b.length
  .
   rw[List.getElem?_append_left a] at e;rw[List.getElem?_append_left (by rw[<-h.len];exact a)] at k;exact(h.each j t y e k).grown h.list m
  .
   have o:j=b.length:=by
    have:=(gZ e).1;simp at this;omega
   subst o;rw[List.getElem?_append_right lZ,Nat.sub_self] at e;rw[List.getElem?_append_right (by rw[h.len];exact Nat.le_refl _),<-h.len,Nat.sub_self] at k;cases e;cases k;exact q.grown h.list m
theorem Qpx{hs:Vy}{i t k:Nat}(a:hs[i]?=some t):k ∉ hs.take (i+1)↔k ∉ hs.take i/\t≠k:=by
 rw[List.take_add_one,a];simp only[Option.toList_some,List.mem_append,List.mem_singleton,not_or];exact and_congr_right fun _=>⟨fun h e=>h e.symm,fun h e=>h e.symm⟩
theorem Qpy(B g n N K R cp:Nat)(zs:Vv)(rs:List PR)(M:List Vec)(w:Vz)
 (G:∃m,w.cell? ⟨4,0,none⟩=some (.int .i64 m)) (H:4<B)
 (C:∀c L hs,Pl n N M c L hs->∀(j:Nat) (v:Vec),L[j]?=some v->∀i,Fits (v i) K) (aa:0<K) (hK:4*K<100000000000)
 (hq:PQ w w B g n K zs rs [] (.slice none 0 0)) (h0:Pl n N M 0 (rs.map PR.q) []) (hW:n<=1000) (hR:rs.length=R) (az:R<=1000) (a0:R<=cp):
 Calls prog 12 #[.slice (some ⟨g,0,none⟩) R cp,.int .i64 n] w fun e w'=>∃(L:List Vec) (hs:Vy) (v:Value) (u:List KR),e=.returned v/\Pl n N M n L hs/\KerAt w' w.heap.size n K v u ((freeTo hs n).map fun c=>nullF c L hs hs.length)/\Below B w w':=by
 obtain⟨ab,a1,a2,a3⟩:=Ic (Qsr B g n n N K R cp zs rs M w G H C aa hK hq h0 lZ hW hR az a0) hq.low G H;clear G H C hq h0 hR;go_enter func12,ntmps12;go_wp2_with fail;go_fit ab.o;rintro e w1 ⟨ad,hs,tv,rfl,a,I,ae⟩;obtain⟨ta,tc,rfl,_,af,_⟩:=Grow.slice a.told;have d:=I.cln.ech;have a4:hs.length<=ad.length:=by
  have:=d.len;rw[List.length_take,List.length_map] at this;omega
 obtain⟨a5,ag,ah,a6,ai,aj,a7⟩:=If (fun c hc=>(d.head c hc).2) a I ae af a.base.size (a.glob a2.o a3.o);obtain⟨L,hL⟩:=nm (ad.map PR.q);have a8:=Hi hL;have bo:hs.length<=R:=by omega
 rw[hL] at ah;clear a I ae af d a4 ab hL;go_wp2_with fail;go_loopw [7,6] (fun cv ov wr=>∃(k:Nat) (u:List KR),k<=n/\cv=.int .i64 k/\KerAt wr w1.heap.size n K ov u ((freeTo hs k).map (fun c=>nullF c L hs hs.length))/\Below w1.heap.size w1 wr) (fun cv _ _=>n - (intOf cv).toNat)
 case atStart=>exact⟨0,[],Nat.zero_le _,rfl,⟨Grow.nil _ _ _ _ _,rfl,fun i r x hr=>by simp at hr⟩,Below.refl _ _⟩
 case round=>
  obtain⟨k,u,hk,rfl,J,ak⟩:=hrel;obtain⟨y,b⟩:=Ia J ak;obtain⟨oa,oc,a9,_⟩:=Grow.slice J.list;subst a9;clear J ak;by_cases al:k<n
  .
   have q1:((k:Int)<(n:Int)):=by omega
   go_wp2_with fail;obtain⟨wv,rfl⟩:∃wv,wv=wr:=⟨wr,rfl⟩;go_loopw [24,8] (fun P fv wr=>∃i:Nat,i<=hs.length/\P=.int .i64 i/\fv=.bool (decide (k ∉ hs.take i))/\wr=wv) (fun P _ _=>hs.length - (intOf P).toNat)
   case atStart=>exact⟨0,Nat.zero_le _,rfl,by simp,rfl⟩
   case round=>
    obtain⟨i,hi,rfl,rfl,rfl⟩:=hrel;by_cases ba:i<hs.length
    .
     obtain⟨t,D⟩:∃t,hs[i]?=some t:=⟨_,gE ba⟩;obtain⟨tb,bb,rfl,bc,d0⟩:=(ai.o.below b.o).cell i (.int .i64 (t:Nat)) (by simp[headsV,D]);have q2:((i:Int)<(hs.length:Int)):=by omega
     have Q:=Hi (Qpx (k:=k) D);clear D;by_cases S:k ∉ hs.take i
     .
      rw[decide_eq_true S];by_cases e:t=k
      .
       have b1:((t:Int) != (k:Int))=false:=by rw[bne_eq_false_iff_eq];omega
       have HD:=Hi (decide_eq_false (show ¬k ∉ hs.take (i+1) from fun h=>(Q.o.1 h).2 e));clear S e;go_wp2;go_roundw
       case rel=>exact⟨i+1,by omega,by go_num,by rw[HD.o],trivial⟩
       case measure=>simp[intOf];omega
      .
       have b1:((t:Int) != (k:Int))=true:=by rw[bne_iff_ne];omega
       have HD:=Hi (decide_eq_true (show k ∉ hs.take (i+1) from Q.o.2 ⟨S,e⟩));clear S e;go_wp2;go_roundw
       case rel=>exact⟨i+1,by omega,by go_num,by rw[HD.o],trivial⟩
       case measure=>simp[intOf];omega
     .
      rw[decide_eq_false S];have HD:=Hi (decide_eq_false (show ¬k ∉ hs.take (i+1) from fun h=>S (Q.o.1 h).1));clear S;go_wp2;go_roundw
      case rel=>exact⟨i+1,by omega,by go_num,by rw[HD.o],trivial⟩
      case measure=>simp[intOf];omega
    .
     obtain rfl:i=hs.length:=by omega
     rw[List.take_length];by_cases hm:k∈ hs
     .
      rw[decide_eq_false (show ¬k ∉ hs from fun h=>h hm)];have T:O (freeTo hs (k+1)=freeTo hs k):=Hi (by rw[Qdf,if_pos hm]);clear hm;go_wp2;go_roundw
      case rel=>exact⟨k+1,u,by omega,by go_num,by rw[T.o];exact y.o,b.o⟩
      case measure=>simp[intOf];omega
     .
      rw[decide_eq_true (show k ∉ hs from hm)];have T:O (freeTo hs (k+1)=freeTo hs k++ [k]):=Hi (by rw[Qdf,if_neg hm]);have am:=Hi (Qgm n k wr (a7.o.below b.o).glob al hW);clear hm;go_wp2_with fail;go_fit am.o;rintro e w3 ⟨E,ts,rfl,f,an⟩;obtain⟨bd,be⟩:=Ia (f.mono (K':=K) (by omega)) an;clear f an am;go_wp2_with fail;obtain⟨U,rfl⟩:∃U,U=wr:=⟨wr,rfl⟩;go_loopw [42] (fun P wr=>∃(i:Nat) (ts:List RT),i<=hs.length/\P=.int .i64 i/\PV wr U.heap.size E n K (nullF k L hs i) ts/\Below U.heap.size U wr) (fun P _=>hs.length - (intOf P).toNat)
      case atStart=>exact⟨0,ts,Nat.zero_le _,rfl,bd.o,be.o⟩
      case round=>
       obtain⟨i,us,hi,rfl,f,V⟩:=hrel;obtain⟨ao,W,z⟩:=Ib f V (b.o.trans (V.mono b.o.size));clear f V;by_cases bf:i<hs.length
       .
        obtain⟨t,D⟩:∃t,hs[i]?=some t:=⟨_,gE bf⟩;obtain⟨tb,bb,rfl,bc,d0⟩:=(ai.o.below z.o).cell i (.int .i64 (t:Nat)) (by simp[headsV,D]);have ap:=a5.o t (mO D);have a:=ag.o.below z.o;obtain⟨r,hr,d1,bp,br⟩:=a.at (i:=i) (by have:=a6.o;omega);obtain⟨bq,d2,aq,Y,_⟩:=a.num hr al;have bg:O (nullF k L hs (i+1)=upd (nullF k L hs i) t (-(r.q k))):=Hi (Qec D (by rw[<-a8.o,List.getElem?_map,hr];rfl));obtain⟨bh,ar⟩:=Ia Y (Qt9 bq K (r.q k) wr aq Y (by omega));have q2:((i:Int)<(hs.length:Int)):=by omega
        have q3:((i:Int)<(R:Int)):=by omega
        have q4:((t:Int)<(n:Int)):=by omega
        have q5:((0:Int)<=(t:Int)):=by omega
        have q6:((0:Int)<=(k:Int)):=by omega
        clear D a hr aq Y;go_wp2_with fail;go_fit ar.o;rintro e w4 ⟨⟨nb,rfl,bi,au⟩,Z⟩;have l:=ao.o.below Z;obtain⟨pb,pk,_,x0,_,_,_⟩:=l.get ap;have f0:=l.blk.blk.free t;have bj:=Hi (l.set ap au bh.o.neg aa lZ);have bk:O (Bl U (w4.setCell ⟨E,t,none⟩ (.pointer (some ⟨nb,0,none⟩)))):=Hi ((W.o.trans (Z.mono W.o.size)).setCell (p:=⟨E,t,none⟩) l.low _);clear bi au Z l ar d0 d1 d2;go_wp2;go_roundw
        case rel=>exact⟨i+1,_,by omega,by go_num,by rw[bg.o];exact bj.o,bk.o⟩
        case measure=>simp[intOf];omega
       .
        obtain rfl:i=hs.length:=by omega
        obtain⟨X,hX⟩:=nm (wr.alloc (.cells #[.slice (some ⟨E,0,none⟩) n n] 52));have A:Bl wr X:=by rw[<-hX];exact(Below.refl _ _).alloc lZ _
        have s:=z.o.trans (A.mono z.o.size);have av:X.cell? ⟨wr.heap.size,0,none⟩=some (KR.val n ⟨E,us⟩):=by rw[<-hX];exact Qa0 wr _ _
        have aw:u.length<=1000:=by
         have h1:=y.o.len;rw[List.length_map] at h1;have h2:=Qdg hs k;omega
        obtain⟨v7,w7,F,ax,ay⟩:=((y.o.below W.o).below A).app (r:=⟨E,us⟩) (x:=nullF k L hs hs.length) (c:=1) av ((ao.o.below A).low' b.o.size) aw s.size 42;have bl:O (KerAt w7 w1.heap.size n K v7 (u++ [⟨E,us⟩]) ((freeTo hs (k+1)).map (fun c=>nullF c L hs hs.length))):=Hi (by rw[T.o,List.map_append];exact ax);have bm:=Hi (s.trans ay);have bn:appR prog 42 42 (.slice oa u.length oc) (.slice (some ⟨wr.heap.size,0,none⟩) 1 1) (wr.alloc (.cells #[.slice (some ⟨E,0,none⟩) n n] 52))=.ok v7 w7:=by rw[hX];exact F
        clear hX A s av aw F ax ay;go_wp2;go_roundw
        case rel=>exact⟨k+1,_,by omega,by go_num,bl.o,bm.o⟩
        case measure=>simp[intOf];omega
  .
   obtain rfl:k=n:=by omega
   go_wp2;go_ret;exact⟨L,hs,_,u,rfl,ah.o,y.o.mono aj.o,ag.o.base.trans (b.o.mono (Nat.le_trans a1.o aj.o))⟩
end Go.Proofs.YtppkmifkpjkgpaaGreatDoor
