import Derived.Test.YtppkmifkpjkgpaaGreatDoorE14StrA
namespace Go.Proofs.YtppkmifkpjkgpaaGreatDoor
open Go.RowKit
open Go.Proofs.Tryz
set_option linter.unusedSimpArgs false
set_option linter.unusedVariables false
set_option maxHeartbeats 8000000
set_option maxRecDepth 1000000
def stretch(p:Nat × Nat × Rat × Rat)(v:Vec):Rat:=p.2.2.1*(v (2*p.2.1) - v (2*p.1))+p.2.2.2*(v (2*p.2.1+1) - v (2*p.1+1))
theorem RBag.all{w0 w:Vz}{L M:List RT}(h:RBag w0 w L)(k:RVs w M):RBag w0 w (L++M):=⟨h.base,h.glob,fun t a=>by
 rcases List.mem_append.1 a with a|a
 . exact h.ts t a
 . exact k t a⟩
theorem Qwm(a1 a2 a3 av:Vx)(c1 c2 c3 cv i K:Nat)(F:List S2)(G:List B6)(hs:List H3)(b:B6)(p:Nat × Nat × Rat × Rat)(j:List RT)(w:Vz)(hg:∃m,w.cell? ⟨4,0,none⟩=some (.int .i64 m))(J:FrRow w a1 a2 a3 c1 c2 c3 F G hs)(hi:G[i]?=some b)(M:BarV 1048576 F b p)(n1:F.length<=10)(n2:G.length<=24)
 (k:PRow w av j) (hl:j.length=2*F.length) (hk:∀t,t∈ j->t.2.2<=K) (hK:4*K<200000000000):
 Calls prog 52 #[.agg #[.slice a1 F.length c1,.slice a2 G.length c2,.slice a3 hs.length c3],.int .i64 i,.slice av j.length cv] w fun e w'=>∃g,e=.returned (.pointer (some ⟨g,0,none⟩))/\RBag w w' [(g,stretch p (qv j),4*K+16777225)]:=by
 have af:=Hi (fun u (hu:Bl w u)=>Qlw a1 a2 a3 c1 c2 c3 i F G hs b p u ((RBag.start hg).below hu).glob (J.below hu) hi M n1 n2);obtain⟨s,t,x1,y1,x2,y2,e1,e2,_⟩:=M.ex;have hA:=M.a;have hB:=M.b;have ao:=(gZ hi).1;have ag:=(gZ e1).1;have ah:=(gZ e2).1;obtain⟨A,B,rx,ry⟩:=p;simp only at hA hB ag ah;obtain⟨⟨g1,q1,k1⟩,I⟩:∃t,j[2*B]?=some t:=⟨j[2*B]'(by omega),gE _⟩;obtain⟨⟨g2,q2,k2⟩,h2⟩:∃t,j[2*A]?=some t:=⟨j[2*A]'(by omega),gE _⟩;obtain⟨⟨g3,q3,k3⟩,h3⟩:∃t,j[2*B+1]?=some t:=⟨j[2*B+1]'(by omega),gE _⟩;obtain⟨⟨g4,q4,k4⟩,h4⟩:∃t,j[2*A+1]?=some t:=⟨j[2*A+1]'(by omega),gE _⟩;have N:=mO I;have P:=mO h2;have Q:=mO h3;have R:=mO h4
 have l1:=hk _ N;have l2:=hk _ P;have l3:=hk _ Q;have l4:=hk _ R;simp only at l1 l2 l3 l4;have ai:O (RVs w [(g1,q1,K),(g2,q2,K),(g3,q3,K),(g4,q4,K)]):=Hi (fun x hx=>by
  simp only[List.mem_cons,List.not_mem_nil,or_false] at hx;rcases hx with rfl|rfl|rfl|rfl
  . exact⟨(k.vs _ N).1,(k.vs _ N).2.1.mono l1,Nat.lt_of_lt_of_le (k.vs _ N).2.2 l1⟩
  . exact⟨(k.vs _ P).1,(k.vs _ P).2.1.mono l2,Nat.lt_of_lt_of_le (k.vs _ P).2.2 l2⟩
  . exact⟨(k.vs _ Q).1,(k.vs _ Q).2.1.mono l3,Nat.lt_of_lt_of_le (k.vs _ Q).2.2 l3⟩
  . exact⟨(k.vs _ R).1,(k.vs _ R).2.1.mono l4,Nat.lt_of_lt_of_le (k.vs _ R).2.2 l4⟩)
 have aj:O (stretch (A,B,rx,ry) (qv j)=rx*(q1 - q2)+ry*(q3 - q4)):=Hi (by
  simp only[stretch]
  rw[qv_at I,qv_at h2,qv_at h3,qv_at h4])
 obtain⟨S,vo,rfl,l,D0⟩:=k.at I;obtain⟨T,U,W,_,D1⟩:=k.at h2;cases W;obtain⟨T,U,W,_,D2⟩:=k.at h3;cases W;obtain⟨T,U,W,_,D3⟩:=k.at h4;cases W;simp only at D0 D1 D2 D3;have iI:((i:Int)<(G.length:Int)):=by omega
 obtain⟨X1,Y⟩:=nm (2*B);obtain⟨X2,Z⟩:=nm (2*A);obtain⟨Y1,aa⟩:=nm (2*B+1);obtain⟨Y2,ab⟩:=nm (2*A+1);rw[Y] at D0;rw[Z] at D1;rw[aa] at D2;rw[ab] at D3;have i1:(X1:Int)<(j.length:Int):=by omega
 have i2:(X2:Int)<(j.length:Int):=by omega
 have i3:(Y1:Int)<(j.length:Int):=by omega
 have i4:(Y2:Int)<(j.length:Int):=by omega
 have w1:IntKind.i64.wrap (2*(B:Int))=(X1:Int):=by rw[wrap_i64 _ (by omega) (by omega)];omega
 have w2:IntKind.i64.wrap (2*(A:Int))=(X2:Int):=by rw[wrap_i64 _ (by omega) (by omega)];omega
 have w3:IntKind.i64.wrap ((X1:Int)+1)=(Y1:Int):=by rw[wrap_i64 _ (by omega) (by omega)];omega
 have w4:IntKind.i64.wrap ((X2:Int)+1)=(Y2:Int):=by rw[wrap_i64 _ (by omega) (by omega)];omega
 clear Y Z aa ab;obtain⟨HF,HI⟩:=Ia J hi;obtain⟨NT,ad⟩:=nm j.length;rw[ad] at i1 i2 i3 i4 ⊢;clear hg J hi M e1 e2 k hl hk I h2 h3 h4 N P Q R l1 l2 l3 l4 ad;obtain⟨B0,H⟩:=nm w.heap.size;obtain⟨V,hV⟩:=nm (w.alloc (.cells #[.slice a1 F.length c1,.slice a2 G.length c2,.slice a3 hs.length c3] 26));have D:=Ua hV;have ae:=Uf hV H;obtain⟨HV,ak,al⟩:=Ib hV H (af.o V D.o);have ap:=D.o.size;clear hV H;go_enter func52,ntmps52;go_wp2_with fail;rw[HV.o];simp only[ak.o];go_fit al.o;rintro e X0 ⟨bx,bv,rfl,c⟩;have C:=c.base;have E:=D.o.trans (C.mono D.o.size)
 obtain⟨-,f1,-⟩:=zc (ae.o.below C ae.o.lt);obtain⟨bb,bo,rfl,aq,f2,f3,_⟩:=(HF.o.below E).b.bar HI.o;rw[hA] at f2;rw[hB] at f3;obtain⟨X,hX⟩:=nm X0.drew;have h:Bl w X:=by rw[<-hX];exact E.drew
 have am:=Hi h;have d:O (RBag X X [(bx,rx,8388611),(bv,ry,8388611),(g1,q1,K),(g2,q2,K),(g3,q3,K),(g4,q4,K)]):=Hi (by
  have I:=RBag.all (L:=[(bx,rx,8388611),(bv,ry,8388611)]) c.rebase (ai.o.below E);rw[<-hX]
  exact I.drew.rebase)
 have n:S<X.heap.size:=by have:=h.size;omega
 obtain⟨q,r,y,z,an⟩:=Id (ce h l D0) (ce h l D1) (ce h l D2) (ce h l D3) hX;clear c C E D0 D1 D2 D3 hA hB hX h;go_wp2_with fail;go_region;rw[an.o];clear f1 f2 f3;obtain⟨d0,d1,d2,d3⟩:=Jc d.o.base n q.o r.o y.o z.o;go_wp2_with fail
 go_region_held3 (fun v=>v.cell? ⟨S,vo+X1,none⟩=some (.pointer (some ⟨g1,0,none⟩))/\v.cell? ⟨S,vo+X2,none⟩=some (.pointer (some ⟨g2,0,none⟩))/\v.cell? ⟨S,vo+Y1,none⟩=some (.pointer (some ⟨g3,0,none⟩))/\v.cell? ⟨S,vo+Y2,none⟩=some (.pointer (some ⟨g4,0,none⟩))) ((first|(simp [*];done)|go_keep)) (first
  |
   (go_at_call_of 90 (Value.pointer (some ⟨g1,0,none⟩))
    apply cM;apply RBag.sub (w0:=X);(first|exact d.o|exact d.o.drew);(repeat(first|exact mH|apply mT));omega;rintro e wn ⟨b1,rfl,c⟩;clear d d0 d1 d2 d3;have d:=Hi c;clear c;obtain⟨d0,d1,d2,d3⟩:=Jc d.o.base n q.o r.o y.o z.o
    skip)
  |
   (go_at_call_of 91 (Value.pointer (some ⟨bx,0,none⟩))
    apply cM;apply RBag.mul (w0:=X);(first|exact d.o|exact d.o.drew);(repeat(first|exact mH|apply mT));omega;rintro e wn ⟨b2,rfl,c⟩;clear d d0 d1 d2 d3;have d:=Hi c;clear c;obtain⟨d0,d1,d2,d3⟩:=Jc d.o.base n q.o r.o y.o z.o
    skip)
  |
   (go_at_call_of 90 (Value.pointer (some ⟨g3,0,none⟩))
    apply cM;apply RBag.sub (w0:=X);(first|exact d.o|exact d.o.drew);(repeat(first|exact mH|apply mT));omega;rintro e wn ⟨b3,rfl,c⟩;clear d d0 d1 d2 d3;have d:=Hi c;clear c;obtain⟨d0,d1,d2,d3⟩:=Jc d.o.base n q.o r.o y.o z.o
    skip)
  |
   (go_at_call_of 91 (Value.pointer (some ⟨bv,0,none⟩))
    apply cM;apply RBag.mul (w0:=X);(first|exact d.o|exact d.o.drew);(repeat(first|exact mH|apply mT));omega;rintro e wn ⟨b4,rfl,c⟩;clear d d0 d1 d2 d3;have d:=Hi c;clear c;obtain⟨d0,d1,d2,d3⟩:=Jc d.o.base n q.o r.o y.o z.o
    skip)
  |
   (go_at_call_of 94 (Value.pointer (some ⟨b2,0,none⟩))
    apply cM;apply RBag.add (w0:=X);(first|exact d.o|exact d.o.drew);(repeat(first|exact mH|apply mT));omega;rintro e wn ⟨b5,rfl,c⟩;clear d d0 d1 d2 d3;have d:=Hi c;clear c;obtain⟨d0,d1,d2,d3⟩:=Jc d.o.base n q.o r.o y.o z.o
    skip)
  |fail)
 all_goals
  clear d0 d1 d2 d3;go_wp2;go_ret;refine⟨b5,rfl,(by first|exact d.o|exact d.o.drew:RBag X _ _).mono am.o (fun f J=>?_)⟩;obtain rfl:=List.mem_singleton.1 J;rw[aj.o];exact⟨_,List.Mem.head _,by simp only;omega⟩
structure PBlk (w:Vz) (g:Nat) (ts:List RT):Prop where
 blk:SB w g 84 (ts.map ptrV).toArray
 vs:RVs w ts
theorem PBlk.below{w w':Vz}{g:Nat}{a:List RT}(h:PBlk w g a)(b:Bl w w'):PBlk w' g a:=⟨h.blk.below b h.blk.lt,h.vs.below b⟩
theorem PBlk.cell{w:Vz}{g i:Nat}{a:List RT}{t:RT}(h:PBlk w g a)(b:a[i]?=some t):w.cell? ⟨g,i,none⟩=some (.pointer (some ⟨t.1,0,none⟩)):=by
 rw[h.blk.cell];simp[b,ptrV]
theorem PBlk.set{w:Vz}{g i b k:Nat}{q:Rat}{a:List RT}(h:PBlk w g a)(e:RatVal w b q)(f:Fits q k)(hk:0<k):PBlk (w.setCell ⟨g,i,none⟩ (.pointer (some ⟨b,0,none⟩))) g (a.set i (b,q,k)):=by
 have j:Only g w (w.setCell ⟨g,i,none⟩ (.pointer (some ⟨b,0,none⟩))):=(Only.refl g w).setCell _ _;have d:=Fp.of_only j h.blk (fun u l=>Qcm a u (by simpa using l));refine⟨?_,fun t c=>?_⟩
 .
  have:=h.blk.set i (.pointer (some ⟨b,0,none⟩));rw[List.map_set]
  simpa [ptrV] using this
 .
  rcases List.mem_or_eq_of_mem_set c with c|rfl
  . exact(h.vs.fp d) t c
  . exact⟨e.fp d,f,hk⟩
theorem Qqj(n:Nat):madeCells (Value.cells (.pointer none)) n=(List.replicate n (Value.pointer none)).toArray:=by
 have e:Value.cells (.pointer none)=#[.pointer none]:=by rfl
 rw[e];apply Array.ext';rw[toList_madeCells_one]
theorem Qjg(n:Nat)(d:n<=1048576)(w:Vz):(Instr.makeSlice 52 (.int .i64 n) (.int .i64 n)).run prog w=.ok (.slice (some ⟨w.heap.size,0,.none⟩) n n) (w.alloc (.cells (List.replicate n (Value.pointer none)).toArray 84)):=by
 obtain⟨i,a,h⟩:=Option.map_eq_some_iff.1 Qkr;simp only[Prod.mk.injEq] at h;obtain⟨b,hs,c⟩:=h;have:=run_make w 52 84 i _ underlying52 a b .i64 .i64 n n (by omega) (by omega) (by rw[c];omega) (by omega);rw[Int.toNat_natCast,hs,Nat.mul_one,Qqj] at this;exact this
theorem Qqk{n k:Nat}{x z:Value}{l:Vv}(hk:k<n)(hl:l.length=k):(l++List.replicate (n - k) z).set k x=(l++ [x])++List.replicate (n - (k+1)) z:=by
 rw[show n - k=(n - (k+1))+1 by omega,List.replicate_succ,List.set_append_right _ _ (by omega),hl,Nat.sub_self,List.set_cons_zero];simp
structure Noughts (w:Vz) (g n k:Nat) (ts:List RT):Prop where
 blk:SB w g 84 (ts.map ptrV++List.replicate (n - k) (Value.pointer none)).toArray
 vs:RVs w ts
 len:ts.length=k
 zero:∀t,t∈ ts->t.2.1=0/\t.2.2=1
theorem Noughts.below{w w':Vz}{g n k:Nat}{a:List RT}(h:Noughts w g n k a)(b:Bl w w'):Noughts w' g n k a:=⟨h.blk.below b h.blk.lt,h.vs.below b,h.len,h.zero⟩
theorem Noughts.step{w:Vz}{g n k b:Nat}{d:List RT}(h:Noughts w g n k d)(hk:k<n)(f:RatVal w b 0):Noughts (w.setCell ⟨g,k,none⟩ (.pointer (some ⟨b,0,none⟩))) g n (k+1) (d++ [(b,0,1)]):=by
 have i:Only g w (w.setCell ⟨g,k,none⟩ (.pointer (some ⟨b,0,none⟩))):=(Only.refl g w).setCell _ _;have e:=Fp.of_only i h.blk (fun u c=>by
  simp only[List.toList_toArray,List.mem_append] at c;rcases c with c|c
  . exact Qcm d u c
  . obtain⟨_,rfl⟩:=List.mem_replicate.1 c
    exact⟨_,rfl⟩)
 refine⟨?_,fun t a=>?_,by simp[h.len],fun t a=>?_⟩
 .
  have:=h.blk.set k (.pointer (some ⟨b,0,none⟩));rw[List.setIfInBounds_toArray,Qqk hk (by rw[List.length_map];exact h.len)] at this;rw[List.map_append];exact this
 .
  rcases List.mem_append.1 a with a|a
  . exact(h.vs.fp e) t a
  . obtain rfl:=List.mem_singleton.1 a
    exact⟨f.fp e,Fits.zero,Nat.one_pos⟩
 .
  rcases List.mem_append.1 a with a|a
  . exact h.zero t a
  . obtain rfl:=List.mem_singleton.1 a
    exact⟨rfl,rfl⟩
structure PR where
 b:Nat
 cap:Nat
 ts:List RT
 sp:List Value
def PR.val(r:PR):Value:=.slice (some ⟨r.b,0,none⟩) r.ts.length r.cap
def PR.cells(r:PR):List Value:=r.ts.map ptrV++r.sp
def PR.put(r:PR)(j:Nat)(t:RT):PR:=⟨r.b,r.cap,r.ts.set j t,r.sp⟩
def ratV(ts:List RT):Vec:=fun i=>match ts[i]? with
 |some t=>t.2.1
 |none=>0
def PR.q(r:PR):Vec:=ratV r.ts
theorem Qkd{a:List RT}{i:Nat}{t:RT}(h:a[i]?=some t):ratV a i=t.2.1:=by simp only[ratV,h]
theorem Qke{a:List RT}{i:Nat}(h:a.length<=i):ratV a i=0:=by simp only[ratV,List.getElem?_eq_none h]
theorem PR.put_val(r:PR)(j:Nat)(t:RT):(r.put j t).val=r.val:=by simp[PR.put,PR.val]
theorem IsSl.of_val(r:PR):IsSl r.val:=⟨_,_,_,rfl⟩
theorem Qee:84≠103:=by decide
theorem Qkf:3≠103:=by decide
theorem Qkg:3≠84:=by decide
structure Fs (w w':Vz):Prop where
 size:w.heap.size<=w'.heap.size
 keep:∀b i u,w.cell? ⟨b,i,none⟩=some u->¬IsSl u->w'.heap[b]?=w.heap[b]?
theorem Fs.cell{w w':Vz}(h:Fs w w'){b i:Nat}{u:Value}(a:w.cell? ⟨b,i,none⟩=some u)(hk:¬IsSl u)(j:Nat):w'.cell? ⟨b,j,none⟩=w.cell? ⟨b,j,none⟩:=World.cell?_of_block (w:=w) (h.keep b i u a hk)
theorem Fs.of_only{w w':Vz}{g:Nat}{t:Vr}{C:Vw}(c:Only g w w')(hs:SB w g t C)(hC:∀u,u∈ C.toList->IsSl u):Fs w w':=by
 refine⟨c.size,fun b i u a hk=>c.block b (World.block_lt_of_cell? _ _ a) ?_⟩;rintro rfl;rw[hs.cell] at a;exact hk (hC u (mO (by rw[Array.getElem?_toList];exact a)))
theorem Qsl(x:Bool):¬IsSl (.bool x):=fun ⟨_,_,_,e⟩=>by cases e
theorem Qsm(k:IntKind)(n:Int):¬IsSl (.int k n):=fun ⟨_,_,_,e⟩=>by cases e
theorem Row.fs{k:IntKind}{w w':Vz}{a:Vx}{cap:Nat}{l:Vy}(h:Row k w a cap l)(c:Fs w w'):Row k w' a cap l:=by
 refine⟨h.fit,?_,fun i g=>?_⟩
 .
  rcases h.shape with d|⟨e,b,rfl,j⟩
  . exact .inl d
  . exact .inr ⟨e,b,rfl,by have:=c.size;omega⟩
 . obtain⟨e,b,d,j,f⟩:=h.cell i g
   exact⟨e,b,d,by have:=c.size;omega,(c.cell f (Qsm _ _) _).trans f⟩
theorem RatVal.fs{w w':Vz}{b:Nat}{q:Rat}(h:RatVal w b q)(c:Fs w w'):RatVal w' b q:=by
 obtain⟨D,d,c1,f,g,c2,i,a,j⟩:=h;refine⟨D,d,c1,f,g,c2,i,⟨?_,⟨a.num.row.fs c,a.num.num,a.num.short⟩,⟨a.den.row.fs c,a.den.num,a.den.short⟩⟩,j⟩;have hs:=a.sb;have e:=c.keep b 0 _ (by rw[hs.cell];rfl) (Qsl _);unfold SB at hs ⊢;rw[e];exact hs
structure PMat (w:Vz) (B g:Nat) (zs:Vv) (rs:List PR):Prop where
 blk:SB w g 103 (rs.map PR.val++zs).toArray
 room:∀u,u∈ zs->IsSl u
 low:B<=g
 row:∀r,r∈ rs->SB w r.b 84 r.cells.toArray/\B<=r.b/\(∀u,u∈ r.sp->IsPt u)/\r.ts.length<=r.cap
 vs:∀r,r∈ rs->RVs w r.ts
 apart:∀(i j:Nat) (a b:PR),i≠j->rs[i]?=some a->rs[j]?=some b->a.b≠b.b
theorem PMat.below{w w':Vz}{B g:Nat}{c:Vv}{rs:List PR}(h:PMat w B g c rs)(b:Bl w w'):PMat w' B g c rs:=
 ⟨h.blk.below b h.blk.lt,h.room,h.low,fun r a=>⟨(h.row r a).1.below b (h.row r a).1.lt,(h.row r a).2⟩,fun r a=>(h.vs r a).below b,h.apart⟩
theorem PMat.slot{w:Vz}{B g i:Nat}{b:Vv}{rs:List PR}{r:PR}(h:PMat w B g b rs)(a:rs[i]?=some r):w.cell? ⟨g,i,none⟩=some r.val:=by
 rw[h.blk.cell,List.getElem?_toArray,List.getElem?_append_left (by simpa using (gZ a).1)];simp[a]
theorem PMat.num{w:Vz}{B g i j:Nat}{c:Vv}{rs:List PR}{r:PR}{t:RT}(h:PMat w B g c rs)(d:rs[i]?=some r)(a:r.ts[j]?=some t):w.cell? ⟨r.b,j,none⟩=some (.pointer (some ⟨t.1,0,none⟩)):=by
 rw[(h.row r (mO d)).1.cell];have hl:=(gZ a).1;simp only[PR.cells,List.getElem?_toArray];rw[List.getElem?_append_left (by simpa using hl)];simp[a,ptrV]
theorem PMat.free{w:Vz}{B g i j:Nat}{a:Vv}{rs:List PR}{r:PR}(h:PMat w B g a rs)(c:rs[i]?=some r):w.frozen? ⟨r.b,j,none⟩=false:=(h.row r (mO c)).1.free j
theorem PMat.val{w:Vz}{B g i j:Nat}{a:Vv}{rs:List PR}{r:PR}{t:RT}(h:PMat w B g a rs)(b:rs[i]?=some r)(c:r.ts[j]?=some t):RatVal w t.1 t.2.1/\Fits t.2.1 t.2.2/\0<t.2.2:=h.vs r (mO b) t (mO c)
theorem PMat.swap{w:Vz}{B g k b:Nat}{E:Vv}{rs:List PR}{s t:PR}(h:PMat w B g E rs)(p:rs[b]?=some s)(hk:rs[k]?=some t):
 PMat ((w.setCell ⟨g,k,none⟩ s.val).setCell ⟨g,b,none⟩ t.val) B g E ((rs.set k s).set b t)/\Only g w ((w.setCell ⟨g,k,none⟩ s.val).setCell ⟨g,b,none⟩ t.val):=by
 have q:Only g w ((w.setCell ⟨g,k,none⟩ s.val).setCell ⟨g,b,none⟩ t.val):=((Only.refl g w).setCell _ _).setCell _ _;have f:=(gZ p).1;have l:=(gZ hk).1;have c:∀r,r∈ (rs.set k s).set b t->r∈ rs:=fun r a=>by
  rcases List.mem_or_eq_of_mem_set a with a|rfl
  .
   rcases List.mem_or_eq_of_mem_set a with a|rfl
   . exact a
   . exact mO p
  . exact mO hk
 have v:=Fs.of_only q h.blk (fun x d=>by
  simp only[List.toList_toArray,List.mem_append,List.mem_map] at d;rcases d with ⟨y,_,rfl⟩|d
  . exact IsSl.of_val y
  . exact h.room x d)
 have z:=fun r a=>(h.row r a).1.unlike h.blk Qee
 have A:∀r,r∈ rs->RVs ((w.setCell ⟨g,k,none⟩ s.val).setCell ⟨g,b,none⟩ t.val) r.ts:=fun r a u F=>by
  obtain⟨G,H⟩:=h.vs r a u F;exact⟨G.fs v,H⟩
 refine⟨⟨?_,h.room,h.low,fun r a=>⟨(h.row r (c r a)).1.only q (z r (c r a)),(h.row r (c r a)).2⟩,fun r a=>A r (c r a),?_⟩,q⟩
 .
  have:=(h.blk.set k s.val).set b t.val;rw[List.setIfInBounds_toArray,List.setIfInBounds_toArray,List.set_append_left _ _ (by simpa using l),List.set_append_left _ _ (by simpa using f)] at this;rw[List.map_set,List.map_set];exact this
 .
  intro i j x y I d J;have m:∀(i:Nat) (x:PR),((rs.set k s).set b t)[i]?=some x->∃e,rs[e]?=some x/\(i=b/\e=k∨i≠b/\i=k/\e=b∨i≠b/\i≠k/\e=i):=fun i x d=>by
   by_cases n:i=b
   .
    rw[n,List.getElem?_set_self (by rw[List.length_set];exact f)] at d;obtain rfl:=Option.some.inj d;exact⟨k,hk,.inl ⟨n,rfl⟩⟩
   .
    rw[List.getElem?_set_ne (Ne.symm n)] at d;by_cases o:i=k
    .
     rw[o,List.getElem?_set_self l] at d;obtain rfl:=Option.some.inj d;exact⟨b,p,.inr (.inl ⟨n,o,rfl⟩)⟩
    . rw[List.getElem?_set_ne (Ne.symm o)] at d
      exact⟨i,d,.inr (.inr ⟨n,o,rfl⟩)⟩
  obtain⟨e,C,L⟩:=m i x d;obtain⟨K,D,M⟩:=m j y J;exact h.apart e K x y (by omega) C D
theorem PMat.put{w:Vz}{B g i j nb K:Nat}{q:Rat}{C:Vv}{rs:List PR}{r:PR}(h:PMat w B g C rs)(k:rs[i]?=some r)(D:j<r.ts.length)(E:RatVal w nb q)(F:Fits q K)(G:0<K):
 PMat (w.setCell ⟨r.b,j,none⟩ (.pointer (some ⟨nb,0,none⟩))) B g C (rs.set i (r.put j (nb,q,K)))/\Only r.b w (w.setCell ⟨r.b,j,none⟩ (.pointer (some ⟨nb,0,none⟩))):=by
 have p:Only r.b w (w.setCell ⟨r.b,j,none⟩ (.pointer (some ⟨nb,0,none⟩))):=(Only.refl r.b w).setCell _ _;have f:=h.row r (mO k);have d:=(gZ k).1;have v:=Fp.of_only p f.1 (fun u c=>by
  simp only[PR.cells,List.toList_toArray,List.mem_append] at c;rcases c with c|c
  . exact Qcm r.ts u c
  . exact f.2.2.1 u c)
 have z:=fun m s a hs=>h.apart m i s r a hs k
 refine⟨⟨?_,h.room,h.low,fun s hs=>?_,fun s hs=>?_,?_⟩,p⟩
 .
  rw[List.map_set,PR.put_val];have e:(rs.map PR.val).set i r.val=rs.map PR.val:=by
   apply List.ext_getElem?;intro m;by_cases e:m=i
   .
    subst e;rw[List.getElem?_set_self (by simpa using d)];simp[k]
   . rw[List.getElem?_set_ne (Ne.symm e)]
  rw[e];exact h.blk.only p (fun e=>(f.1.unlike h.blk Qee) e.symm)
 .
  obtain⟨m,a⟩:=List.mem_iff_getElem?.1 hs;by_cases e:m=i
  .
   subst e;rw[List.getElem?_set_self d] at a;obtain rfl:=Option.some.inj a;refine⟨?_,f.2.1,f.2.2.1,by simpa [PR.put] using f.2.2.2⟩;have:=f.1.set j (.pointer (some ⟨nb,0,none⟩));have e:(r.put j (nb,q,K)).cells.toArray=r.cells.toArray.setIfInBounds j (.pointer (some ⟨nb,0,none⟩)):=by
    simp only[PR.put,PR.cells,List.setIfInBounds_toArray,List.map_set];rw[List.set_append_left _ _ (by simpa using D)];rfl
   rw[e];exact this
  . rw[List.getElem?_set_ne (Ne.symm e)] at a
    exact⟨(h.row s (mO a)).1.only p (z m s e a),(h.row s (mO a)).2⟩
 .
  obtain⟨m,a⟩:=List.mem_iff_getElem?.1 hs;by_cases e:m=i
  .
   subst e;rw[List.getElem?_set_self d] at a;obtain rfl:=Option.some.inj a;intro u c;rcases List.mem_or_eq_of_mem_set c with c|rfl
   . exact((h.vs r (mO k)).fp v) u c
   . exact⟨E.fp v,F,G⟩
  . rw[List.getElem?_set_ne (Ne.symm e)] at a
    exact(h.vs s (mO a)).fp v
 .
  intro m n x y A l H;have o:∀(m:Nat) (x:PR),(rs.set i (r.put j (nb,q,K)))[m]?=some x->∃t,rs[m]?=some t/\t.b=x.b:=fun m x l=>by
   by_cases e:m=i
   .
    rw[e,List.getElem?_set_self d] at l;obtain rfl:=Option.some.inj l;exact⟨r,by rw[e];exact k,rfl⟩
   . rw[List.getElem?_set_ne (Ne.symm e)] at l
     exact⟨x,l,rfl⟩
  obtain⟨t,I,J⟩:=o m x l;obtain⟨L,M,N⟩:=o n y H;rw[<-J,<-N];exact h.apart m n t L A I M
theorem RatVal.grownI{w w':Vz}{b B n:Nat}{q:Rat}{v:Value}{xs:Vv}(h:RatVal w b q)(d:Grow w B 3 1 IsI v n xs)(a:w.grownBy w' v.ownBlock):RatVal w' b q:=by
 rcases ho:v.ownBlock with _|g
 . rw[ho] at a
   exact h.below ⟨a.os,a.tape,a.output,a.size,fun k hk=>a.block k hk (by simp)⟩
 .
  obtain⟨C,f,j⟩:=d.sb ho;rw[ho] at a;refine h.only32 ⟨a.os,a.tape,a.output,a.size,fun k hk c=>a.block k hk (by simpa using c)⟩ f (by decide) (fun i m e=>?_);obtain⟨x,l⟩:=j _ (mO (by rw[Array.getElem?_toList];exact e));cases l
structure PQ (w wr:Vz) (B g W K:Nat) (zs:Vv) (rs:List PR) (hs:Vy) (tv:Value):Prop where
 mat:PMat wr B g zs rs
 wide:∀r,r∈ rs->r.ts.length=W
 tag:∀r,r∈ rs->∀t,t∈ r.ts->t.2.2=K
 told:Grow wr w.heap.size 3 1 IsI tv hs.length (headsV hs)
 base:Below B w wr
 low:B<=w.heap.size
section
variable {w wr:Vz} {B g W K:Nat} {zs:Vv} {rs:List PR} {hs:Vy} {tv:Value}
theorem PQ.below{w':Vz}(h:PQ w wr B g W K zs rs hs tv)(a:Bl wr w'):PQ w w' B g W K zs rs hs tv:=
 ⟨h.mat.below a,h.wide,h.tag,h.told.below a,h.base.trans (a.mono (Nat.le_trans h.low h.base.size)),h.low⟩
theorem PQ.told_only{w':Vz}{c:Nat}{t:Vr}{C:Vw}(h:PQ w wr B g W K zs rs hs tv)(b:Only c wr w')(a:SB wr c t C)(d:3≠t):Grow w' w.heap.size 3 1 IsI tv hs.length (headsV hs):=
 h.told.keep fun k hk=>b.block k (h.told.lt hk).2 (by
  obtain⟨D,d1,_⟩:=h.told.sb hk
  exact d1.unlike a d)
theorem PQ.at(h:PQ w wr B g W K zs rs hs tv){i:Nat}(d:i<rs.length):∃r:PR,rs[i]?=some r/\wr.cell? ⟨g,i,none⟩=some (.slice (some ⟨r.b,0,none⟩) W r.cap)/\W<=r.cap/\r.b<wr.heap.size:=by
 obtain⟨r,c⟩:∃r,rs[i]?=some r:=⟨_,gE d⟩;have a:=mO c;refine⟨r,c,?_,?_,(h.mat.row r a).1.lt⟩
 . rw[h.mat.slot c,PR.val,h.wide r a]
 . rw[<-h.wide r a]
   exact(h.mat.row r a).2.2.2
theorem PQ.num(h:PQ w wr B g W K zs rs hs tv){i j:Nat}{r:PR}(c:rs[i]?=some r)(l:j<W):∃b:Nat,wr.cell? ⟨r.b,j,none⟩=some (.pointer (some ⟨b,0,none⟩))/\RatVal wr b (r.q j)/\Fits (r.q j) K/\0<K:=by
 have d:=mO c;obtain⟨t,a⟩:∃t,r.ts[j]?=some t:=⟨_,gE (by rw[h.wide r d];exact l)⟩;obtain⟨m,f,k⟩:=h.mat.val c a;have e:=h.tag r d t (mO a);rw[e] at f k;refine⟨t.1,h.mat.num c a,?_⟩;rw[show r.q j=t.2.1 from Qkd a];exact⟨m,f,k⟩
theorem PQ.swap(h:PQ w wr B g W K zs rs hs tv){k b:Nat}{s t:PR}(d:rs[b]?=some s)(hk:rs[k]?=some t):PQ w ((wr.setCell ⟨g,k,none⟩ (.slice (some ⟨s.b,0,none⟩) W s.cap)).setCell ⟨g,b,none⟩ (.slice (some ⟨t.b,0,none⟩) W t.cap)) B g W K zs ((rs.set k s).set b t) hs tv:=by
 have f:Value.slice (some ⟨s.b,0,none⟩) W s.cap=s.val:=by rw[PR.val,h.wide s (mO d)]
 have i:Value.slice (some ⟨t.b,0,none⟩) W t.cap=t.val:=by rw[PR.val,h.wide t (mO hk)]
 rw[f,i];obtain⟨j,e⟩:=h.mat.swap d hk;have c:∀r,r∈ (rs.set k s).set b t->r∈ rs:=fun r a=>by
  rcases List.mem_or_eq_of_mem_set a with a|rfl
  .
   rcases List.mem_or_eq_of_mem_set a with a|rfl
   . exact a
   . exact mO d
  . exact mO hk
 exact⟨j,fun r a=>h.wide r (c r a),fun r a=>h.tag r (c r a),h.told_only e h.mat.blk Qkf,h.base.trans (e.below h.mat.low (Nat.le_trans h.low h.base.size)),h.low⟩
theorem PQ.put(h:PQ w wr B g W K zs rs hs tv){i j nb:Nat}{r:PR}{q:Rat}(e:rs[i]?=some r)(k:j<W)(l:RatVal wr nb q)(m:Fits q K)(n:0<K):PQ w (wr.setCell ⟨r.b,j,none⟩ (.pointer (some ⟨nb,0,none⟩))) B g W K zs (rs.set i (r.put j (nb,q,K))) hs tv:=by
 have c:=mO e;have o:=(gZ e).1;obtain⟨p,f⟩:=h.mat.put e (by rw[h.wide r c];exact k) l m n;refine⟨p,fun x a=>?_,fun x a t d=>?_,h.told_only f (h.mat.row r c).1 Qkg,h.base.trans (f.below (h.mat.row r c).2.1 (Nat.le_trans h.low h.base.size)),h.low⟩
 .
  rcases List.mem_or_eq_of_mem_set a with a|rfl
  . exact h.wide x a
  . simpa [PR.put] using h.wide r c
 .
  rcases List.mem_or_eq_of_mem_set a with a|rfl
  . exact h.tag x a t d
  .
   rcases List.mem_or_eq_of_mem_set d with d|rfl
   . exact h.tag r c t d
   . rfl
theorem PQ.val_put(h:PQ w wr B g W K zs rs hs tv){i j nb b:Nat}{r:PR}{q:Rat}(d:rs[i]?=some r)(e:RatVal wr b q):RatVal (wr.setCell ⟨r.b,j,none⟩ (.pointer (some ⟨nb,0,none⟩))) b q:=by
 have c:=h.mat.row r (mO d);exact e.fp (Fp.of_only ((Only.refl r.b wr).setCell _ _) c.1 (fun u a=>by
  simp only[PR.cells,List.toList_toArray,List.mem_append] at a;rcases a with a|a
  . exact Qcm r.ts u a
  . exact c.2.2.1 u a))
theorem PQ.app(h:PQ w wr B g W K zs rs hs tv){k nb c:Nat}(p:wr.cell? ⟨nb,0,none⟩=some (.int .i64 (k:Nat)))(G:hs.length<=1000)(ty:Vr):
 ∃f w',appR prog 99 ty tv (.slice (some ⟨nb,0,none⟩) 1 c) wr=.ok f w'/\PQ w w' B g W K zs rs (hs++ [k]) f:=by
 obtain⟨H,A,q,s,hz2⟩:=info_parts Qli;obtain⟨f,w',l,u,a,E⟩:=h.told.app (P:=prog) (ty:=ty) underlying99 A q s hz2 rfl (by decide) Qlh ⟨nb,0,none⟩ 1 c [.int .i64 (k:Nat)] rfl (fun j v x=>by
  match j,x with
  |0,x=>
   obtain rfl:Value.int .i64 (k:Nat)=v:=by simpa using x
   rw[Qau]
   exact p) (fun v y=>by obtain rfl:v=Value.int .i64 (k:Nat):=by simpa using y
                         rfl) (fun v y=>by obtain rfl:v=Value.int .i64 (k:Nat):=by simpa using y
                                           exact⟨_,rfl⟩) (by omega) (by decide) h.base.size
 have d:∀b,b<wr.heap.size->tv.ownBlock≠some b->w'.heap[b]?=wr.heap[b]?:=fun b i z=>a.block b i (fun e=>z e.symm)
 have m:∀{b:Nat} {t:Vr} {C:Vw},SB wr b t C->3≠t->SB w' b t C:=fun {b t C} i o=>by
  have F:=d b i.lt (fun p=>by
   obtain⟨D,d1,_⟩:=h.told.sb p
   exact d1.unlike i o rfl)
  unfold SB at i ⊢;rw[F];exact i
 have n:Below B wr w':=⟨a.os,a.tape,a.output,a.size,fun b i=>d b (Nat.lt_of_lt_of_le i (Nat.le_trans h.low h.base.size)) (fun e=>by have:=(h.told.lt e).1;have:=h.low;omega)⟩;refine⟨f,w',l,⟨⟨m h.mat.blk Qkf,h.mat.room,h.mat.low,fun r l=>⟨m (h.mat.row r l).1 Qkg,(h.mat.row r l).2⟩,fun r l t o=>⟨?_,(h.mat.vs r l t o).2⟩,h.mat.apart⟩,h.wide,h.tag,?_,h.base.trans n,h.low⟩⟩
 . exact(h.mat.vs r l t o).1.grownI h.told a
 . rw[List.length_append,headsV,List.map_append]
   exact u
theorem PQ.glob(h:PQ w wr B g W K zs rs hs tv)(a:∃m,w.cell? ⟨4,0,none⟩=some (.int .i64 m))(hG:4<B):RBag wr wr []:=by
 obtain⟨m,b⟩:=a;exact RBag.start ⟨m,ce h.base hG b⟩
end
structure Part (rs0 rs:List PR) (i j:Nat) (v u:Vec):Prop where
 len:rs.length=rs0.length
 other:∀m,m≠i->rs[m]?=rs0[m]?
 row:∃r,rs[i]?=some r/\(∀d,d<j->r.q d=u d)/\∀d,j<=d->r.q d=v d
theorem Part.start{rs:List PR}{i:Nat}{r:PR}(u:Vec)(h:rs[i]?=some r):Part rs rs i 0 r.q u:=⟨rfl,fun _ _=>rfl,r,h,fun d a=>by omega,fun _ _=>rfl⟩
theorem PR.put_q{r:PR}{j nb K:Nat}{q:Rat}(a:j<r.ts.length)(d:Nat):(r.put j (nb,q,K)).q d=if d=j then q else r.q d:=by
 unfold PR.q PR.put ratV;by_cases e:d=j
 . subst e
   simp[a]
 . simp only[List.getElem?_set_ne (Ne.symm e),if_neg e]
theorem Part.step{a rs:List PR}{i j nb K:Nat}{v u:Vec}{r:PR}(h:Part a rs i j v u)(f:rs[i]?=some r)(k:j<r.ts.length):Part a (rs.set i (r.put j (nb,u j,K))) i (j+1) v u:=by
 have b:=(gZ f).1;obtain⟨q,c,n,o⟩:=h.row;obtain rfl:=Option.some.inj (f.symm.trans c);refine⟨by simpa using h.len,fun m l=>by rw[List.getElem?_set_ne (Ne.symm l)];exact h.other m l,_,List.getElem?_set_self b,fun d p=>?_,fun d p=>?_⟩
 .
  rw[PR.put_q k];by_cases e:d=j
  . rw[if_pos e,e]
  . rw[if_neg e]
    exact n d (by omega)
 . rw[PR.put_q k,if_neg (by omega)]
   exact o d (by omega)
theorem Part.done{a rs:List PR}{i W:Nat}{v u:Vec}(h:Part a rs i W v u)(b:∀d,W<=d->v d=u d):∃r,rs[i]?=some r/\r.q=u:=by
 obtain⟨r,c,e,f⟩:=h.row;refine⟨r,c,funext fun d=>?_⟩;rcases Nat.lt_or_ge d W with k|k
 . exact e d k
 . rw[f d k,b d k]
theorem Qkh:sgn3 (Rat.num 0)=0:=by decide
theorem Qki{q:Rat}(h:q≠0):(sgn3 q.num != 0)=true/\(sgn3 q.num == 0)=false:=by
 have a:q.num≠0:=fun e=>h (Rat.num_eq_zero.1 e)
 have:sgn3 q.num≠0:=by
  unfold sgn3
  split
  . decide
  . first|decide|(split<;>first|decide|omega)
 exact⟨by rw[bne_iff_ne];exact this,by rw[beq_eq_false_iff_ne];exact this⟩
def Cells2(a b:Addr)(x y:Value)(v:Vz):Prop:=v.cell? a=some x/\v.cell? b=some y
theorem cq2{a b:Addr}{x y:Value}(v:Vz)(c:v.cell? a=some x)(d:v.cell? b=some y):Cells2 a b x y v:=⟨c,d⟩
def Cells4(a b c d:Addr)(x y z t:Value)(v:Vz):Prop:=v.cell? a=some x/\v.cell? b=some y/\v.cell? c=some z/\v.cell? d=some t
theorem cq4{a b c d:Addr}{x y z t:Value}(v:Vz)(e:v.cell? a=some x)(f:v.cell? b=some y)(g:v.cell? c=some z)(h:v.cell? d=some t):Cells4 a b c d x y z t v:=⟨e,f,g,h⟩
def Best(rs:List PR)(c k i:Nat)(bv:Value):Prop:=
 (bv=.int .i64 (-1)/\∀(j:Nat) (r:PR),k<=j->j<i->rs[j]?=some r->r.q c=0)∨∃(b:Nat) (r:PR),bv=.int .i64 (b:Nat)/\k<=b/\b<i/\rs[b]?=some r/\r.q c≠0
theorem Best.next0{rs:List PR}{c k i:Nat}{f:Value}{r:PR}(h:Best rs c k i f)(l:rs[i]?=some r)(m:r.q c=0):Best rs c k (i+1) f:=by
 rcases h with ⟨a,d⟩|⟨b,n,a,d,u,o,p⟩
 .
  refine .inl ⟨a,fun j x s t g=>?_⟩;by_cases e:j=i
  .
   subst e;obtain rfl:=Option.some.inj (l.symm.trans g);exact m
  . exact d j x s (by omega) g
 . exact .inr ⟨b,n,a,d,by omega,o,p⟩
theorem Qsn{rs:List PR}{k b:Nat}{s t:PR}(a:rs[b]?=some s)(hk:rs[k]?=some t):((rs.set k s).set b t)[k]?=some s:=by
 by_cases e:k=b
 .
  subst e;obtain rfl:=Option.some.inj (a.symm.trans hk);exact List.getElem?_set_self (by simpa using (gZ hk).1)
 . rw[List.getElem?_set_ne (Ne.symm e)]
   exact List.getElem?_set_self (gZ hk).1
theorem Qgl(rs:List PR)(k b:Nat)(s t:PR):((rs.set k s).set b t).length=rs.length:=by simp
def Done(rs1 ra:List PR)(c k i:Nat)(p:Vec):Prop:=ra.length=rs1.length/\∀(m:Nat) (r r1:PR),ra[m]?=some r->rs1[m]?=some r1->r.q=if m=k then p else if m<i then down c p r1.q else r1.q
theorem Done.start{a g:List PR}{c k W:Nat}{v p:Vec}(h:Part a g k W v p)(i:∀d,W<=d->v d=p d):Done a g c k 0 p:=by
 refine⟨h.len,fun m r n b f=>?_⟩;by_cases e:m=k
 .
  subst e;rw[if_pos rfl];obtain⟨o,j,l⟩:=h.done i;obtain rfl:=Option.some.inj (b.symm.trans j);exact l
 .
  rw[if_neg e,if_neg (by omega)];rw[h.other m e,f] at b;rw[Option.some.inj b]
theorem Done.next{a j f:List PR}{c k i:Nat}{p:Vec}(h:Done a j c k i p)(hl:f.length=j.length)(o:∀m,m≠i->f[m]?=j[m]?)(s:∀(r b:PR),f[i]?=some r->a[i]?=some b->r.q=if i=k then p else down c p b.q):Done a f c k (i+1) p:=by
 refine⟨hl.trans h.1,fun m r b l d=>?_⟩;by_cases e:m=i
 . subst e
   rw[s r b l d,if_pos (Nat.lt_succ_self _)]
 .
  rw[o m e] at l;rw[h.2 m r b l d];by_cases g:m=k
  . rw[if_pos g,if_pos g]
  .
   rw[if_neg g,if_neg g];by_cases n:m<i
   . rw[if_pos n,if_pos (by omega)]
   . rw[if_neg n,if_neg (by omega)]
theorem Done.all{rs d:List PR}{c k b R:Nat}{s t:PR}(h:Done ((rs.set k s).set b t) d c k R (overAt c s.q))(l:rs.length=R):d.map PR.q=plStep c k b s.q t.q (rs.map PR.q):=by
 have hl:d.length=rs.length:=h.1.trans (Qgl _ _ _ _ _);apply List.ext_getElem?;intro m;rcases Nat.lt_or_ge m rs.length with i|i
 .
  obtain⟨r,j⟩:∃r,d[m]?=some r:=⟨_,gE (by omega)⟩;obtain⟨g,a⟩:∃g,((rs.set k s).set b t)[m]?=some g:=⟨_,gE (by rw[Qgl];exact i)⟩;have e:((List.map PR.q rs).set k s.q).set b t.q=((rs.set k s).set b t).map PR.q:=by rw[List.map_set,List.map_set]
  rw[plStep,List.getElem?_mapIdx,e,List.getElem?_map,List.getElem?_map,j,a];simp only[Option.map_some];rw[h.2 m r g j a];by_cases f:m=k
  . rw[if_pos f,if_pos f]
  . rw[if_neg f,if_neg f,if_pos (by omega)]
 . rw[List.getElem?_eq_none (by rw[List.length_map];omega),List.getElem?_eq_none (by rw[Qef,List.length_map];omega)]
theorem q_far{r:PR}{W d:Nat}(h:r.ts.length=W)(a:W<=d):r.q d=0:=Qke (by omega)
theorem Qso{r:PR}{W c d:Nat}(h:r.ts.length=W)(a:W<=d):overAt c r.q d=0:=by
 simp only[overAt];rw[q_far h a];grind
theorem Qsp{c d:Nat}{p v:Vec}(h:p d=0):v d=down c p v d:=by
 simp only[down];rw[h];grind
theorem Qsq{c:Nat}{p v:Vec}(h:v c=0):down c p v=v:=by
 funext d;simp only[down];rw[h];grind
theorem Qsr(B g n W N K R cp:Nat)(zs:Vv)(rs:List PR)(M:List Vec)(w:Vz)
 (T:∃m,w.cell? ⟨4,0,none⟩=some (.int .i64 m)) (ax:4<B)
 (be:∀c L hs,Pl W N M c L hs->∀(j:Nat) (v:Vec),L[j]?=some v->∀i,Fits (v i) K) (U:0<K) (P:4*K<100000000000)
 (hq:PQ w w B g W K zs rs [] (.slice none 0 0)) (h0:Pl W N M 0 (rs.map PR.q) []) (hn:n<=W) (hW:W<=1000) (hR:rs.length=R) (dx:R<=1000) (dy:R<=cp):
 Calls prog 48 #[.slice (some ⟨g,0,none⟩) R cp,.int .i64 n] w fun e w'=>∃(bq:List PR) (hs:Vy) (tv:Value),e=.returned tv/\PQ w w' B g W K zs bq hs tv/\Pl W N M n (bq.map PR.q) hs/\bq.length=R:=by
 obtain⟨ay,bf,HQ,H0,HR⟩:=Id T be hq h0 hR;clear T be hq h0 hR;go_enter func48,ntmps48;go_wp2_with fail;go_loopw [5,6] (fun tv cv wr=>∃(c:Nat) (rs:List PR) (hs:Vy),c<=n/\cv=.int .i64 c/\PQ w wr B g W K zs rs hs tv/\Pl W N M c (rs.map PR.q) hs/\rs.length=R) (fun _ cv _=>n - (intOf cv).toNat)
 case atStart=>exact⟨0,rs,[],Nat.zero_le _,rfl,HQ.o,H0.o,HR.o⟩
 case round=>
  obtain⟨c,rs,hs,hc,rfl,hq,cd,bg⟩:=hrel;clear HQ H0 HR;obtain⟨HQ,az,l⟩:=Ib hq cd bg;clear hq cd bg;by_cases dz:c<n
  .
   have q1:(c:Int)<(n:Int):=by omega
   obtain⟨ta,tc,br,_⟩:=HQ.o.told.slice;obtain⟨k,hk⟩:=nm hs.length;rw[hk] at br;obtain⟨HK,c7⟩:=Ia hk br;have c8:k<=R:=by
    have:=az.o.le;rw[List.length_map] at this;have:=l.o;omega
   subst br;clear hk c7;go_wp2_with fail;go_loopw [8,9] (fun bv iv c9=>∃i:Nat,k<=i/\i<=R/\iv=.int .i64 i/\c9=wr/\Best rs c k i bv) (fun _ iv _=>R - (intOf iv).toNat)
   case atStart=>exact⟨k,Nat.le_refl _,c8,rfl,rfl,.inl ⟨rfl,fun j r h1 h2=>by omega⟩⟩
   case round=>
    obtain⟨i,da,db,rfl,rfl,al⟩:=hrel;have a0:=Hi al;clear al;by_cases ea:i<R
    .
     obtain⟨r,hr,G,cf,bs⟩:=HQ.o.at (i:=i) (by have:=l.o;omega);obtain⟨pb,x1,hv,hf,_⟩:=HQ.o.num hr (j:=c) (by omega);obtain⟨HS,aj⟩:=Ia (RBag.sign (((HQ.o.glob ay.o ax)).put hv hf U) (List.Mem.head _)) hr;have q2:(i:Int)<(R:Int):=by omega
     have q3:(c:Int)<(W:Int):=by omega
     clear hv hf hr;by_cases hz:r.q c=0
     .
      have HZ:=Hi hz;rw[hz,Qkh] at HS;clear hz;go_wp2_with fail;go_fit HS.o;rintro e wn ⟨rfl,rfl⟩;go_wp2;go_roundw
      case rel=>exact⟨i+1,by omega,by omega,by go_num,by first|rfl|trivial,a0.o.next0 aj.o HZ.o⟩
      case measure=>simp[intOf];omega
     .
      have HZ:=Hi hz;have sz:=(Qki hz).1;obtain⟨S,hS⟩:=nm (sgn3 (r.q c).num);rw[hS] at HS sz;clear hz hS;go_wp2_with fail;go_fit HS.o;rintro e wn ⟨rfl,rfl⟩;go_wp2;go_roundw
      case rel=>exact⟨i+1,by omega,by omega,by go_num,by first|rfl|trivial,.inr ⟨i,r,rfl,da,by omega,aj.o,HZ.o⟩⟩
      case measure=>simp[intOf];omega
    .
     obtain rfl:R=i:=by omega
     rcases a0.o with ⟨rfl,cg⟩|⟨b,V,rfl,dc,eb,ch,ci⟩
     .
      have dd:=Hi cg;clear cg a0;go_wp2;go_roundw
      case rel=>
       refine⟨c+1,rs,hs,by omega,by go_num,HQ.o,az.o.skip (fun j v hj de=>?_),l.o⟩;rw[List.getElem?_map] at hj;obtain⟨r,hr,rfl⟩:=Option.map_eq_some_iff.1 hj;exact dd.o j r (by rw[<-HK.o];exact de) (by have:=(gZ hr).1;have:=l.o;omega) hr
      case measure=>simp[intOf];omega
     .
      obtain⟨am,cj⟩:=Ia ch ci;clear ch ci a0;have q2:¬((b:Int)<0):=by omega
      obtain⟨df,aa,G,ck,cl⟩:=HQ.o.at (i:=b) (by have:=l.o;omega);obtain rfl:=Option.some.inj (am.o.symm.trans aa);obtain⟨tr,a1,x1,dt,du⟩:=HQ.o.at (i:=k) (by have:=l.o;omega);have cm:=Hi a1;have q3:(b:Int)<(R:Int):=by omega
      have q4:(k:Int)<(R:Int):=by omega
      have f:=(HQ.o.below bR.drew).swap am.o a1;have an:=az.o.step (b:=b) (s:=V.q) (t:=tr.q) (by rw[HK.o];exact dc) (by rw[List.getElem?_map,am.o];rfl) (by rw[List.getElem?_map,HK.o,a1];rfl) cj.o;rw[HK.o] at an;have ao:=Hi an;have f0:=(HQ.o.below bR.drew).mat.blk.free k;obtain⟨Z1,a2⟩:=nm ((wr.setCell ⟨g,k,none⟩ (.slice (some ⟨V.b,0,none⟩) W V.cap)).drew);have bt:SB Z1 g 103 ((rs.map PR.val++zs).toArray.setIfInBounds k (.slice (some ⟨V.b,0,none⟩) W V.cap)):=by
       rw[<-a2];exact(HQ.o.mat.blk.set k _).drew
      have f1:=bt.free b;obtain⟨y1,dg⟩:∃y,Z1.cell? ⟨g,b,none⟩=some y:=by
       rw[bt.cell];exact⟨_,Array.getElem?_eq_getElem (by simp;have:=l.o;omega)⟩
      obtain⟨Z,hZ⟩:=nm (Z1.setCell ⟨g,b,none⟩ (.slice (some ⟨tr.b,0,none⟩) W tr.cap));replace f:PQ w Z B g W K zs ((rs.set k V).set b tr) hs (.slice ta k tc):=by
       rw[<-hZ,<-a2];exact f
      obtain⟨ap,cn,cq⟩:=Ib f a2 hZ;clear aa a1 f an a2 hZ bt;go_wp2_with fail;have a:=cq2 wr.drew G x1;refine AnyDs.beg (D:=[13,15]) (by kernel_rfl) a ?_;refine Plan.of [0,1,2,3,4,5,6,7,8,9,10,11,12] ?_
      iterate 13
       first
        |(
         refine AnyDs.pp (v:=?_) (by rfl) (by kernel_rfl) (by kernel_rfl) (by kernel_rfl) (by kernel_rfl) (by exact fun _ _ _ h=>h) (fun _=>a) (Or.inl ⟨by rfl,?_⟩) ?_
         rotate_left
         (focus(intro wq E;clear E;first|(go_simp;done)|(go_simp;with_reducible rfl))))
        |(
         refine AnyDs.sp (v:=?_) (by rfl) (by kernel_rfl) (by kernel_rfl) (by kernel_rfl) (by kernel_rfl) (by kernel_rfl) (by exact fun _ _ _ h=>h) a (Or.inl ⟨by rfl,?_⟩) ?_
         rotate_left
         (focus(intro wq E;obtain⟨f,a3⟩:=E;first|(go_simp;done)|(go_simp;with_reducible rfl))))
       (try simp only[Act.put,sA,sB,sC])
      refine Plan.done ?_;clear a;refine AnyDs.ready (rs:=[13]) (by kernel_rfl) (by simp) ?_;refine AllDs.cons (by rfl) ?_ AllDs.nil;intro KK P;go_simp;(try dsimp only);refine P.out _ _ (fun h=>absurd (by decide) h) ?_;clear P KK;(try simp only[Act.put,sA,sB,sC]);rw[cn.o];refine AnyDs.takeP (i:=14) (v:=?_) rfl (by kernel_rfl) (by kernel_rfl) (by kernel_rfl) (by kernel_rfl) (fun _ _ _ h=>h) (Or.inl ⟨by rfl,?_⟩) (fun h=>absurd h (Qcl (d:=13) (by rfl) (by rfl))) ?_
      rotate_left
      .
       intro wq E;clear E
       first|(go_simp;done)|(go_simp;with_reducible rfl)
      (try simp only[Act.put,sA,sB,sC]);refine AnyDs.ready (rs:=[15]) (by kernel_rfl) (by simp) ?_;refine AllDs.cons (by rfl) ?_ AllDs.nil;intro KK P;go_simp;(try dsimp only);refine P.out _ _ (fun h=>absurd (by decide) h) ?_;clear P KK;(try simp only[Act.put,sA,sB,sC]);refine AnyDs.done (by kernel_rfl) ?_ _;rw[cq.o];clear G x1 f0 f1 dg cn cq;obtain⟨af,ab⟩:=nm ((rs.set k V).set b tr);have aq:af[k]?=some V:=by rw[<-ab];exact Qsn am.o cm.o
      have a4:O (af.length=R):=Hi (by rw[<-ab,Qgl];exact l.o);have f:=ap.o;rw[ab] at f;obtain⟨bu,bh⟩:=Ia aq ab;have bw:=f.wide V (mO aq);obtain⟨p,hp⟩:=nm (overAt c V.q);have HP:=Hi hp;have dh:O (∀d,Fits (p d) K):=Hi (fun d=>by
       rw[<-hp]
       exact bf.o _ _ _ ao.o k _ (Qeg (by rw[List.getElem?_map,am.o];rfl) (by rw[List.getElem?_map,cm.o];rfl)) d)
      have bi:O (∀d,W<=d->V.q d=p d):=Hi (fun d hd=>by rw[<-hp,q_far bw hd,Qso bw hd]);obtain⟨df,aa,G,ck,cl⟩:=f.at (i:=k) (by have:=a4.o;omega);obtain rfl:=Option.some.inj (aq.symm.trans aa);obtain⟨pk,x1,H,cr,_⟩:=f.num aq (j:=c) (by omega);obtain⟨cs,ct⟩:=Ia H cr;clear ap;have ap:=Hi f;have q5:(c:Int)<(W:Int):=by omega
      clear aq ab f hp aa H cr bw;go_wp2_with fail;clear G x1;go_loopw [67] (fun jv I=>∃(j:Nat) (ra:List PR),j<=W/\jv=.int .i64 j/\PQ w I B g W K zs ra hs (.slice ta k tc)/\Part af ra k j V.q p/\RatVal I pk (V.q c)) (fun jv _=>W - (intOf jv).toNat)
      case atStart=>exact⟨0,af,Nat.zero_le _,rfl,ap.o,Part.start _ bu.o,cs.o⟩
      case round=>
       obtain⟨j,ra,hj,rfl,F,ak,H⟩:=hrel;obtain⟨I,rfl⟩:∃I,I=wr:=⟨wr,rfl⟩;by_cases ad:j<W
       .
        obtain⟨r,hr,ar,X⟩:=ak.row;obtain⟨r',cu,G,cf,bs⟩:=F.at (i:=k) (by have:=ak.len;have:=a4.o;omega);obtain rfl:=Option.some.inj (hr.symm.trans cu);obtain⟨b1,x1,ag,ah,_⟩:=F.num hr ad;have cw:=X j lZ;rw[cw] at ag ah;have q6:(j:Int)<(W:Int):=by omega
        have T:=F.mat.blk.lt;have f0:=fun (u:Vz) (hb:Bl I u)=>(F.below hb).mat.free (j:=j) hr
        obtain⟨bx,a5,a6⟩:=Ib f0 G x1;have Q:O (RBag I I [(b1,V.q j,K),(pk,V.q c,K)]):=Hi (((F.glob ay.o ax).put H ct.o U).put ag ah U);obtain⟨C,di,bz,au⟩:=Ic F ak hr H;have b0:O (j<r.ts.length):=Hi (by rw[F.wide r (mO hr)];exact ad);clear hr ar X cu ag ah cw F ak H f0;go_wp2_with fail;have a:=cq2 I.drew G x1;refine AnyBut.beg (k:=15) (by kernel_rfl) a ?_;refine Plan.of [0,1,2,3,4,5,6,7,8,9,10,11,12] ?_
        iterate 13
         refine AnyBut.bp (v:=?_) (by rfl) (by kernel_rfl) (by kernel_rfl) (by kernel_rfl) (by kernel_rfl) (by exact fun _ _ _ h=>h) a (Or.inl ⟨by rfl,?_⟩) ?_
         rotate_left 1
         (focus(intro wq E;obtain⟨f,a3⟩:=E;first|(go_simp;done)|(go_simp;with_reducible rfl)));(try simp only[Act.put,sA,sB,sC])
        refine Plan.done ?_;clear a;refine AnyBut.one (i:=13) (by kernel_rfl) rfl (fun KK P=>?_);go_simp;apply cM;apply RBag.quoA (w0:=I);exact Q.o.drew;exact List.Mem.head _;exact List.Mem.tail _ (List.Mem.head _);omega;exact cj.o;rintro e wn ⟨nb,rfl,z⟩;have A:=Hi z.base;have b4:=Hi (z.ts _ (List.Mem.head _)).1;clear G x1 z;have G:=ce A.o T a5.o;have x1:=ce A.o bs a6.o;have f0:=bx.o wn A.o;refine P.out _ _ (fun _=>⟨G,x1⟩) ?_;clear P KK;(try simp only[Act.put,sA,sB,sC]);have a:=cq2 wn G x1;refine AnyBut.take (i:=14) (v:=?_) rfl (by kernel_rfl) (by kernel_rfl) (by kernel_rfl) (by kernel_rfl) (fun _ _ _ h=>h) (Or.inl ⟨by rfl,?_⟩) a ?_
        rotate_left 1
        .
         intro wq E;obtain⟨f,a3⟩:=E
         first|(go_simp;done)|(go_simp;with_reducible rfl)
        (try simp only[Act.put,sA,sB,sC]);clear a;refine AnyBut.one (i:=15) (by kernel_rfl) rfl (fun KK P=>?_);go_simp;refine P.out _ _ (fun h=>absurd rfl h) ?_;clear P KK;(try simp only[Act.put,sA,sB,sC]);refine AnyBut.done (by kernel_rfl) ?_ _;clear G x1 f0;have b5:O (RatVal wn nb (p j)):=Hi (by rw[<-HP.o];exact b4.o);go_wp2;go_roundw
        case rel=>exact⟨j+1,_,by omega,by go_num,(C.o.below A.o).put bz.o ad b5.o (dh.o j) U,di.o.step bz.o b0.o,(C.o.below A.o).val_put bz.o (au.o.below A.o)⟩
        case measure=>simp[intOf];omega
       .
        obtain rfl:W=j:=by omega
        obtain⟨HD,C⟩:=Ia (Done.start (c:=c) ak bi.o) F;clear F ak H cs;go_wp2_with fail;go_loopw [88] (fun iv I=>∃(i:Nat) (ra:List PR),i<=R/\iv=.int .i64 i/\PQ w I B g W K zs ra hs (.slice ta k tc)/\Done af ra c k i p) (fun iv _=>R - (intOf iv).toNat)
        case atStart=>exact⟨0,ra,Nat.zero_le _,rfl,C.o,HD.o⟩
        case round=>
         clear HD C;obtain⟨i,ra,hi,rfl,F,b6⟩:=hrel;obtain⟨I,rfl⟩:∃I,I=wr:=⟨wr,rfl⟩;obtain⟨C,ai⟩:=Ia F b6;have a7:O (ra.length=R):=Hi (b6.1.trans a4.o);clear F b6;by_cases db:i<R
         .
          have q6:(i:Int)<(R:Int):=by omega
          by_cases a8:i=k
          .
           subst a8;have e1:((i:Int) == (i:Int))=true:=by simp
           go_wp2;go_roundw
           case rel=>exact⟨i+1,ra,by omega,by go_num,C.o,ai.o.next rfl (fun _ _=>rfl) (fun r r1 h1 h2=>by rw[ai.o.2 i r r1 h1 h2,if_pos rfl,if_pos rfl])⟩
           case measure=>simp[intOf];omega
          .
           have e1:((i:Int) == (k:Int))=false:=by rw[beq_eq_false_iff_ne];omega
           obtain⟨r,hr,G,cf,bs⟩:=C.o.at (i:=i) (by have:=a7.o;omega);obtain⟨pb,x1,hv,hf,_⟩:=C.o.num hr (j:=c) (by omega);obtain⟨r1,ar⟩:∃r1,af[i]?=some r1:=⟨_,gE (by have:=a4.o;omega)⟩;have cx:r.q=r1.q:=by rw[ai.o.2 i r r1 hr ar,if_neg a8,if_neg (Nat.lt_irrefl _)]
           obtain⟨HS,aj,b7,b8,a9,ba,bb⟩:=If (RBag.sign (((C.o.glob ay.o ax)).put hv hf U) (List.Mem.head _)) hr ar cx hv hf a8;clear hv hf hr ar cx a8;by_cases hz:r.q c=0
           .
            have HZ:=Hi hz;rw[hz,Qkh] at HS;clear hz;go_wp2_with fail;go_fit HS.o;rintro e wn ⟨rfl,rfl⟩;go_wp2;go_roundw
            case rel=>
             refine⟨i+1,ra,by omega,by go_num,C.o,ai.o.next rfl (fun _ _=>rfl) (fun r' dj h1 h2=>?_)⟩;obtain rfl:=Option.some.inj (aj.o.symm.trans h1);obtain rfl:=Option.some.inj (b7.o.symm.trans h2);rw[if_neg bb.o,<-b8.o,Qsq HZ.o]
            case measure=>simp[intOf];omega
           .
            have sz:=(Qki hz).2;obtain⟨S,hS⟩:=nm (sgn3 (r.q c).num);rw[hS] at HS sz;obtain⟨v,hv⟩:=nm r.q;obtain⟨u,hu⟩:=nm (down c p v);obtain⟨HU,cy⟩:=Ia hu hv;have dk:O (∀d,Fits (u d) K):=Hi (fun d=>by
             have hh:=ao.o;have hd:∃x,(plStep c k b V.q tr.q (rs.map PR.q))[i]?=some x/\x=u:=by
              rw[<-hu,<-HP.o,<-hv,b8.o];refine⟨_,?_,rfl⟩;have e:((List.map PR.q rs).set k V.q).set b tr.q=af.map PR.q:=by rw[<-bh.o,List.map_set,List.map_set]
              rw[plStep,List.getElem?_mapIdx,e,List.getElem?_map,b7.o];simp only[Option.map_some,if_neg bb.o]
             obtain⟨x,hx,rfl⟩:=hd
             exact bf.o _ _ _ hh i _ hx d)
            have dl:=C.o.wide r (mO aj.o);have dm:O (∀d,W<=d->v d=u d):=Hi (fun d hd=>by
             have h1:p d=0:=by rw[<-bi.o d hd];exact q_far (ap.o.wide V (mO bu.o)) hd
             rw[<-hu]
             exact Qsp h1)
            have b9:=a9.o;have ca:=ba.o;rw[hv] at b9 ca;clear a9 ba;obtain⟨a9,ba,dn⟩:=Ib b9 ca (Part.start (rs:=ra) u aj.o);clear hz hS hu hv dl b9 ca;go_wp2_with fail;go_fit HS.o;rintro e wn ⟨rfl,rfl⟩;go_wp2_with fail;clear G x1;go_loopw [117] (fun jv I=>∃(j:Nat) (rb:List PR),j<=W/\jv=.int .i64 j/\PQ w I B g W K zs rb hs (.slice ta k tc)/\Part ra rb i j v u/\RatVal I pb (v c)) (fun jv _=>W - (intOf jv).toNat)
            case atStart=>exact⟨0,ra,Nat.zero_le _,rfl,C.o,by rw[<-cy.o];exact dn.o,a9.o⟩
            case round=>
             obtain⟨j,rb,hj,rfl,J,ae,H⟩:=hrel;obtain⟨wy,rfl⟩:∃wy,wy=wr:=⟨wr,rfl⟩;by_cases ad:j<W
             .
              obtain⟨r2,X,cz,bj⟩:=ae.row;obtain⟨ec,bk,G,dv,bl⟩:=J.at (i:=i) (by have:=ae.len;have:=a7.o;omega);obtain rfl:=Option.some.inj (X.symm.trans bk);obtain⟨b1,x1,ag,ah,_⟩:=J.num X ad;rw[bj j lZ] at ag ah;obtain⟨rk,bc,x2,dw,bm⟩:=J.at (i:=k) (by have:=ae.len;have:=a7.o;omega);obtain⟨b2,x3,hv2,cb,_⟩:=J.num bc ad;have bn:rk.q=p:=by
               rw[ae.other k (Ne.symm bb.o)] at bc;rw[ai.o.2 k rk V bc bu.o,if_pos rfl]
              rw[bn] at hv2 cb;have q7:(j:Int)<(W:Int):=by omega
              have T:=J.mat.blk.lt;obtain⟨bx,a5,a6,c0,c1⟩:=Id (fun (u:Vz) (hb:Bl wy u)=>(J.below hb).mat.free (j:=j) X) G x1 x2 x3;have Q:O (RBag wy wy [(b1,v j,K),(b2,p j,K),(pb,v c,K)]):=Hi ((((J.glob ay.o ax).put H ba.o U).put hv2 cb U).put ag ah U);obtain⟨bd,av,cc,au⟩:=Ic J ae X H;have b0:O (j<r2.ts.length):=Hi (by rw[J.wide r2 (mO X)];exact ad);clear X cz bj bk ag ah hv2 cb bc bn J ae H;go_wp2_with fail;have a:=cq4 wy.drew G x1 x2 x3;refine AnyBut.beg (k:=23) (by kernel_rfl) a ?_;refine Plan.of [0,1,2,3,4,5,6,7,8,9,10,11,12,13,14,15,16,17,18,19] ?_
              iterate 20
               refine AnyBut.bp (v:=?_) (by rfl) (by kernel_rfl) (by kernel_rfl) (by kernel_rfl) (by kernel_rfl) (by exact fun _ _ _ h=>h) a (Or.inl ⟨by rfl,?_⟩) ?_
               rotate_left 1
               (focus(intro wq E;obtain⟨f,a3,dp,dq⟩:=E;first|(go_simp;done)|(go_simp;with_reducible rfl)));(try simp only[Act.put,sA,sB,sC])
              refine Plan.done ?_;clear a;refine AnyBut.one (i:=20) (by kernel_rfl) rfl (fun KK P=>?_);go_simp;apply cM;apply RBag.mul (w0:=wy);exact Q.o.drew;exact List.Mem.tail _ (List.Mem.tail _ (List.Mem.head _));exact List.Mem.tail _ (List.Mem.head _);omega;rintro e wm ⟨b3,rfl,z⟩;clear Q;have Q:=Hi z;clear G x1 x2 x3 z;have G:=ce Q.o.base T a5.o;have x1:=ce Q.o.base bl a6.o;have x2:=ce Q.o.base T c0.o;have x3:=ce Q.o.base bm c1.o;refine P.out _ _ (fun _=>⟨G,x1,x2,x3⟩) ?_;clear P KK;(try simp only[Act.put,sA,sB,sC]);refine AnyBut.one (i:=21) (by kernel_rfl) rfl (fun KK P=>?_);go_simp;apply cM;apply RBag.sub (w0:=wy);exact Q.o
              exact List.Mem.tail _ (List.Mem.head _);exact List.Mem.head _;omega;rintro e wn ⟨nb,rfl,z⟩;have A:=Hi z.base;have b4:=Hi (z.ts _ (List.Mem.head _)).1;clear G x1 x2 x3 z;have G:=ce A.o T a5.o;have x1:=ce A.o bl a6.o;have x2:=ce A.o T c0.o;have x3:=ce A.o bm c1.o;have f0:=bx.o wn A.o;refine P.out _ _ (fun _=>⟨G,x1,x2,x3⟩) ?_;clear P KK;(try simp only[Act.put,sA,sB,sC]);have a:=cq4 wn G x1 x2 x3;refine AnyBut.take (i:=22) (v:=?_) rfl (by kernel_rfl) (by kernel_rfl) (by kernel_rfl) (by kernel_rfl) (fun _ _ _ h=>h) (Or.inl ⟨by rfl,?_⟩) a ?_
              rotate_left 1
              .
               intro wq E;obtain⟨f,a3,dp,dq⟩:=E
               first|(go_simp;done)|(go_simp;with_reducible rfl)
              (try simp only[Act.put,sA,sB,sC]);clear a;refine AnyBut.one (i:=23) (by kernel_rfl) rfl (fun KK P=>?_);go_simp;refine P.out _ _ (fun h=>absurd rfl h) ?_;clear P KK;(try simp only[Act.put,sA,sB,sC]);refine AnyBut.done (by kernel_rfl) ?_ _;clear G x1 x2 x3 f0;have b5:O (RatVal wn nb (u j)):=Hi (by rw[<-HU.o];exact b4.o);go_wp2;go_roundw
              case rel=>exact⟨j+1,_,by omega,by go_num,(bd.o.below A.o).put cc.o ad b5.o (dk.o j) U,av.o.step cc.o b0.o,(bd.o.below A.o).val_put cc.o (au.o.below A.o)⟩
              case measure=>simp[intOf];omega
             .
              obtain rfl:W=j:=by omega
              obtain⟨bd,av⟩:=Ia J ae;clear J ae H;go_wp2;go_roundw
              case rel=>
               refine⟨i+1,rb,by omega,by go_num,bd.o,ai.o.next av.o.len av.o.other (fun r' dj h1 h2=>?_)⟩;obtain⟨r3,h3,h4⟩:=av.o.done dm.o;obtain rfl:=Option.some.inj (h1.symm.trans h3);obtain rfl:=Option.some.inj (b7.o.symm.trans h2);rw[if_neg bb.o,h4,<-HU.o,<-cy.o,b8.o]
              case measure=>simp[intOf];omega
         .
          obtain rfl:R=i:=by omega
          have aw:=ai.o;rw[<-bh.o,<-HP.o] at aw;have bo:=aw.all l.o;have dr:O (Pl W N M (c+1) (ra.map PR.q) (hs++ [c])):=Hi (by rw[bo];exact ao.o);obtain⟨Y,hY⟩:=nm (I.alloc (.cells #[.int .i64 (c:Nat)] 3));have c2:Bl I Y:=by rw[<-hY];exact(Below.refl _ _).alloc lZ _
          have c3:Y.cell? ⟨I.heap.size,0,none⟩=some (.int .i64 (c:Nat)):=by rw[<-hY];exact Qa0 I _ _
          obtain⟨ed,w',c4,c5⟩:=(C.o.below c2).app (k:=c) (nb:=I.heap.size) (c:=1) c3 (by have:=HK.o;omega) 99;rw[<-hY] at c4;have ds:=Hi c5;clear aw bo hY c2 c3 c5;go_wp2;go_roundw
          case rel=>exact⟨c+1,ra,hs++ [c],by omega,by go_num,ds.o,dr.o,a7.o⟩
          case measure=>simp[intOf];omega
  .
   have c6:=Hi (And.intro HQ.o az.o);obtain rfl:c=n:=by omega
   go_wp2;go_ret;exact⟨rs,hs,_,rfl,c6.o.1,c6.o.2,l.o⟩
theorem PGrow.low{w:Vz}{B c:Nat}{v:Value}{d:List RT}(h:PGrow w B v d)(hB:c<=B):PGrow w c v d:=by
 refine⟨⟨⟨h.list.own.1,?_⟩,h.list.all⟩,h.vs⟩;rcases h.list.own.2 with a|⟨g,cap,b,a,e,f⟩
 . exact .inl a
 . exact .inr ⟨g,cap,b,a,Nat.le_trans hB e,f⟩
theorem RBag.unit{w0 w:Vz}{L:List (Nat × Rat × Nat)}(h:RBag w0 w L):
 Calls prog 92 #[.int .i64 1] w (RNew w0 L 1 1):=
 (ref_N 1 w (by decide)).mono fun e w' a=>h.new a Fits.one (by decide)
structure PV (w:Vz) (B g n K:Nat) (x:Vec) (ts:List RT):Prop where
 blk:PBlk w g ts
 low:B<=g
 len:ts.length=n
 q:∀(i:Nat) (t:RT),ts[i]?=some t->t.2.1=x i/\t.2.2<=K
theorem PV.below{w w':Vz}{B g n K:Nat}{x:Vec}{a:List RT}(h:PV w B g n K x a)(b:Bl w w'):PV w' B g n K x a:=⟨h.blk.below b,h.low,h.len,h.q⟩
theorem PV.get{w:Vz}{B g n K i:Nat}{x:Vec}{c:List RT}(h:PV w B g n K x c)(m:i<n):∃b k:Nat,c[i]?=some (b,x i,k)/\w.cell? ⟨g,i,none⟩=some (.pointer (some ⟨b,0,none⟩))/\RatVal w b (x i)/\Fits (x i) K/\0<K:=by
 obtain⟨⟨b,q,k⟩,a⟩:∃t,c[i]?=some t:=⟨_,gE (by rw[h.len];exact m)⟩;obtain⟨e,d⟩:=h.q i _ a;obtain⟨f,j,l⟩:=h.blk.vs _ (mO a);simp only at e d f j l;subst e;exact⟨b,k,a,h.blk.cell a,f,j.mono d,Nat.lt_of_lt_of_le l d⟩
theorem PV.set{w:Vz}{B g n K i b k:Nat}{x:Vec}{q:Rat}{d:List RT}(h:PV w B g n K x d)(f:i<n)(l:RatVal w b q)(m:Fits q k)(hk:0<k)(c:k<=K):PV (w.setCell ⟨g,i,none⟩ (.pointer (some ⟨b,0,none⟩))) B g n K (upd x i q) (d.set i (b,q,k)):=by
 refine⟨h.blk.set l m hk,h.low,by simpa using h.len,fun j t a=>?_⟩;by_cases e:j=i
 .
  rw[e,List.getElem?_set_self (by rw[h.len];exact f)] at a;obtain rfl:=Option.some.inj a;rw[e,Qan];exact⟨rfl,c⟩
 .
  rw[List.getElem?_set_ne (Ne.symm e)] at a;rw[Qad _ _ e];exact h.q j t a
theorem PV.mono{w:Vz}{B g n K K':Nat}{x:Vec}{a:List RT}(h:PV w B g n K x a)(hk:K<=K'):PV w B g n K' x a:=⟨h.blk,h.low,h.len,fun i t b=>⟨(h.q i t b).1,Nat.le_trans (h.q i t b).2 hk⟩⟩
theorem PV.of{w:Vz}{B g n:Nat}{a:List RT}(h:Noughts w g n n a)(hB:B<=g):PV w B g n 1 (fun _=>0) a:=by
 refine⟨⟨?_,h.vs⟩,hB,h.len,fun i t b=>?_⟩
 .
  have:=h.blk;rw[Nat.sub_self] at this
  simpa using this
 . obtain⟨c,d⟩:=h.zero t (mO b)
   exact⟨c,by rw[d];exact Nat.le_refl _⟩
theorem Qss(k:Nat):upd (fun _=>0) k 1=unitV k:=by
 funext i;simp only[upd,unitV]
theorem Qgm(n k:Nat)(w:Vz)(J:∃m,w.cell? ⟨4,0,none⟩=some (.int .i64 m))(hk:k<n)(P:n<=1000):
 Calls prog 49 #[.int .i64 n,.int .i64 k] w fun e w'=>∃(g:Nat) (v:List RT),e=.returned (.slice (some ⟨g,0,none⟩) n n)/\PV w' w.heap.size g n 1 (unitV k) v/\Below w.heap.size w w':=by
 have K:=Hi (RBag.start J);have x:=Qjg n (by omega) w;obtain⟨M,j⟩:=nm ((List.replicate n (Value.pointer none)).toArray);rw[j] at x;obtain⟨g,l⟩:=nm w.heap.size;obtain⟨V,C⟩:=nm (w.alloc (.cells M 84));have D:=Ua C;have E:O (Noughts V g n 0 []):=Hi ⟨by rw[<-C,<-l,<-j];exact SB.new w _ _,(fun t F=>by cases F),rfl,(fun t F=>by cases F)⟩;obtain⟨N,f⟩:=Ia C l;have Q:(k:Int)<(n:Int):=by omega
 clear J j C l;go_enter func49,ntmps49;go_wp2_with fail;rw[N.o];rw[f.o];clear x;go_loopw [11] (fun G wr=>∃(i:Nat) (v:List RT),i<=n/\G=.int .i64 i/\Noughts wr g n i v/\Below w.heap.size w wr) (fun G _=>n - (intOf G).toNat)
 case atStart=>exact⟨0,[],Nat.zero_le _,rfl,E.o,D.o⟩
 case round=>
  obtain⟨i,v,R,rfl,y,z⟩:=hrel;obtain⟨A,d⟩:=Ia y z;clear y z;by_cases H:i<n
  .
   have S:(i:Int)<(n:Int):=by omega
   have q:=Hi (RBag.nought ((K.o.below d.o).rebase));go_wp2_with fail;go_fit q.o;rintro e L ⟨b,rfl,a⟩;have r:=Hi a.base;have s:=Hi (a.ts _ (List.Mem.head _)).1;have c:=A.o.below a.base;have f0:=c.blk.free i;have t0:L.cell? ⟨g,i,none⟩=some (.pointer none):=by
    rw[c.blk.cell];have e:(v.map ptrV++List.replicate (n - i) (Value.pointer none)).toArray[i]?=(v.map ptrV++List.replicate (n - i) (Value.pointer none))[i]?:=by simp
    rw[e,List.getElem?_append_right (by rw[List.length_map,c.len];exact Nat.le_refl _),List.length_map,c.len,Nat.sub_self,List.getElem?_replicate,if_pos (by omega)]
   have u:=Hi c;clear a c;go_wp2;go_roundw
   case rel=>exact⟨i+1,_,by omega,by go_num,u.o.step H s.o,(d.o.trans (r.o.mono d.o.size)).setCell (p:=⟨g,i,none⟩) (Nat.le_of_eq f.o) _⟩
   case measure=>simp[intOf];omega
  .
   obtain rfl:n=i:=by omega
   obtain⟨I,q⟩:=Ia (PV.of (B:=w.heap.size) A.o (Nat.le_of_eq f.o)) (RBag.unit ((K.o.below d.o).rebase));go_wp2_with fail;go_fit q.o;rintro e L ⟨b,rfl,a⟩;have r:=Hi a.base;have s:=Hi (a.ts _ (List.Mem.head _)).1;have c:=I.o.below a.base;obtain⟨T,U,_,t0,_⟩:=c.get hk;have f0:=c.blk.blk.free k;have u:=Hi c;clear a c;go_wp2;go_ret;have h:=u.o.set hk s.o Fits.one Nat.one_pos lZ;rw[Qss] at h;exact⟨g,_,rfl,h,(d.o.trans (r.o.mono d.o.size)).setCell (p:=⟨g,k,none⟩) (Nat.le_of_eq f.o) _⟩
theorem Fs.grown{w w':Vz}{B n:Nat}{e:Vr}{v:Value}{xs:Vv}(c:Grow w B e 1 IsSl v n xs)(h:w.grownBy w' v.ownBlock):Fs w w':=by
 refine⟨h.size,fun b i u a hk=>h.block b (World.block_lt_of_cell? _ _ a) (fun e=>?_)⟩;obtain⟨C,hC,d⟩:=c.sb e.symm;rw[hC.cell] at a;exact hk (d u (mO (by rw[Array.getElem?_toList];exact a)))
theorem Qpv:52≠84:=by decide
theorem PV.grown{w w':Vz}{B f g n K m:Nat}{x:Vec}{a:List RT}{v:Value}{xs:Vv}(h:PV w B g n K x a)(b:Grow w f 52 1 IsSl v m xs)(c:w.grownBy w' v.ownBlock):PV w' B g n K x a:=by
 refine⟨⟨?_,fun t d=>⟨(h.blk.vs t d).1.fs (Fs.grown b c),(h.blk.vs t d).2⟩⟩,h.low,h.len,h.q⟩;have i:=c.block g h.blk.blk.lt (fun e=>by
  obtain⟨C,hC,_⟩:=b.sb e.symm
  exact hC.unlike h.blk.blk Qpv rfl)
 have:=h.blk.blk;unfold SB at this ⊢;rw[i];exact this
structure KR where
 g:Nat
 ts:List RT
def KR.val(n:Nat)(r:KR):Value:=.slice (some ⟨r.g,0,none⟩) n n
structure KerAt (w:Vz) (B n K:Nat) (v:Value) (ks:List KR) (xs:List Vec):Prop where
 list:Grow w B 52 1 IsSl v ks.length (ks.map (KR.val n))
 len:ks.length=xs.length
 each:∀(i:Nat) (r:KR) (x:Vec),ks[i]?=some r->xs[i]?=some x->PV w B r.g n K x r.ts
theorem KerAt.below{w w':Vz}{B n K:Nat}{v:Value}{a:List KR}{xs:List Vec}(h:KerAt w B n K v a xs)(b:Bl w w'):KerAt w' B n K v a xs:=⟨h.list.below b,h.len,fun i r x c d=>(h.each i r x c d).below b⟩
theorem PV.low'{w:Vz}{B a g n K:Nat}{x:Vec}{b:List RT}(h:PV w B g n K x b)(hB:a<=B):PV w a g n K x b:=⟨h.blk,Nat.le_trans hB h.low,h.len,h.q⟩
theorem KerAt.mono{w:Vz}{B a n K:Nat}{v:Value}{b:List KR}{xs:List Vec}(h:KerAt w B n K v b xs)(hB:a<=B):KerAt w a n K v b xs:=⟨h.list.mono hB,h.len,fun i r x c d=>(h.each i r x c d).low' hB⟩
theorem Qpw:(prog.info? 52).map (fun i=>(i.zero,i.size,i.bytes))=some (some (.slice .none 0 0),1,24):=by kernel_rfl
theorem KerAt.app{w:Vz}{B n K nb c:Nat}{v:Value}{b:List KR}{xs:List Vec}{r:KR}{x:Vec}(h:KerAt w B n K v b xs)(p:w.cell? ⟨nb,0,none⟩=some (r.val n))(q:PV w B r.g n K x r.ts)(G:b.length<=1000)(hB:B<=w.heap.size)(ty:Vr):
 ∃f w',appR prog 42 ty v (.slice (some ⟨nb,0,none⟩) 1 c) w=.ok f w'/\KerAt w' B n K f (b++ [r]) (xs++ [x])/\Below B w w':=by
 obtain⟨i,s,z⟩:=Option.map_eq_some_iff.1 Qpw;injection z with A l
 injection l with l C
 obtain⟨f,w',D,E,m,_⟩:=h.list.app (P:=prog) (t:=42) (ty:=ty) underlying42 s A l C rfl (by decide) (fun u d=>⟨none,0,0,by simpa [Value.cells] using d⟩) ⟨nb,0,none⟩ 1 c [r.val n] rfl (fun j u a=>by
  match j,a with
  |0,a=>
   obtain rfl:=Option.some.inj a
   exact p) (fun u d=>by obtain rfl:=List.mem_singleton.1 d;rfl) (fun u d=>by obtain rfl:=List.mem_singleton.1 d;exact⟨_,_,_,rfl⟩) (by omega) (by decide) hB
 refine⟨f,w',D,⟨?_,?_,fun j t y e k=>?_⟩,Qb4 m (fun g F=>(h.list.lt F).1) hB⟩
 . rw[List.length_append,List.length_singleton,List.map_append]
   exact E
 . rw[List.length_append,List.length_append,h.len];rfl
 .
  by_cases a:j<b.length
  .
   rw[List.getElem?_append_left a] at e;rw[List.getElem?_append_left (by rw[<-h.len];exact a)] at k;exact(h.each j t y e k).grown h.list m
  .
   have o:j=b.length:=by
    have:=(gZ e).1;simp at this;omega
   subst o;rw[List.getElem?_append_right lZ,Nat.sub_self] at e;rw[List.getElem?_append_right (by rw[h.len];exact Nat.le_refl _),<-h.len,Nat.sub_self] at k;cases e;cases k;exact q.grown h.list m
theorem Qpx{hs:Vy}{i t k:Nat}(a:hs[i]?=some t):k ∉ hs.take (i+1)↔k ∉ hs.take i/\t≠k:=by
 rw[List.take_add_one,a];simp only[Option.toList_some,List.mem_append,List.mem_singleton,not_or];exact and_congr_right fun _=>⟨fun h e=>h e.symm,fun h e=>h e.symm⟩
theorem Qpy(B g n N K R cp:Nat)(zs:Vv)(rs:List PR)(M:List Vec)(w:Vz)
 (G:∃m,w.cell? ⟨4,0,none⟩=some (.int .i64 m)) (H:4<B)
 (C:∀c L hs,Pl n N M c L hs->∀(j:Nat) (v:Vec),L[j]?=some v->∀i,Fits (v i) K) (aa:0<K) (hK:4*K<100000000000)
 (hq:PQ w w B g n K zs rs [] (.slice none 0 0)) (h0:Pl n N M 0 (rs.map PR.q) []) (hW:n<=1000) (hR:rs.length=R) (az:R<=1000) (a0:R<=cp):
 Calls prog 12 #[.slice (some ⟨g,0,none⟩) R cp,.int .i64 n] w fun e w'=>∃(L:List Vec) (hs:Vy) (v:Value) (u:List KR),e=.returned v/\Pl n N M n L hs/\KerAt w' w.heap.size n K v u ((freeTo hs n).map fun c=>nullF c L hs hs.length)/\Below B w w':=by
 obtain⟨ab,a1,a2,a3⟩:=Ic (Qsr B g n n N K R cp zs rs M w G H C aa hK hq h0 lZ hW hR az a0) hq.low G H;clear G H C hq h0 hR;go_enter func12,ntmps12;go_wp2_with fail;go_fit ab.o;rintro e w1 ⟨ad,hs,tv,rfl,a,I,ae⟩;obtain⟨ta,tc,rfl,_,af,_⟩:=Grow.slice a.told;have d:=I.cln.ech;have a4:hs.length<=ad.length:=by
  have:=d.len;rw[List.length_take,List.length_map] at this;omega
 obtain⟨a5,ag,ah,a6,ai,aj,a7⟩:=If (fun c hc=>(d.head c hc).2) a I ae af a.base.size (a.glob a2.o a3.o);obtain⟨L,hL⟩:=nm (ad.map PR.q);have a8:=Hi hL;have bo:hs.length<=R:=by omega
 rw[hL] at ah;clear a I ae af d a4 ab hL;go_wp2_with fail;go_loopw [7,6] (fun cv ov wr=>∃(k:Nat) (u:List KR),k<=n/\cv=.int .i64 k/\KerAt wr w1.heap.size n K ov u ((freeTo hs k).map (fun c=>nullF c L hs hs.length))/\Bl w1 wr) (fun cv _ _=>n - (intOf cv).toNat)
 case atStart=>exact⟨0,[],Nat.zero_le _,rfl,⟨Grow.nil _ _ _ _ _,rfl,fun i r x hr=>by simp at hr⟩,Below.refl _ _⟩
 case round=>
  obtain⟨k,u,hk,rfl,J,ak⟩:=hrel;obtain⟨y,b⟩:=Ia J ak;obtain⟨oa,oc,a9,_⟩:=Grow.slice J.list;subst a9;clear J ak;by_cases al:k<n
  .
   have q1:((k:Int)<(n:Int)):=by omega
   go_wp2_with fail;obtain⟨wv,rfl⟩:∃wv,wv=wr:=⟨wr,rfl⟩;go_loopw [24,8] (fun P fv wr=>∃i:Nat,i<=hs.length/\P=.int .i64 i/\fv=.bool (decide (k ∉ hs.take i))/\wr=wv) (fun P _ _=>hs.length - (intOf P).toNat)
   case atStart=>exact⟨0,Nat.zero_le _,rfl,by simp,rfl⟩
   case round=>
    obtain⟨i,hi,rfl,rfl,rfl⟩:=hrel;by_cases ba:i<hs.length
    .
     obtain⟨t,D⟩:∃t,hs[i]?=some t:=⟨_,gE ba⟩;obtain⟨tb,bb,rfl,bc,d0⟩:=(ai.o.below b.o).cell i (.int .i64 (t:Nat)) (by simp[headsV,D]);have q2:((i:Int)<(hs.length:Int)):=by omega
     have Q:=Hi (Qpx (k:=k) D);clear D;by_cases S:k ∉ hs.take i
     .
      rw[decide_eq_true S];by_cases e:t=k
      .
       have b1:((t:Int) != (k:Int))=false:=by rw[bne_eq_false_iff_eq];omega
       have HD:=Hi (decide_eq_false (show ¬k ∉ hs.take (i+1) from fun h=>(Q.o.1 h).2 e));clear S e;go_wp2;go_roundw
       case rel=>exact⟨i+1,by omega,by go_num,by rw[HD.o],trivial⟩
       case measure=>simp[intOf];omega
      .
       have b1:((t:Int) != (k:Int))=true:=by rw[bne_iff_ne];omega
       have HD:=Hi (decide_eq_true (show k ∉ hs.take (i+1) from Q.o.2 ⟨S,e⟩));clear S e;go_wp2;go_roundw
       case rel=>exact⟨i+1,by omega,by go_num,by rw[HD.o],trivial⟩
       case measure=>simp[intOf];omega
     .
      rw[decide_eq_false S];have HD:=Hi (decide_eq_false (show ¬k ∉ hs.take (i+1) from fun h=>S (Q.o.1 h).1));clear S;go_wp2;go_roundw
      case rel=>exact⟨i+1,by omega,by go_num,by rw[HD.o],trivial⟩
      case measure=>simp[intOf];omega
    .
     obtain rfl:i=hs.length:=by omega
     rw[List.take_length];by_cases hm:k∈ hs
     .
      rw[decide_eq_false (show ¬k ∉ hs from fun h=>h hm)];have T:O (freeTo hs (k+1)=freeTo hs k):=Hi (by rw[Qdf,if_pos hm]);clear hm;go_wp2;go_roundw
      case rel=>exact⟨k+1,u,by omega,by go_num,by rw[T.o];exact y.o,b.o⟩
      case measure=>simp[intOf];omega
     .
      rw[decide_eq_true (show k ∉ hs from hm)];have T:O (freeTo hs (k+1)=freeTo hs k++ [k]):=Hi (by rw[Qdf,if_neg hm]);have am:=Hi (Qgm n k wr (a7.o.below b.o).glob al hW);clear hm;go_wp2_with fail;go_fit am.o;rintro e w3 ⟨E,ts,rfl,f,an⟩;obtain⟨bd,be⟩:=Ia (f.mono (K':=K) (by omega)) an;clear f an am;go_wp2_with fail;obtain⟨U,rfl⟩:∃U,U=wr:=⟨wr,rfl⟩;go_loopw [42] (fun P wr=>∃(i:Nat) (ts:List RT),i<=hs.length/\P=.int .i64 i/\PV wr U.heap.size E n K (nullF k L hs i) ts/\Bl U wr) (fun P _=>hs.length - (intOf P).toNat)
      case atStart=>exact⟨0,ts,Nat.zero_le _,rfl,bd.o,be.o⟩
      case round=>
       obtain⟨i,us,hi,rfl,f,V⟩:=hrel;obtain⟨ao,W,z⟩:=Ib f V (b.o.trans (V.mono b.o.size));clear f V;by_cases bf:i<hs.length
       .
        obtain⟨t,D⟩:∃t,hs[i]?=some t:=⟨_,gE bf⟩;obtain⟨tb,bb,rfl,bc,d0⟩:=(ai.o.below z.o).cell i (.int .i64 (t:Nat)) (by simp[headsV,D]);have ap:=a5.o t (mO D);have a:=ag.o.below z.o;obtain⟨r,hr,d1,bp,br⟩:=a.at (i:=i) (by have:=a6.o;omega);obtain⟨bq,d2,aq,Y,_⟩:=a.num hr al;have bg:O (nullF k L hs (i+1)=upd (nullF k L hs i) t (-(r.q k))):=Hi (Qec D (by rw[<-a8.o,List.getElem?_map,hr];rfl));obtain⟨bh,ar⟩:=Ia Y (Qt9 bq K (r.q k) wr aq Y (by omega));have q2:((i:Int)<(hs.length:Int)):=by omega
        have q3:((i:Int)<(R:Int)):=by omega
        have q4:((t:Int)<(n:Int)):=by omega
        have q5:((0:Int)<=(t:Int)):=by omega
        have q6:((0:Int)<=(k:Int)):=by omega
        clear D a hr aq Y;go_wp2_with fail;go_fit ar.o;rintro e w4 ⟨⟨nb,rfl,bi,au⟩,Z⟩;have l:=ao.o.below Z;obtain⟨pb,pk,_,x0,_,_,_⟩:=l.get ap;have f0:=l.blk.blk.free t;have bj:=Hi (l.set ap au bh.o.neg aa lZ);have bk:O (Bl U (w4.setCell ⟨E,t,none⟩ (.pointer (some ⟨nb,0,none⟩)))):=Hi ((W.o.trans (Z.mono W.o.size)).setCell (p:=⟨E,t,none⟩) l.low _);clear bi au Z l ar d0 d1 d2;go_wp2;go_roundw
        case rel=>exact⟨i+1,_,by omega,by go_num,by rw[bg.o];exact bj.o,bk.o⟩
        case measure=>simp[intOf];omega
       .
        obtain rfl:i=hs.length:=by omega
        obtain⟨X,hX⟩:=nm (wr.alloc (.cells #[.slice (some ⟨E,0,none⟩) n n] 52));have A:Bl wr X:=by rw[<-hX];exact(Below.refl _ _).alloc lZ _
        have s:=z.o.trans (A.mono z.o.size);have av:X.cell? ⟨wr.heap.size,0,none⟩=some (KR.val n ⟨E,us⟩):=by rw[<-hX];exact Qa0 wr _ _
        have aw:u.length<=1000:=by
         have h1:=y.o.len;rw[List.length_map] at h1;have h2:=Qdg hs k;omega
        obtain⟨v7,w7,F,ax,ay⟩:=((y.o.below W.o).below A).app (r:=⟨E,us⟩) (x:=nullF k L hs hs.length) (c:=1) av ((ao.o.below A).low' b.o.size) aw s.size 42;have bl:O (KerAt w7 w1.heap.size n K v7 (u++ [⟨E,us⟩]) ((freeTo hs (k+1)).map (fun c=>nullF c L hs hs.length))):=Hi (by rw[T.o,List.map_append];exact ax);have bm:=Hi (s.trans ay);have bn:appR prog 42 42 (.slice oa u.length oc) (.slice (some ⟨wr.heap.size,0,none⟩) 1 1) (wr.alloc (.cells #[.slice (some ⟨E,0,none⟩) n n] 52))=.ok v7 w7:=by rw[hX];exact F
        clear hX A s av aw F ax ay;go_wp2;go_roundw
        case rel=>exact⟨k+1,_,by omega,by go_num,bl.o,bm.o⟩
        case measure=>simp[intOf];omega
  .
   obtain rfl:k=n:=by omega
   go_wp2;go_ret;exact⟨L,hs,_,u,rfl,ah.o,y.o.mono aj.o,ag.o.base.trans (b.o.mono (Nat.le_trans a1.o aj.o))⟩
theorem Qst{a:List (Nat × Nat × Rat × Rat)}{vh:Vy}{nb k:Nat}{p:Nat × Nat × Rat × Rat}{E x:Vec}(f:a[k]?=some p)(g:p.1≠p.2.1)(h:∀r,E r=dot k (balM a nb vh r) x)(r:Nat):
 upd (upd (upd (upd E (2*p.1) (E (2*p.1)+x k*p.2.2.1)) (2*p.1+1) (E (2*p.1+1)+x k*p.2.2.2)) (2*p.2.1) (E (2*p.2.1) - x k*p.2.2.1)) (2*p.2.1+1) (E (2*p.2.1+1) - x k*p.2.2.2) r=dot (k+1) (balM a nb vh r) x:=by
 have i:balM a nb vh r k=barAt p r:=by simp only[balM,f]
 simp only[dot];rw[<-h r,i];unfold barAt;by_cases b:r=2*p.2.1+1
 . rw[b,Qan,if_neg (by omega),if_neg (by omega),if_neg (by omega),if_pos rfl]
   grind
 rw[Qad _ _ b];by_cases c:r=2*p.2.1
 . rw[c,Qan,if_neg (by omega),if_pos rfl]
   grind
 rw[Qad _ _ c];by_cases d:r=2*p.1+1
 . rw[d,Qan,if_neg (by omega),if_neg (by omega),if_pos rfl]
   grind
 rw[Qad _ _ d];by_cases e:r=2*p.1
 . rw[e,Qan,if_pos rfl]
   grind
 rw[Qad _ _ e,if_neg e,if_neg c,if_neg d,if_neg b];grind
theorem Qsu{a:List (Nat × Nat × Rat × Rat)}{vh:Vy}{nb m h:Nat}{E x:Vec}(f:a.length=nb)(b:vh[m]?=some h)(c:∀r,E r=dot (nb+m) (balM a nb vh r) x)(r:Nat):
 upd E h (E h+x (nb+m)) r=dot (nb+m+1) (balM a nb vh r) x:=by
 have d:balM a nb vh r (nb+m)=if r=h then 1 else 0:=by
  simp only[balM];rw[List.getElem?_eq_none (by omega),Nat.add_sub_cancel_left,b];simp
 simp only[dot];rw[<-c r,d];by_cases e:r=h
 . rw[e,Qan,if_pos rfl]
   grind
 . rw[Qad _ _ e,if_neg e]
   grind
theorem PV.congr{w:Vz}{B g n K:Nat}{x y:Vec}{b:List RT}(h:PV w B g n K x b)(a:∀i,x i=y i):PV w B g n K y b:=⟨h.blk,h.low,h.len,fun i t c=>by rw[<-a i];exact h.q i t c⟩
def Cells3(a b c:Addr)(x y z:Value)(v:Vz):Prop:=v.cell? a=some x/\v.cell? b=some y/\v.cell? c=some z
theorem cq3{a b c:Addr}{x y z:Value}(v:Vz)(d:v.cell? a=some x)(e:v.cell? b=some y)(f:v.cell? c=some z):Cells3 a b c x y z v:=⟨d,e,f⟩
def Cell1(a:Addr)(x:Value)(v:Vz):Prop:=v.cell? a=some x
theorem cq1{a:Addr}{x:Value}(v:Vz)(h:v.cell? a=some x):Cell1 a x v:=h
theorem RatVal.pv{w0 w w':Vz}{B g n K i b c:Nat}{x:Vec}{q:Rat}{a:List RT}(h:RatVal w b q)(d:PV w0 B g n K x a)(e:Bl w0 w)(f:w.setCell ⟨g,i,none⟩ (.pointer (some ⟨c,0,none⟩))=w'):RatVal w' b q:=by
 rw[<-f];exact h.fp (Fp.of_only ((Only.refl g w).setCell _ _) (d.below e).blk.blk (fun u j=>Qcm a u (by simpa using j)))
abbrev kF(C k:Nat):Nat:=k*(2*C)+1
theorem Qkj(C k:Nat):kF C (k+1)=kF C k+2*C:=by
 show (k+1)*(2*C)+1=k*(2*C)+1+2*C
 rw[Nat.add_mul];omega
theorem kF_le{C k:Nat}(hk:k<=44):kF C k<=88*C+1:=by
 have:=Nat.mul_le_mul_right (2*C) hk
 show k*(2*C)+1<=_
 omega
theorem Qsv(a1 a2 a3 ab ah:Vx)(c1 c2 c3 cb ch KX:Nat)(js:List S2)(M:List B6)(hs:List H3)(vb:List (Nat × Nat × Rat × Rat))(vh:Vy)(tb th:List RT)(x:Vec)(w:Vz)
 (hg:∃m,w.cell? ⟨4,0,none⟩=some (.int .i64 m)) (hf:FrRow w a1 a2 a3 c1 c2 c3 js M hs) (hv:FrV 1048576 js M hs vb vh) (hw:∀(i:Nat) (h:H3),hs[i]?=some h->h.w=1∨h.w=2)
 (hb:PRow w ab tb) (ct:tb.length=M.length) (hh:PRow w ah th) (cu:th.length=hs.length) (cv:∀(i:Nat) (t:RT),tb[i]?=some t->t.2.1=x i/\t.2.2<=KX) (cw:∀(i:Nat) (t:RT),th[i]?=some t->t.2.1=x (M.length+i)/\t.2.2<=KX) (ev:KX<=1000000000):
 Calls prog 51 #[.agg #[.slice a1 js.length c1,.slice a2 M.length c2,.slice a3 hs.length c3],.slice ab M.length cb,.slice ah hs.length ch] w fun e w'=>∃(N g:Nat) (ts:List RT),N=2*js.length/\e=.returned (.slice (some ⟨g,0,none⟩) N N)/\PV w' w.heap.size g N (88*(KX+8388612)+1) (fun r=>dot (M.length+hs.length) (balM vb M.length vh r) x) ts/\Below w.heap.size w w':=by
 have n1:=hv.j;have n2:=hv.b;have n3:=hv.h;obtain⟨HG,HF,HV,HW,HB,dj,HH,dk,dl⟩:=Ih (RBag.start hg) hf hv hw hb ct hh cu cv;have dm:=Hi cw;obtain⟨C,hC⟩:=nm (KX+8388612);have ew:C<=1008388612:=by omega
 obtain⟨N,hN⟩:=nm (2*js.length);have eN:IntKind.i64.wrap (2*(js.length:Int))=(N:Int):=by rw[wrap_i64 _ (by omega) (by omega)];omega
 have cx:=fun w=>Qjg N (by omega) w
 obtain⟨MC,cf⟩:=nm ((List.replicate N (Value.pointer none)).toArray);rw[cf] at cx;obtain⟨B0,be⟩:=nm w.heap.size;obtain⟨V,hV⟩:=nm (w.alloc (.cells #[.slice a1 js.length c1,.slice a2 M.length c2,.slice a3 hs.length c3] 26));have ao:=Ua hV;have ay:=Uf hV be;obtain⟨V1,bu⟩:=nm (V.alloc (.cells MC 84));obtain⟨g,bv⟩:=nm V.heap.size;have cy:=Ua bu;have dn:O (Noughts V1 g N 0 []):=Hi ⟨by rw[<-bu,<-bv,<-cf];exact SB.new V _ _,(fun t ht=>by cases ht),rfl,(fun t ht=>by cases ht)⟩;obtain⟨z0,-⟩:=zc ay.o
 have a9:=Hi hN;have eu:N<=20:=by omega
 obtain⟨dp,dq,az,dr⟩:=Ic hV bu bv be;have ds:O (B0+1=g):=Hi (by rw[<-bv,<-hV,<-be];simp);rw[<-hV,<-be] at z0;clear hg hf hv hw hb ct hh cu cv cw hN cf hV bu bv be;go_enter func51,ntmps51;go_wp2_with fail;rw[dp.o,dq.o];simp only[dr.o];rw[ds.o];clear z0 cx;go_loopw [22] (fun iv wr=>∃(k:Nat) (ts:List RT),k<=N/\iv=.int .i64 k/\Noughts wr g N k ts/\Below V.heap.size V wr) (fun iv _=>N - (intOf iv).toNat)
 case atStart=>exact⟨0,[],Nat.zero_le _,rfl,dn.o,cy.o⟩
 case round=>
  obtain⟨k,ts,hk,rfl,cz,am⟩:=hrel;obtain⟨cg,I⟩:=Ia cz am;clear cz am;by_cases dt:k<N
  .
   have q1:((k:Int)<(N:Int)):=by omega
   have du:=Hi (RBag.nought ((HG.o.below (ao.o.trans (I.o.mono ao.o.size))).rebase));go_wp2_with fail;go_fit du.o;rintro e w2 ⟨b,rfl,n⟩;have dv:=Hi n.base;have dw:=Hi (n.ts _ (List.Mem.head _)).1;have ba:=cg.o.below n.base;have f0:=ba.blk.free k;have t0:w2.cell? ⟨g,k,none⟩=some (.pointer none):=by
    rw[ba.blk.cell];have e:(ts.map ptrV++List.replicate (N - k) (Value.pointer none)).toArray[k]?=(ts.map ptrV++List.replicate (N - k) (Value.pointer none))[k]?:=by simp
    rw[e,List.getElem?_append_right (by rw[List.length_map,ba.len];exact Nat.le_refl _),List.length_map,ba.len,Nat.sub_self,List.getElem?_replicate,if_pos (by omega)]
   have dx:=Hi ba;clear n ba;go_wp2;go_roundw
   case rel=>exact⟨k+1,_,by omega,by go_num,dx.o.step dt dw.o,(I.o.trans (dv.o.mono I.o.size)).setCell (p:=⟨g,k,none⟩) (show V.heap.size<=g by have:=az.o;omega) _⟩
   case measure=>simp[intOf];omega
  .
   obtain rfl:N=k:=by omega
   have c0:=Hi (PV.of (B:=V.heap.size) cg.o (Nat.le_of_eq az.o));obtain⟨-,z1,-⟩:=zc (ay.o.below I.o ay.o.lt);go_wp2_with fail;clear z1;go_loopw [33] (fun iv wr=>∃(k:Nat) (ts:List RT),k<=M.length/\iv=.int .i64 k/\PV wr V.heap.size g N (kF C k) (fun r=>dot k (balM vb M.length vh r) x) ts/\Below V.heap.size V wr) (fun iv _=>M.length - (intOf iv).toNat)
   case atStart=>exact⟨0,ts,Nat.zero_le _,rfl,(c0.o.mono (by show 1<=0*(2*C)+1;omega)).congr (fun i=>rfl),I.o⟩
   case round=>
    clear cg I c0;obtain⟨k,ts,hk,rfl,u,am⟩:=hrel;obtain⟨F,I,ap⟩:=Ib u am (ao.o.trans (am.mono ao.o.size));clear u am;by_cases dy:k<M.length
    .
     obtain⟨b,bw⟩:∃b,M[k]?=some b:=⟨_,gE dy⟩;obtain⟨p,ci⟩:∃p,vb[k]?=some p:=⟨vb[k]'(by have:=HV.o.lb;omega),gE _⟩;have bc:=HV.o.vb k b p bw ci;obtain⟨bb,bo,rfl,dz,d0,d1,d2,d3,d4,d5⟩:=(HF.o.b.below ap.o).bar bw;obtain⟨A,B,rx,ry⟩:=p;have hA:=bc.a;have hB:=bc.b;have cj:=bc.ne;obtain⟨s,t,_,_,_,_,e1,e2,_⟩:=bc.ex;have ea:=(gZ e1).1;have eb:=(gZ e2).1;simp only at hA hB cj ea eb;rw[hA] at d0;rw[hB] at d1;have q1:((k:Int)<(M.length:Int)):=by omega
     obtain⟨aq,aj⟩:=nm wr.heap.size;obtain⟨X0,an⟩:=nm (wr.alloc (.cells #[.int .i64 (A:Nat),.int .i64 (B:Nat),.string b.c,.string b.e,.string b.l,.string b.m] 80));have ar:=Ua an;have c4:=Uf an aj;have a8:=Hi (ap.o.trans (ar.o.mono ap.o.size));obtain⟨z0,z1,z2,-⟩:=zc (ay.o.below (I.o.trans (ar.o.mono I.o.size)) ay.o.lt)
     obtain⟨ec,ed,c5,P,ck⟩:=Id (Qlw a1 (some ⟨bb,bo,none⟩) a3 c1 c2 c3 k js M hs b (A,B,rx,ry) X0 ((HG.o.below a8.o).glob) (HF.o.below a8.o) bw bc n1 n2) ci cj an aj;rw[<-an] at z0 z1 z2;clear bw ci bc hA hB cj e1 e2 an aj;go_wp2_with fail;rw[P.o];simp only[ck.o];clear z0 z1 z2 d0 d1 d2 d3 d4 d5;go_fit ec.o;rintro e Z ⟨b1,b2,rfl,n⟩;obtain⟨⟨xt,tq,tk⟩,au⟩:∃t,tb[k]?=some t:=⟨tb[k]'(by have:=dj.o;omega),gE _⟩;obtain⟨bf,av⟩:=dl.o k _ au;simp only at bf av;subst bf;have ai:O (Bl V Z):=Hi ((I.o.trans (ar.o.mono I.o.size)).trans (n.base.mono (Nat.le_trans I.o.size ar.o.size)));have Q:Bl w Z:=a8.o.trans (n.base.mono a8.o.size);have b9:=HB.o.below Q;obtain⟨pb,po,rfl,a0,cl⟩:=HB.o.at au
     have x2:=ce Q a0 cl;have S:=Nat.lt_of_lt_of_le a0 Q.size;have c6:=Hi cl;have aw:=b9.vs _ (mO au);have bg:O (RatVal Z xt (x k)/\Fits (x k) KX/\0<KX):=Hi ⟨aw.1,aw.2.1.mono av,Nat.lt_of_lt_of_le aw.2.2 av⟩;have u:=(F.o.below ar.o).below n.base;have L:=Hi (c4.o.below n.base c4.o.lt);obtain⟨E,hE⟩:∃E:Vec,(fun r=>dot k (balM vb M.length vh r) x)=E:=⟨_,rfl⟩;rw[hE] at u;obtain⟨KM,ax⟩:=nm (kF C k);rw[ax] at u;have ee:KM<=88*C+1:=by rw[<-ax];exact kF_le (by omega)
     obtain⟨ef,HE⟩:=Ia ax hE;clear F;have F:=Hi u;obtain⟨X,hX⟩:=nm (2*A);obtain⟨Y,hY⟩:=nm (2*A+1);obtain⟨X2,c7⟩:=nm (2*B);obtain⟨Y2,c8⟩:=nm (2*B+1);have wX:IntKind.i64.wrap (2*(A:Int))=(X:Int):=by rw[wrap_i64 _ (by omega) (by omega)];omega
     have wY:IntKind.i64.wrap ((X:Int)+1)=(Y:Int):=by rw[wrap_i64 _ (by omega) (by omega)];omega
     have ey:IntKind.i64.wrap (2*(B:Int))=(X2:Int):=by rw[wrap_i64 _ (by omega) (by omega)];omega
     have ez:IntKind.i64.wrap ((X2:Int)+1)=(Y2:Int):=by rw[wrap_i64 _ (by omega) (by omega)];omega
     have c9:X<N:=by have:=a9.o;omega
     have cm:Y<N:=by have:=a9.o;omega
     have ca:X2<N:=by have:=a9.o;omega
     have bh:Y2<N:=by have:=a9.o;omega
     have iX:(X:Int)<(N:Int):=by omega
     have iY:(Y:Int)<(N:Int):=by omega
     have e0:(X2:Int)<(N:Int):=by omega
     have e5:(Y2:Int)<(N:Int):=by omega
     have eg:O (2*A=X/\2*A+1=Y/\2*B=X2/\2*B+1=Y2):=Hi ⟨hX,hY,c7,c8⟩;obtain⟨tX,kX,_,z,vX,fX,gX⟩:=u.get c9;obtain⟨tY,kY,_,x1,vY,fY,gY⟩:=u.get cm;obtain⟨H,-⟩:=zc L.o;have T:=u.blk.blk.lt;have U:=L.o.lt;have bd:aq≠g:=L.o.unlike u.blk.blk (by decide);obtain⟨P,W,aa,ak⟩:=Ic z x1 x2 H;have f:O (RBag Z Z [(xt,x k,KX),(tX,E X,KM),(tY,E Y,KM),(b1,rx,8388611),(b2,ry,8388611)]):=Hi (((n.rebase.put vY fY gY).put vX fX gX).put bg.o.1 bg.o.2.1 bg.o.2.2);have da:O (RBag Z Z [(b1,rx,8388611),(b2,ry,8388611)]):=Hi n.rebase;clear n au av Q b9 aw u hE ax hX hY c7 c8 vX fX gX vY fY gY cl;go_wp2_with fail;have R:=cq3 Z.drew z x1 x2;have K:=cq1 Z.drew H;refine AnyE.beg (D:=[37,39]) (by kernel_rfl) R K ?_
     refine Plan.of [0,1,2,3,4,5,6,7,8,9,10,11,12,13,14,15,16,17,18,19,22,23,24,25,26,27,28,29,30,31,32,33,20,21,34,35,36] ?_
     iterate 32
      first
       |(
        refine AnyE.tp (v:=?_) (by rfl) (by kernel_rfl) (by kernel_rfl) (by kernel_rfl) (by kernel_rfl) (by exact fun _ _ _ h=>h) (fun _=>R) K (Or.inl ⟨by rfl,?_⟩) ?_
        rotate_left
        (focus(intro wq y;have bi:_=_:=y;clear y;first|(go_simp;done)|(go_simp;with_reducible rfl))))
       |(
        refine AnyE.sp (v:=?_) (by rfl) (by kernel_rfl) (by kernel_rfl) (by kernel_rfl) (by kernel_rfl) (by kernel_rfl) (by exact fun _ _ _ h=>h) R K (Or.inl ⟨by rfl,?_⟩) ?_
        rotate_left
        (focus(intro wq y;obtain⟨bj,bk,bl⟩:=y;first|(go_simp;done)|(go_simp;with_reducible rfl))))
      (try simp only[Act.put,sA,sB,sC])
     refine AnyE.op (by kernel_rfl) (by rfl) (fun KK G=>?_);go_simp;apply cM;apply RBag.mul (w0:=Z);(first|exact f.o|exact f.o.drew);(repeat(first|exact mH|apply mT));omega;rintro e w3 ⟨b3,rfl,n⟩;clear f R K;have f:=Hi n;clear n z x1 x2 H;obtain⟨z,x1⟩:=Ja f.o.base T P.o W.o;have x2:=ce f.o.base S aa.o;have H:=ce f.o.base U ak.o;refine G.out _ _ ⟨fun _ _=>⟨z,x1,x2⟩,H⟩ ?_;clear G KK;(try simp only[Act.put,sA,sB,sC]);have R:=cq3 w3 z x1 x2;have K:=cq1 w3 H;refine AnyE.op (by kernel_rfl) (by rfl) (fun KK G=>?_);go_simp;apply cM
     apply RBag.add (w0:=Z);(first|exact f.o|exact f.o.drew);(repeat(first|exact mH|apply mT));omega;rintro e w4 ⟨b4,rfl,n⟩;clear f R K;have f:=Hi n;clear n z x1 x2 H;obtain⟨z,x1⟩:=Ja f.o.base T P.o W.o;have x2:=ce f.o.base S aa.o;have H:=ce f.o.base U ak.o;refine G.out _ _ ⟨fun _ _=>⟨z,x1,x2⟩,H⟩ ?_;clear G KK;(try simp only[Act.put,sA,sB,sC]);have R:=cq3 w4 z x1 x2;have K:=cq1 w4 H;refine AnyE.op (by kernel_rfl) (by rfl) (fun KK G=>?_);go_simp;apply cM;apply RBag.mul (w0:=Z);(first|exact f.o|exact f.o.drew)
     (repeat(first|exact mH|apply mT));omega;rintro e w5 ⟨b5,rfl,n⟩;clear f R K;have f:=Hi n;clear n z x1 x2 H;obtain⟨z,x1⟩:=Ja f.o.base T P.o W.o;have x2:=ce f.o.base S aa.o;have H:=ce f.o.base U ak.o;refine G.out _ _ ⟨fun _ _=>⟨z,x1,x2⟩,H⟩ ?_;clear G KK;(try simp only[Act.put,sA,sB,sC]);have R:=cq3 w5 z x1 x2;have K:=cq1 w5 H;refine AnyE.op (by kernel_rfl) (by rfl) (fun KK G=>?_);go_simp;apply cM;apply RBag.add (w0:=Z);(first|exact f.o|exact f.o.drew);(repeat(first|exact mH|apply mT))
     (repeat(first|exact mH|apply mT));omega;rintro e w6 ⟨b6,rfl,n⟩;clear f R K;have f:=Hi n;clear n z x1 x2 H;obtain⟨z,x1⟩:=Ja f.o.base T P.o W.o;have x2:=ce f.o.base S aa.o;have H:=ce f.o.base U ak.o;refine G.out _ _ ⟨fun _ _=>⟨z,x1,x2⟩,H⟩ ?_;clear G KK;(try simp only[Act.put,sA,sB,sC]);have R:=cq3 w6 z x1 x2;have K:=cq1 w6 H
     first
      |(
       refine AnyE.tp (v:=?_) (by rfl) (by kernel_rfl) (by kernel_rfl) (by kernel_rfl) (by kernel_rfl) (by exact fun _ _ _ h=>h) (fun _=>R) K (Or.inl ⟨by rfl,?_⟩) ?_
       rotate_left
       (focus(intro wq y;have bi:_=_:=y;clear y;first|(go_simp;done)|(go_simp;with_reducible rfl))))
      |(
       refine AnyE.sp (v:=?_) (by rfl) (by kernel_rfl) (by kernel_rfl) (by kernel_rfl) (by kernel_rfl) (by kernel_rfl) (by exact fun _ _ _ h=>h) R K (Or.inl ⟨by rfl,?_⟩) ?_
       rotate_left
       (focus(intro wq y;obtain⟨bj,bk,bl⟩:=y;first|(go_simp;done)|(go_simp;with_reducible rfl))))
     (try simp only[Act.put,sA,sB,sC]);refine Plan.done ?_;have al:=F.o.below f.o.base;have m4:=f.o.ts (b4,_,_) (List.Mem.tail _ (List.Mem.tail _ (List.Mem.head _)));have m6:=f.o.ts (b6,_,_) (List.Mem.head _);have f0:=al.blk.blk.free X;have ad:=(al.mono (K':=KM+C) (by omega)).set c9 m4.1 (m4.2.1.mono (by simp only;omega)) (by omega) (Nat.le_refl (KM+C));obtain⟨Z1,ae⟩:=nm (w6.setCell ⟨g,X,none⟩ (.pointer (some ⟨b4,0,none⟩)));rw[ae] at ad;have f1:=ad.blk.blk.free Y;obtain⟨bY,kY,_,y1,_⟩:=ad.get cm;have a4:Only g w6 Z1:=by rw[<-ae];exact(Only.refl g w6).setCell _ _
     have a5:=(L.o.below f.o.base L.o.lt).only a4 bd;have a6:Z1.cell? ⟨aq,0,none⟩=some (.int .i64 (A:Nat)):=a5.cell 0;have v6:=m6.1.pv F.o f.o.base ae;obtain⟨Z2,af⟩:=nm (Z1.setCell ⟨g,Y,none⟩ (.pointer (some ⟨b6,0,none⟩)));have a7:=ad.set cm v6 (m6.2.1.mono (by simp only;omega)) (by omega) (Nat.le_refl (KM+C));rw[af] at a7;have bx:=Hi a7;have bm:O (∀(c:Nat) (q:Rat),RatVal w6 c q->RatVal Z2 c q):=Hi (fun c q hc=>(hc.pv F.o f.o.base ae).pv ad bR af);have bn:O (Bl V Z2):=Hi (by
      rw[<-af]
      exact(((ai.o.trans (f.o.base.mono ai.o.size)).trans (a4.below (Nat.le_of_eq az.o) (Nat.le_trans ai.o.size f.o.base.size)))).setCell (p:=⟨g,Y,none⟩) (Nat.le_of_eq az.o) _)
     have bq:O (SB Z2 aq 80 #[.int .i64 (A:Nat),.int .i64 (B:Nat),.string b.c,.string b.e,.string b.l,.string b.m]):=Hi (by
      rw[<-af]
      exact a5.only ((Only.refl g Z1).setCell _ _) bd)
     obtain⟨bz,b0,db⟩:=Ib ae af m4;clear al m4 m6 ad a7 a4 a5 v6 ae af;refine AnyE.one (i:=37) (by kernel_rfl) rfl (fun KK G=>?_);go_simp;rw[bz.o];refine G.out _ _ ⟨fun h=>absurd (by decide) h,a6⟩ ?_;clear G KK R K z x1 x2 H f0;(try simp only[Act.put,sA,sB,sC]);have K:=cq1 Z1 a6;refine AnyE.takeT (i:=38) (v:=?_) rfl (by kernel_rfl) (by kernel_rfl) (by kernel_rfl) (by kernel_rfl) (fun _ _ _ h=>h) (Or.inl ⟨by rfl,?_⟩) (fun h=>absurd h (Qcl (d:=37) (by rfl) (by rfl))) K ?_
     rotate_left
     .
      intro wq y;clear y
      first|(go_simp;done)|(go_simp;with_reducible rfl)
     (try simp only[Act.put,sA,sB,sC]);have b7:O (Z2.cell? ⟨aq,0,none⟩=some (.int .i64 (A:Nat))):=Hi (bq.o.cell 0);refine AnyE.one (i:=39) (by kernel_rfl) rfl (fun KK G=>?_);go_simp;rw[b0.o];refine G.out _ _ ⟨fun h=>absurd (by decide) h,b7.o⟩ ?_;clear G KK K a6 f1 y1;(try simp only[Act.put,sA,sB,sC]);refine AnyE.done (by kernel_rfl) ?_ _;have dc:=bm.o xt _ (f.o.ts (xt,_,_) (List.Mem.tail _ (List.Mem.tail _ (List.Mem.tail _ (List.Mem.tail _ (List.Mem.head _)))))).1;have cc:=bm.o b1 _ (f.o.ts (b1,_,_) (List.Mem.tail _ (List.Mem.tail _ (List.Mem.tail _ (List.Mem.tail _ (List.Mem.tail _ (List.Mem.tail _ (List.Mem.tail _ (List.Mem.head _))))))))).1
     have cd:=bm.o b2 _ (f.o.ts (b2,_,_) (List.Mem.tail _ (List.Mem.tail _ (List.Mem.tail _ (List.Mem.tail _ (List.Mem.tail _ (List.Mem.tail _ (List.Mem.tail _ (List.Mem.tail _ (List.Mem.head _)))))))))).1;obtain⟨E1,cn⟩:∃E1:Vec,upd (upd E X (E X+x k*rx)) Y (E Y+x k*ry)=E1:=⟨_,rfl⟩;have u:=bx.o;rw[cn] at u;have Q:Bl w Z2:=ao.o.trans (bn.o.mono ao.o.size);have x2:=ce Q a0 c6.o;clear f F P W aa ak ai L T S U bd bz b0 db bm b7;obtain⟨Z,br⟩:=nm Z2;subst br;have S:=Nat.lt_of_lt_of_le a0 Q.size;obtain⟨tX,e6,_,z,vX,fX,gX⟩:=u.get ca;obtain⟨tY,e7,_,x1,vY,fY,gY⟩:=u.get bh;have L:=bq;have ai:=bn;obtain⟨-,H,-⟩:=zc L.o;have T:=u.blk.blk.lt;have U:=L.o.lt;have bd:aq≠g:=L.o.unlike u.blk.blk (by decide)
     obtain⟨P,W,aa,ak⟩:=Ic z x1 x2 H;have f:O (RBag Z2 Z2 [(xt,x k,KX),(tX,E1 X2,KM+C),(tY,E1 Y2,KM+C),(b1,rx,8388611),(b2,ry,8388611)]):=Hi ((((((HG.o.below Q).rebase.put cd (da.o.ts _ (List.Mem.tail _ (List.Mem.head _))).2.1 (show 0<8388611 by decide)).put cc (da.o.ts _ (List.Mem.head _)).2.1 (show 0<8388611 by decide)).put vY fY gY).put vX fX gX).put dc bg.o.2.1 bg.o.2.2);obtain⟨F,cp⟩:=Ia u cn;obtain⟨Z,br⟩:=nm Z2;rw[br] at z x1 x2 H P W aa ak f F L ai T U S;rw[br];clear bx bn bq dc cc cd cn u Q vX fX gX vY fY gY br Z2;go_wp2_with fail;have R:=cq3 Z.drew z x1 x2;have K:=cq1 Z.drew H;refine AnyE.beg (D:=[37,39]) (by kernel_rfl) R K ?_;refine Plan.of [0,1,2,3,4,5,6,7,8,9,10,11,12,13,14,15,16,17,18,19,22,23,24,25,26,27,28,29,30,31,32,33,20,21,34,35,36] ?_
     iterate 32
      first
       |(
        refine AnyE.tp (v:=?_) (by rfl) (by kernel_rfl) (by kernel_rfl) (by kernel_rfl) (by kernel_rfl) (by exact fun _ _ _ h=>h) (fun _=>R) K (Or.inl ⟨by rfl,?_⟩) ?_
        rotate_left
        (focus(intro wq y;have bi:_=_:=y;clear y;first|(go_simp;done)|(go_simp;with_reducible rfl))))
       |(
        refine AnyE.sp (v:=?_) (by rfl) (by kernel_rfl) (by kernel_rfl) (by kernel_rfl) (by kernel_rfl) (by kernel_rfl) (by exact fun _ _ _ h=>h) R K (Or.inl ⟨by rfl,?_⟩) ?_
        rotate_left
        (focus(intro wq y;obtain⟨bj,bk,bl⟩:=y;first|(go_simp;done)|(go_simp;with_reducible rfl))))
      (try simp only[Act.put,sA,sB,sC])
     refine AnyE.op (by kernel_rfl) (by rfl) (fun KK G=>?_);go_simp;apply cM;apply RBag.mul (w0:=Z);(first|exact f.o|exact f.o.drew);(repeat(first|exact mH|apply mT));omega;rintro e w3 ⟨b3,rfl,n⟩;clear f R K;have f:=Hi n;clear n z x1 x2 H;obtain⟨z,x1⟩:=Ja f.o.base T P.o W.o;have x2:=ce f.o.base S aa.o;have H:=ce f.o.base U ak.o;refine G.out _ _ ⟨fun _ _=>⟨z,x1,x2⟩,H⟩ ?_;clear G KK;(try simp only[Act.put,sA,sB,sC]);have R:=cq3 w3 z x1 x2;have K:=cq1 w3 H;refine AnyE.op (by kernel_rfl) (by rfl) (fun KK G=>?_);go_simp;apply cM
     apply RBag.sub (w0:=Z);(first|exact f.o|exact f.o.drew);(repeat(first|exact mH|apply mT));omega;rintro e w4 ⟨b4,rfl,n⟩;clear f R K;have f:=Hi n;clear n z x1 x2 H;obtain⟨z,x1⟩:=Ja f.o.base T P.o W.o;have x2:=ce f.o.base S aa.o;have H:=ce f.o.base U ak.o;refine G.out _ _ ⟨fun _ _=>⟨z,x1,x2⟩,H⟩ ?_;clear G KK;(try simp only[Act.put,sA,sB,sC]);have R:=cq3 w4 z x1 x2;have K:=cq1 w4 H;refine AnyE.op (by kernel_rfl) (by rfl) (fun KK G=>?_);go_simp;apply cM;apply RBag.mul (w0:=Z);(first|exact f.o|exact f.o.drew)
     (repeat(first|exact mH|apply mT));omega;rintro e w5 ⟨b5,rfl,n⟩;clear f R K;have f:=Hi n;clear n z x1 x2 H;obtain⟨z,x1⟩:=Ja f.o.base T P.o W.o;have x2:=ce f.o.base S aa.o;have H:=ce f.o.base U ak.o;refine G.out _ _ ⟨fun _ _=>⟨z,x1,x2⟩,H⟩ ?_;clear G KK;(try simp only[Act.put,sA,sB,sC]);have R:=cq3 w5 z x1 x2;have K:=cq1 w5 H;refine AnyE.op (by kernel_rfl) (by rfl) (fun KK G=>?_);go_simp;apply cM;apply RBag.sub (w0:=Z);(first|exact f.o|exact f.o.drew);(repeat(first|exact mH|apply mT))
     (repeat(first|exact mH|apply mT));omega;rintro e w6 ⟨b6,rfl,n⟩;clear f R K;have f:=Hi n;clear n z x1 x2 H;obtain⟨z,x1⟩:=Ja f.o.base T P.o W.o;have x2:=ce f.o.base S aa.o;have H:=ce f.o.base U ak.o;refine G.out _ _ ⟨fun _ _=>⟨z,x1,x2⟩,H⟩ ?_;clear G KK;(try simp only[Act.put,sA,sB,sC]);have R:=cq3 w6 z x1 x2;have K:=cq1 w6 H
     first
      |(
       refine AnyE.tp (v:=?_) (by rfl) (by kernel_rfl) (by kernel_rfl) (by kernel_rfl) (by kernel_rfl) (by exact fun _ _ _ h=>h) (fun _=>R) K (Or.inl ⟨by rfl,?_⟩) ?_
       rotate_left
       (focus(intro wq y;have bi:_=_:=y;clear y;first|(go_simp;done)|(go_simp;with_reducible rfl))))
      |(
       refine AnyE.sp (v:=?_) (by rfl) (by kernel_rfl) (by kernel_rfl) (by kernel_rfl) (by kernel_rfl) (by kernel_rfl) (by exact fun _ _ _ h=>h) R K (Or.inl ⟨by rfl,?_⟩) ?_
       rotate_left
       (focus(intro wq y;obtain⟨bj,bk,bl⟩:=y;first|(go_simp;done)|(go_simp;with_reducible rfl))))
     (try simp only[Act.put,sA,sB,sC]);refine Plan.done ?_;have al:=F.o.below f.o.base;have m4:=f.o.ts (b4,_,_) (List.Mem.tail _ (List.Mem.tail _ (List.Mem.head _)));have m6:=f.o.ts (b6,_,_) (List.Mem.head _);have f0:=al.blk.blk.free X2;have ad:=(al.mono (K':=(KM+C)+C) (by omega)).set ca m4.1 (m4.2.1.mono (by simp only;omega)) (by omega) (Nat.le_refl ((KM+C)+C));obtain⟨Z1,ae⟩:=nm (w6.setCell ⟨g,X2,none⟩ (.pointer (some ⟨b4,0,none⟩)));rw[ae] at ad;have f1:=ad.blk.blk.free Y2;obtain⟨bY,kY,_,y1,_⟩:=ad.get bh;have a4:Only g w6 Z1:=by rw[<-ae];exact(Only.refl g w6).setCell _ _
     have a5:=(L.o.below f.o.base L.o.lt).only a4 bd;have a6:Z1.cell? ⟨aq,1,none⟩=some (.int .i64 (B:Nat)):=a5.cell 1;have v6:=m6.1.pv F.o f.o.base ae;obtain⟨Z2,af⟩:=nm (Z1.setCell ⟨g,Y2,none⟩ (.pointer (some ⟨b6,0,none⟩)));have a7:=ad.set bh v6 (m6.2.1.mono (by simp only;omega)) (by omega) (Nat.le_refl ((KM+C)+C));rw[af] at a7;have bx:=Hi a7;have bm:O (∀(c:Nat) (q:Rat),RatVal w6 c q->RatVal Z2 c q):=Hi (fun c q hc=>(hc.pv F.o f.o.base ae).pv ad bR af);have bn:O (Bl V Z2):=Hi (by
      rw[<-af]
      exact(((ai.o.trans (f.o.base.mono ai.o.size)).trans (a4.below (Nat.le_of_eq az.o) (Nat.le_trans ai.o.size f.o.base.size)))).setCell (p:=⟨g,Y2,none⟩) (Nat.le_of_eq az.o) _)
     have bq:O (SB Z2 aq 80 #[.int .i64 (A:Nat),.int .i64 (B:Nat),.string b.c,.string b.e,.string b.l,.string b.m]):=Hi (by
      rw[<-af]
      exact a5.only ((Only.refl g Z1).setCell _ _) bd)
     obtain⟨bz,b0,db⟩:=Ib ae af m4;clear al m4 m6 ad a7 a4 a5 v6 ae af;refine AnyE.one (i:=37) (by kernel_rfl) rfl (fun KK G=>?_);go_simp;rw[bz.o];refine G.out _ _ ⟨fun h=>absurd (by decide) h,a6⟩ ?_;clear G KK R K z x1 x2 H f0;(try simp only[Act.put,sA,sB,sC]);have K:=cq1 Z1 a6;refine AnyE.takeT (i:=38) (v:=?_) rfl (by kernel_rfl) (by kernel_rfl) (by kernel_rfl) (by kernel_rfl) (fun _ _ _ h=>h) (Or.inl ⟨by rfl,?_⟩) (fun h=>absurd h (Qcl (d:=37) (by rfl) (by rfl))) K ?_
     rotate_left
     .
      intro wq y;clear y
      first|(go_simp;done)|(go_simp;with_reducible rfl)
     (try simp only[Act.put,sA,sB,sC]);have b7:O (Z2.cell? ⟨aq,1,none⟩=some (.int .i64 (B:Nat))):=Hi (bq.o.cell 1);refine AnyE.one (i:=39) (by kernel_rfl) rfl (fun KK G=>?_);go_simp;rw[b0.o];refine G.out _ _ ⟨fun h=>absurd (by decide) h,b7.o⟩ ?_;clear G KK K a6 f1 y1;(try simp only[Act.put,sA,sB,sC]);refine AnyE.done (by kernel_rfl) ?_ _;have cq:O (PV Z2 V.heap.size g N (kF C (k+1)) (fun r=>dot (k+1) (balM vb M.length vh r) x) _):=Hi (by
      have h1:=bx.o;obtain⟨e1,e2,e3,e4⟩:=eg.o;have e8:=c5.o;have f1:E1 X2=E X2:=by rw[<-cp.o,Qad _ _ (by omega),Qad _ _ (by omega)]
      have f2:E1 Y2=E Y2:=by rw[<-cp.o,Qad _ _ (by omega),Qad _ _ (by omega)]
      rw[f1,f2,<-cp.o] at h1;have eh:=Qkj C k;rw[ef.o] at eh;refine(h1.mono (by omega)).congr (fun r=>?_);have:=Qst (vh:=vh) (nb:=M.length) (x:=x) ed.o c5.o (E:=E) (fun r=>by rw[<-HE.o]) r;simp only at this;rw[e2,e1,e4,e3] at this
      exact this)
     go_wp2;go_roundw
     case rel=>exact⟨k+1,_,by omega,by go_num,cq.o,bn.o⟩
     case measure=>simp[intOf];omega
    .
     obtain rfl:k=M.length:=by omega
     obtain⟨-,-,z2,-⟩:=zc (ay.o.below I.o ay.o.lt);go_wp2_with fail;clear z2;go_loopw [124] (fun iv wr=>∃(m:Nat) (ts:List RT),m<=hs.length/\iv=.int .i64 m/\PV wr V.heap.size g N (kF C (M.length+m)) (fun r=>dot (M.length+m) (balM vb M.length vh r) x) ts/\Below V.heap.size V wr) (fun iv _=>hs.length - (intOf iv).toNat)
     case atStart=>exact⟨0,ts,Nat.zero_le _,rfl,F.o,I.o⟩
     case round=>
      clear F I ap;obtain⟨m,ts,hm,rfl,u,am⟩:=hrel;obtain⟨F,I,ap⟩:=Ib u am (ao.o.trans (am.mono ao.o.size));clear u am;by_cases ei:m<hs.length
      .
       obtain⟨h,b8⟩:∃h,hs[m]?=some h:=⟨_,gE ei⟩;obtain⟨R0,cr⟩:∃r,vh[m]?=some r:=⟨vh[m]'(by have:=HV.o.lh;omega),gE _⟩;obtain⟨J,hJ,ej,cs⟩:=(HV.o.vh m h R0 b8 cr).ex;obtain⟨bb,bo,rfl,dz,d0,d1,d2⟩:=(HF.o.h.below ap.o).hold b8;obtain⟨WW,dd,de,ek⟩:∃WW:Nat,h.w=(WW:Int)/\(WW=1∨WW=2)/\R0+1=2*J+WW:=by
        rcases HW.o m h b8 with e|e
        . exact⟨1,by rw[e];rfl,.inl rfl,by rw[cs,if_pos e]⟩
        . exact⟨2,by rw[e];rfl,.inr rfl,by rw[cs,if_neg (by omega)]⟩
       rw[hJ] at d0;rw[dd] at d1;obtain⟨J2,em⟩:=nm (2*J);obtain⟨S1,en⟩:=nm (J2+WW);have w1:IntKind.i64.wrap (2*(J:Int))=(J2:Int):=by rw[wrap_i64 _ (by omega) (by omega)];omega
       have w2:IntKind.i64.wrap ((J2:Int)+(WW:Int))=(S1:Int):=by rw[wrap_i64 _ (by omega) (by omega)];omega
       have w3:IntKind.i64.wrap ((S1:Int) - 1)=(R0:Int):=by rw[wrap_i64 _ (by omega) (by omega)];omega
       have df:R0<N:=by have:=a9.o;omega
       have iR:(R0:Int)<(N:Int):=by omega
       have q1:((m:Int)<(hs.length:Int)):=by omega
       obtain⟨aq,aj⟩:=nm wr.heap.size;obtain⟨Z,an⟩:=nm (wr.alloc (.cells #[.int .i64 (J:Nat),.int .i64 (WW:Nat),.string h.q] 83));have ar:=Ua an;have L:=Uf an aj;have ai:=Hi (I.o.trans (ar.o.mono I.o.size));have Q:=ap.o.trans (ar.o.mono ap.o.size);obtain⟨⟨xt,tq,tk⟩,au⟩:∃t,th[m]?=some t:=⟨th[m]'(by have:=dk.o;omega),gE _⟩;obtain⟨bf,av⟩:=dm.o m _ au;simp only at bf av;subst bf;obtain⟨pb,po,rfl,a0,dg⟩:=HH.o.at au;have x3:=ce Q a0 dg;have S:=Nat.lt_of_lt_of_le a0 Q.size;have aw:=(HH.o.below Q).vs _ (mO au);have u:=F.o.below ar.o
       obtain⟨E,hE⟩:∃E:Vec,(fun r=>dot (M.length+m) (balM vb M.length vh r) x)=E:=⟨_,rfl⟩;rw[hE] at u;obtain⟨KM,ax⟩:=nm (kF C (M.length+m));rw[ax] at u;have ee:KM<=88*C+1:=by rw[<-ax];exact kF_le (by omega)
       have dh:kF C (M.length+(m+1))=KM+2*C:=by rw[<-ax];exact Qkj C (M.length+m)
       obtain⟨tX,kX,_,x2,vX,fX,gX⟩:=u.get df;obtain⟨z,x1,-⟩:=zc L.o;have T:=u.blk.blk.lt;have U:=L.o.lt;obtain⟨P,W,aa,eo⟩:=Ic z x1 x2 x3;have f:O (RBag Z Z [(xt,x (M.length+m),KX),(tX,E R0,KM)]):=Hi (((HG.o.below Q).rebase.put vX fX gX).put aw.1 (aw.2.1.mono av) (Nat.lt_of_lt_of_le aw.2.2 av));clear F;obtain⟨F,HE,ep,eq,er,ck⟩:=Ie u hE dh cr an aj;clear b8 cr hJ ej cs dd de ek em en aj an Q au av dg aw u hE ax dh vX fX gX;go_wp2_with fail;rw[er.o];simp only[ck.o];clear d0 d1 d2;have ag:=cq4 Z.drew z x1 x2 x3;refine AnyBut.beg (k:=24) (by kernel_rfl) ag ?_
       refine Plan.of [0,1,2,3,4,5,6,7,8,9,10,11,12,13,14,15,16,17,18,19,20,21,22,23,24] ?_
       iterate 22
        refine AnyBut.bp (v:=?_) (by rfl) (by kernel_rfl) (by kernel_rfl) (by kernel_rfl) (by kernel_rfl) (by exact fun _ _ _ h=>h) ag (Or.inl ⟨by rfl,?_⟩) ?_
        rotate_left 1
        (focus(intro wq y;obtain⟨bj,bk,bl,es⟩:=y;first|(go_simp;done)|(go_simp;with_reducible rfl)));(try simp only[Act.put,sA,sB,sC])
       clear ag;refine AnyBut.op (by kernel_rfl) (by rfl) (fun KK G=>?_);go_simp;apply cM;apply RBag.add (w0:=Z);exact f.o.drew;(repeat(first|exact mH|apply mT));omega;rintro e wn ⟨nb,rfl,n⟩;obtain⟨bt,di⟩:=Ia n.base (n.ts _ (List.Mem.head _));clear z x1 x2 x3 n;obtain⟨z,x1⟩:=Ja bt.o U P.o W.o;have x2:=ce bt.o T aa.o;have x3:=ce bt.o S eo.o;have al:=F.o.below bt.o;have f0:=al.blk.blk.free R0;have et:=Hi al;clear al;refine G.out _ _ (fun _=>⟨z,x1,x2,x3⟩) ?_;clear G KK;(try simp only[Act.put,sA,sB,sC]);have ag:=cq4 wn z x1 x2 x3
       refine AnyBut.bp (v:=?_) (by rfl) (by kernel_rfl) (by kernel_rfl) (by kernel_rfl) (by kernel_rfl) (by exact fun _ _ _ h=>h) ag (Or.inl ⟨by rfl,?_⟩) ?_
       rotate_left 1
       (focus(intro wq y;obtain⟨bj,bk,bl,es⟩:=y;first|(go_simp;done)|(go_simp;with_reducible rfl)));(try simp only[Act.put,sA,sB,sC]);clear ag;refine AnyBut.op (by kernel_rfl) (by rfl) (fun KK G=>?_);go_simp;refine G.out _ _ (fun h=>absurd rfl h) ?_;clear G KK;(try simp only[Act.put,sA,sB,sC]);refine Plan.done (AnyBut.done (by kernel_rfl) ?_ _);clear z x1 x2 x3 f0;have cq:O (PV (wn.setCell ⟨g,R0,none⟩ (.pointer (some ⟨nb,0,none⟩))) V.heap.size g N (kF C (M.length+(m+1))) (fun r=>dot (M.length+(m+1)) (balM vb M.length vh r) x) _):=Hi (by
        rw[ep.o]
        exact((et.o.mono (K':=KM+2*C) (by omega)).set df di.o.1 (di.o.2.1.mono (by simp only;omega)) (by omega) lZ).congr (fun r=>Qsu HV.o.lb eq.o (fun r=>by rw[<-HE.o]) r))
       go_wp2;go_roundw
       case rel=>exact⟨m+1,_,by omega,by go_num,cq.o,(ai.o.trans (bt.o.mono ai.o.size)).setCell (p:=⟨g,R0,none⟩) (Nat.le_of_eq az.o) _⟩
       case measure=>simp[intOf];omega
      .
       obtain rfl:m=hs.length:=by omega
       go_wp2;go_ret;refine⟨N,g,ts,a9.o.symm,rfl,?_,ap.o⟩;have h1:=F.o;exact⟨h1.blk,Nat.le_trans ao.o.size h1.low,h1.len,fun i t ht=>⟨(h1.q i t ht).1,Nat.le_trans (h1.q i t ht).2 (Nat.le_trans (kF_le (by omega)) (by omega))⟩⟩
theorem Ql8:∀(n:Nat) (r x:Vec),dot n r x=dot n x r
 |0,_,_=>rfl
 |n+1,r,x=>by rw[dot,dot,Ql8 n r x,Rat.mul_comm (r n)]
def laidAt(ρ:Nat->Nat)(m:Vec):Nat->Vec
 |0=>fun _=>0
 |r+1=>upd (laidAt ρ m r) (ρ r) (laidAt ρ m r (ρ r)+m r)
theorem Qhc{N:Nat}(ρ:Nat->Nat)(m s:Vec):∀r,(∀i,i<r->ρ i<N)->dot N s (laidAt ρ m r)=dot r (fun i=>s (ρ i)) m
 |0,_=>Qbm N _ _ (fun c _=>by show s c*(0:Rat)=0;grind)
 |r+1,h=>by
  rw[laidAt,Qch _ _ _ _ _ (h r (by omega)),Qhc ρ m s r (fun i a=>h i (by omega))]
  show _=dot r (fun i=>s (ρ i)) m+s (ρ r)*m r
  grind
def colV(N:Nat)(M:Nat->Vec)(c:Nat):Vec:=fun i=>if i<N then M i c else 0
theorem Ql9{N W r:Nat}{M:Nat->Vec}{T S:List Vec}(ρ:Nat->Nat)(hρ:∀i,i<r->ρ i<N)(a:∀m:Vec,(∀c,c<W->dot r m (fun i=>M (ρ i) c)=0)->∀i,i<r->m i=0)
 (g:∀x,Null N T x↔∀c,c<W->dot N (colV N M c) x=0) (j:∀x,Null N T x↔Null N S x):r<=S.length:=by
 apply bC;intro k;obtain⟨m,l,c,d,e⟩:=Qr9 (W:=r) (M:=S.map (fun s i=>s (ρ i))) (by rw[List.length_map];omega);refine e (a m (fun c d=>?_) c d);have o:Null N S (laidAt ρ m r):=fun s hs=>by
  rw[Qhc ρ m s r hρ];exact l _ (List.mem_map.2 ⟨s,hs,rfl⟩)
 have f:=(g _).1 ((j _).2 o) c d;rw[Qhc ρ m _ r hρ,Ql8] at f;rw[<-f];exact Qai r _ _ _ _ (fun i p=>by simp only[colV,if_pos (hρ i p)])
theorem Ech.cnt:∀{S:List Vec} {hs:Vy} {lo g:Nat},Ech lo g S hs->∀k,hs.countP (fun c=>decide (c<k+1))=hs.countP (fun c=>decide (c<k))+if k∈ hs then 1 else 0
 | [],[],_,_,_,k=>by simp
 |r :: S,h :: hs,lo,g,⟨_,_,_,h4⟩,k=>by
  have j:=h4.cnt k;rw[List.countP_cons,List.countP_cons,j];have d:∀c,c∈ hs->h<c:=fun c l=>by have:=(h4.head c l).1;omega
  by_cases e:k=h
  .
   have o:k ∉ hs:=fun hk=>by have:=d k hk;omega
   have m:k∈ h :: hs:=by rw[e];exact .head _
   have a:h<k+1:=by omega
   have f:¬h<k:=by omega
   simp only[if_neg o,if_pos m,decide_eq_true a,decide_eq_false f,if_true];simp
  .
   by_cases hk:k∈ hs
   .
    have m:k∈ h :: hs:=.tail _ hk;have:=d k hk;have a:h<k+1:=by omega
    have f:h<k:=by omega
    simp only[if_pos hk,if_pos m,decide_eq_true a,decide_eq_true f,if_true]
   .
    have m:¬k∈ h :: hs:=fun p=>by
     rcases List.mem_cons.1 p with q|q
     . exact e q
     . exact hk q
    by_cases i:h<k
    . have a:h<k+1:=by omega
      simp only[if_neg hk,if_neg m,decide_eq_true a,decide_eq_true i,if_true]
    .
     have a:¬h<k+1:=by omega
     simp only[if_neg hk,if_neg m,decide_eq_false a,decide_eq_false i];simp
 | [],_ :: _,_,_,h,_=>h.elim
 |_ :: _,[],_,_,h,_=>h.elim
theorem Ech.free{S:List Vec}{hs:Vy}{W:Nat}(h:Ech 0 W S hs):(freeTo hs W).length+hs.length=W:=by
 have a:∀k,(freeTo hs k).length+hs.countP (fun c=>decide (c<k))=k:=by
  intro k
  induction k with
  |zero=>simp[freeTo]
  |succ k e=>
   rw[Qdf,h.cnt k];by_cases hk:k∈ hs
   . rw[if_pos hk,if_pos hk];omega
   . rw[if_neg hk,if_neg hk,List.length_append,List.length_singleton];omega
 have:=a W;rw[List.countP_eq_length.2 (fun c d=>by simpa using (h.head c d).2)] at this;exact this
section
variable {n P b K1 K2:Nat} {js:List S2} {bs:List B6} {hs:List H3} {vb:List (Nat × Nat × Rat × Rat)} {vh:Vy}
theorem Qma(x:Vec):Null (2*js.length) (balCols js.length vb bs.length vh hs.length) x↔∀c,c<bs.length+hs.length->dot (2*js.length) (colV (2*js.length) (balM vb bs.length vh) c) x=0:=by
 constructor
 . intro h c a
   exact h _ (List.mem_map.2 ⟨c,List.mem_range.2 a,rfl⟩)
 .
  intro h r d;obtain⟨c,a,rfl⟩:=List.mem_map.1 d;exact h c (List.mem_range.1 a)
theorem MI.rows_ind{j k c:Nat}{e:List Vec}{L S:List Vec}{a:Vy}{N W:Nat}{M:Nat->Vec}(l:MI j k e c L S a)(o:∀r,r∈ e->∃t,t<N/\∀c,c<W->r c=M t c)(f:∀h,h∈ a->h<W):
 ∃ρ:Nat->Nat,(∀i,i<a.length->ρ i<N)/\∀m:Vec,(∀c,c<W->dot a.length m (fun i=>M (ρ i) c)=0)->∀i,i<a.length->m i=0:=by
 obtain⟨_,_,_,R,p,q,_,_⟩:=l;have hex:∀i:Nat,∃t:Nat,i<a.length->t<N/\∀c,c<W->R i c=M t c:=fun i=>by
  by_cases d:i<a.length
  . obtain⟨t,s,u⟩:=o (R i) (p i d)
    exact⟨t,fun _=>⟨s,u⟩⟩
  . exact⟨0,fun h=>absurd h d⟩
 obtain⟨ρ,hρ⟩:=Classical.axiomOfChoice hex;refine⟨ρ,fun i d=>(hρ i d).1,fun m h=>q m (fun c g=>?_)⟩;rw[<-h c (f c g)];exact Qai _ _ _ _ _ (fun i d=>by rw[(hρ i d).2 c (f c g)])
theorem ranks{u l v w:List Vec}{y m:Vy}(o:MJ (bs.length+hs.length) 20 K1 (balRows js.length vb bs.length vh) (bs.length+hs.length) u l y)(p:MJ (2*js.length) 20 K2 (balCols js.length vb bs.length vh hs.length) (2*js.length) v w m):l.length=m.length:=by
 obtain⟨q,z⟩:=o.1.done;obtain⟨s,A⟩:=p.1.done;have B:=q.len;have C:=s.len;apply Nat.le_antisymm
 .
  obtain⟨ρ,e,f⟩:=o.2.1.rows_ind (N:=2*js.length) (W:=bs.length+hs.length) (M:=balM vb bs.length vh) (fun r a=>by
   obtain⟨t,g,rfl⟩:=List.mem_map.1 a
   exact⟨t,List.mem_range.1 g,fun _ _=>rfl⟩) (fun h j=>(q.head h j).2)
  rw[B,<-C];exact Ql9 ρ e f Qma A
 .
  obtain⟨ρ,e,f⟩:=p.2.1.rows_ind (N:=bs.length+hs.length) (W:=2*js.length) (M:=fun c i=>balM vb bs.length vh i c) (fun r a=>by
   obtain⟨t,g,rfl⟩:=List.mem_map.1 a
   exact⟨t,List.mem_range.1 g,fun c d=>if_pos d⟩) (fun h j=>(s.head h j).2)
  refine Ql9 (M:=fun c i=>balM vb bs.length vh i c) (W:=2*js.length) ρ e f (T:=balRows js.length vb bs.length vh) (fun x=>⟨fun h c d=>?_,fun h r a=>?_⟩) z
  . rw[<-h _ (List.mem_map.2 ⟨c,List.mem_range.2 d,rfl⟩)]
    exact Qai _ _ _ _ _ (fun i k=>by simp only[colV,if_pos k])
  .
   obtain⟨c,d,rfl⟩:=List.mem_map.1 a;rw[<-h c (List.mem_range.1 d)];exact Qai _ _ _ _ _ (fun i k=>by simp only[colV,if_pos k])
end
theorem Qmb(r x:Vec):∀n,dot (2*n) r x=sumQ n (fun q=>r (2*q)*x (2*q)+r (2*q+1)*x (2*q+1))
 |0=>rfl
 |n+1=>by
  rw[show 2*(n+1)=2*n+1+1 by omega]
  show dot (2*n) r x+r (2*n)*x (2*n)+r (2*n+1)*x (2*n+1)=sumQ n _+_
  rw[Qmb r x n];grind
theorem Qxs{n:Nat}{p:Nat × Nat × Rat × Rat}(v:Vec)(d:p.1<n)(e:p.2.1<n)(f:p.1≠p.2.1):dot (2*n) (fun i=>if i<2*n then barAt p i else 0) v= -(p.2.2.1*(v (2*p.2.1) - v (2*p.1))+p.2.2.2*(v (2*p.2.1+1) - v (2*p.1+1))):=by
 rw[Qai (2*n) _ v (barAt p) v (fun i g=>by rw[if_pos g]),Qmb,Qj3 n _ p.1 p.2.1 d e f (fun q _ k l=>?_)]
 .
  have a:barAt p (2*p.1)=p.2.2.1:=if_pos rfl;have c:barAt p (2*p.1+1)=p.2.2.2:=by unfold barAt;rw[if_neg (by omega),if_neg (by omega),if_pos rfl]
  have h:barAt p (2*p.2.1)= -p.2.2.1:=by unfold barAt;rw[if_neg (by omega),if_pos rfl]
  have j:barAt p (2*p.2.1+1)= -p.2.2.2:=by unfold barAt;rw[if_neg (by omega),if_neg (by omega),if_neg (by omega),if_pos rfl]
  simp only[a,c,h,j];grind
 .
  have a:barAt p (2*q)=0:=by unfold barAt;rw[if_neg (by omega),if_neg (by omega),if_neg (by omega),if_neg (by omega)]
  have c:barAt p (2*q+1)=0:=by unfold barAt;rw[if_neg (by omega),if_neg (by omega),if_neg (by omega),if_neg (by omega)]
  simp only[a,c];grind
section
variable {n P b K1 K2:Nat} {js:List S2} {bs:List B6} {hs:List H3} {vb:List (Nat × Nat × Rat × Rat)} {vh:Vy} {vs:List (Nat × Rat × Rat)}
theorem Qxt(f:FrV n js bs hs vb vh)(v:Vec){i:Nat}{p:Nat × Nat × Rat × Rat}(a:vb[i]?=some p)(c:p.1<js.length)(d:p.2.1<js.length)(e:p.1≠p.2.1):dot (2*js.length) (colV (2*js.length) (balM vb bs.length vh) i) v= -stretch p v:=by
 rw[show colV (2*js.length) (balM vb bs.length vh) i=fun r=>if r<2*js.length then barAt p r else 0 from by
  funext r
  simp only[colV,balM,a]]
 exact Qxs v c d e
theorem Qxu(f:FrV n js bs hs vb vh)(v:Vec){i r:Nat}(g:vh[i]?=some r)(d:r<2*js.length):dot (2*js.length) (colV (2*js.length) (balM vb bs.length vh) (bs.length+i)) v=v r:=by
 have e:∀q,q<2*js.length->colV (2*js.length) (balM vb bs.length vh) (bs.length+i) q=if q=r then 1 else 0:=fun q j=>by
  have l:vb[bs.length+i]?=none:=List.getElem?_eq_none (by have:=f.lb;omega);simp only[colV,if_pos j,balM,l,Nat.add_sub_cancel_left,g];by_cases h:q=r
  . rw[if_pos ⟨by omega,h⟩,if_pos h]
  . rw[if_neg (fun k=>h k.2),if_neg h]
 rw[Qbz _ _ _ r d (fun c m a=>by rw[e c m,if_neg a];grind),e r d,if_pos rfl];grind
theorem Qxv(h:FrP P b vb)(i:FrV n js bs hs vb vh){j d e f:List Vec}{k a:Vy}(l:MJ (bs.length+hs.length) 20 K1 (balRows js.length vb bs.length vh) (bs.length+hs.length) j d k)(g:MJ (2*js.length) 20 (kC b) (balCols js.length vb bs.length vh hs.length) (2*js.length) e f a):(freeTo a (2*js.length)).length+d.length=2*js.length:=by
 obtain⟨_,_,c⟩:=h.cols i;rw[ranks l g];exact(c e f a g).1.1.free
end
theorem Qxw{m:Nat}{hs:List H3}{i:Nat}{h:H3}(k:holdAt m hs i h=0):h.w=1∨h.w=2:=by
 unfold holdAt holdC at k;by_cases a:h.w=1
 . exact .inl a
 .
  by_cases c:h.w=2
  . exact .inr c
  .
   split at k
   . rw[if_pos ⟨a,c⟩] at k
     cases k
   . cases k
section
open Go.ChangeShapes Go.WideShapes Go.ChangeAt Go.RowKit
section
variable {H:Type} {enc:TypeId × Value->H} {W:Vz}
theorem Qla:∀a:List S2,jW a<=Rows.uptoBulkAll (a.map (spotD (H:=H)))
 | []=>by simp[jW,Rows.uptoBulkAll]
 |s :: l=>by
  have b:=Qla l;have c:=(Qg2 (H:=H) s).2;simp only[jW,List.map_cons,Rows.uptoBulkAll];omega
end
end
theorem Qnv:(prog.info? 103).map (fun i=>(i.zero,i.size,i.bytes))=some (some (.slice .none 0 0),1,24):=by kernel_rfl
theorem Qnw(n:Nat):madeCells (Value.cells (.slice none 0 0)) n=(List.replicate n (Value.slice none 0 0)).toArray:=by
 have e:Value.cells (.slice none 0 0)=#[.slice none 0 0]:=by rfl
 rw[e];apply Array.ext';rw[toList_madeCells_one]
theorem Qhy(n:Nat)(d:n<=1048576)(w:Vz):(Instr.makeSlice 44 (.int .i64 n) (.int .i64 n)).run prog w=.ok (.slice (some ⟨w.heap.size,0,.none⟩) n n) (w.alloc (.cells (List.replicate n (Value.slice none 0 0)).toArray 103)):=by
 obtain⟨i,a,h⟩:=Option.map_eq_some_iff.1 Qnv;simp only[Prod.mk.injEq] at h;obtain⟨b,hs,c⟩:=h;have:=run_make w 44 103 i _ underlying44 a b .i64 .i64 n n (by omega) (by omega) (by rw[c];omega) (by omega);rw[Int.toNat_natCast,hs,Nat.mul_one,Qnw] at this;exact this
theorem PGrow.keep{w w':Vz}{B:Nat}{v:Value}{a:List RT}(h:PGrow w B v a)(hk:∀b,v.ownBlock=some b->w'.heap[b]?=w.heap[b]?)(d:∀b q,RatVal w b q->RatVal w' b q):PGrow w' B v a:=
 ⟨h.list.keep hk,fun t c=>⟨d _ _ (h.vs t c).1,(h.vs t c).2⟩⟩
theorem PGrow.ptr{w:Vz}{B b:Nat}{v:Value}{a:List RT}(h:PGrow w B v a)(c:v.ownBlock=some b):∃C,SB w b 84 C:=by
 obtain⟨C,d,_⟩:=h.list.sb c;exact⟨C,d⟩
theorem SB.same{w w':Vz}{b:Nat}{t:Vr}{C:Vw}(h:SB w b t C)(e:w'.heap[b]?=w.heap[b]?):SB w' b t C:=by
 unfold SB at h ⊢;rw[e];exact h
structure GR (w:Vz) (B g:Nat) (vs:Vv) (tss:List (List RT)):Prop where
 blk:SB w g 103 vs.toArray
 low:B<=g
 len:tss.length=vs.length
 row:∀(i:Nat) (v:Value) (ts:List RT),vs[i]?=some v->tss[i]?=some ts->PGrow w B v ts
 apart:∀(i j:Nat) (u v:Value) (b:Nat),i≠j->vs[i]?=some u->vs[j]?=some v->u.ownBlock=some b->v.ownBlock≠some b
section
variable {w w':Vz} {B g:Nat} {vs:Vv} {tss:List (List RT)}
theorem GR.below(h:GR w B g vs tss)(a:Bl w w'):GR w' B g vs tss:=⟨h.blk.below a h.blk.lt,h.low,h.len,fun i v b c d=>(h.row i v b c d).below a,h.apart⟩
theorem GR.start(w:Vz)(n:Nat):GR (w.alloc (.cells (List.replicate n (Value.slice none 0 0)).toArray 103)) w.heap.size w.heap.size (List.replicate n (Value.slice none 0 0)) (List.replicate n []):=by
 refine⟨SB.new _ _ _,Nat.le_refl _,by simp,fun i v f a c=>?_,fun i j u v b _ d _ e=>?_⟩
 .
  obtain⟨_,rfl⟩:=List.mem_replicate.1 (mO a);obtain⟨_,rfl⟩:=List.mem_replicate.1 (mO c);exact PGrow.nil _ _
 . obtain⟨_,rfl⟩:=List.mem_replicate.1 (mO d)
   cases e
theorem GR.get(h:GR w B g vs tss){i:Nat}{v:Value}(d:vs[i]?=some v):∃b,tss[i]?=some b/\PGrow w B v b/\w.cell? ⟨g,i,none⟩=some v/\∃a c,v=.slice a b.length c:=by
 obtain⟨b,f⟩:∃b,tss[i]?=some b:=⟨_,gE (by rw[h.len];exact(gZ d).1)⟩;have j:=h.row i v b d f;obtain⟨a,c,e,_⟩:=j.row;exact⟨b,f,j,by rw[h.blk.cell];simpa using d,a,c,e⟩
theorem GR.sl(h:GR w B g vs tss){v:Value}(b:v∈ vs):IsSl v:=by
 obtain⟨i,d⟩:=List.getElem?_of_mem b;obtain⟨f,_,_,_,a,c,e⟩:=h.get d;exact⟨_,_,_,e⟩
theorem GR.own_ne(h:GR w B g vs tss){v:Value}{b:Nat}(a:v∈ vs)(c:v.ownBlock=some b):b≠g/\b<w.heap.size:=by
 obtain⟨i,d⟩:=List.getElem?_of_mem a;obtain⟨f,_,e,_⟩:=h.get d;obtain⟨C,hC⟩:=e.ptr c;exact⟨hC.unlike h.blk Qee,hC.lt⟩
theorem Qcx{α:Type}{l:List α}{i j:Nat}{x y:α}(h:(l.set i x)[j]?=some y):(j=i/\x=y)∨(j≠i/\l[j]?=some y):=by
 by_cases e:j=i
 .
  subst e;have hl:=(gZ h).1;rw[List.getElem?_set_self (by simpa using hl)] at h;exact .inl ⟨rfl,Option.some.inj h⟩
 . rw[List.getElem?_set_ne (Ne.symm e)] at h
   exact .inr ⟨e,h⟩
theorem GR.app{i pb K:Nat}{q:Rat}{v:Value}{S:List RT}(h:GR w B g vs tss)(G:vs[i]?=some v)(W:tss[i]?=some S)(hq:RatVal w pb q)(hf:Fits q K)(hK:0<K)(hn:S.length<=1000)(hB:B<=w.heap.size)(ty:Vr):
 ∃o w',appR prog 103 ty v (.slice (some ⟨w.heap.size,0,none⟩) 1 1) (w.alloc (.cells #[.pointer (some ⟨pb,0,none⟩)] 84))=.ok o w'/\w'.cell? ⟨g,i,none⟩=some v/\w'.frozen? ⟨g,i,none⟩=false/\(∃a c,o=.slice a (S.length+1) c)/\
  GR (w'.setCell ⟨g,i,none⟩ o) B g (vs.set i o) (tss.set i (S++ [(pb,q,K)]))/\Below B w w'/\(∀b q,RatVal w b q->RatVal (w'.setCell ⟨g,i,none⟩ o) b q)/\
  ∀r,(∀u,u∈ vs->u.ownBlock≠some r)->r<w.heap.size->r≠g->(w'.setCell ⟨g,i,none⟩ o).heap[r]?=w.heap[r]?/\∀u,u∈ vs.set i o->u.ownBlock≠some r:=by
 obtain⟨Y,X⟩:=nm (w.alloc (.cells #[.pointer (some ⟨pb,0,none⟩)] 84));have f:Bl w Y:=by rw[<-X];exact(Below.refl _ _).alloc lZ _
 have Z:Y.cell? ⟨w.heap.size,0,none⟩=some (.pointer (some ⟨pb,0,none⟩)):=by rw[<-X];exact Qa0 w _ _
 rw[X];have y:=h.below f;have hp:=y.row i v S G W;obtain⟨o,w',T,z,aa,U,H,V⟩:=hp.appT (t:=103) (us:=[(pb,q,K)]) (nb:=w.heap.size) (c:=1) (m:=1) underlying103 (fun t W=>by
  obtain rfl:=List.mem_singleton.1 W
  exact⟨hq.below f,hf,hK⟩) rfl (fun j u I=>by
  match j,I with
  |0,I=>
   obtain rfl:Value.pointer (some ⟨pb,0,none⟩)=u:=by simpa [ptrV] using I
   rw[Qau]
   exact Z) (by omega) (Nat.le_trans hB f.size) ty
 have A:=mO G;have n:∀b,b<Y.heap.size->v.ownBlock≠some b->w'.heap[b]?=Y.heap[b]?:=fun b d J=>H.block b d (fun e=>J e.symm)
 have l:=y.blk.same (n g y.blk.lt (fun e=>(y.own_ne A e).1 rfl));have ho:Only g w' (w'.setCell ⟨g,i,none⟩ o):=(Only.refl g w').setCell _ _;have ab:∀u,u∈ vs.toArray.toList->IsSl u:=fun u p=>h.sl (by simpa using p)
 have L:∀b q,RatVal w' b q->RatVal (w'.setCell ⟨g,i,none⟩ o) b q:=fun b q d=>d.fs (Fs.of_only ho l ab)
 have s:=fun b d hl=>ho.block b hl d
 have ad:=(gZ G).1;have M:∀b,o.ownBlock=some b->v.ownBlock=some b∨(v.ownBlock≠some b/\Y.heap.size=b):=fun b d=>by
  rcases V with e|e
  . exact .inl (e ▸ d)
  .
   rw[e] at d;obtain rfl:=Option.some.inj d;exact .inr ⟨fun R=>by have:=(y.own_ne A R).2;omega,rfl⟩
 obtain⟨na,nc,ae,_⟩:=z.row;refine⟨o,w',T,by rw[l.cell];simpa using G,l.free i,⟨na,nc,by simpa using ae⟩,⟨?_,h.low,by simp[h.len],fun j u us p D=>?_,fun j k u x b E p hx d=>?_⟩,?_,fun b q d=>L b q ((d.below f).fp U),fun r N O J=>⟨?_,fun u p=>?_⟩⟩
 . have:=l.set i o
   simpa using this
 .
  rcases Qcx p with ⟨rfl,rfl⟩|⟨I,p⟩
  .
   rw[List.getElem?_set_self (by rw[h.len];exact ad)] at D;obtain rfl:=Option.some.inj D;refine z.keep (fun b d=>s b ?_ (z.list.lt d).2) L;obtain⟨C,hC⟩:=z.ptr d;exact hC.unlike l Qee
  .
   rw[List.getElem?_set_ne (Ne.symm I)] at D;have P:=y.row j u us p D;refine(P.keep (w':=w') (fun b d=>n b (P.list.lt d).2 (fun e=>y.apart i j v u b (Ne.symm I) G p e d)) (fun b q d=>d.fp U)).keep (fun b d=>s b (y.own_ne (mO p) d).1 ?_) L;exact Nat.lt_of_lt_of_le (P.list.lt d).2 H.size
 .
  rcases Qcx p with ⟨ej,eu⟩|⟨I,Q⟩
  .
   rcases Qcx hx with ⟨ek,_⟩|⟨hk,F⟩
   . exact absurd (ej.trans ek.symm) E
   .
    rw[<-eu] at d;rcases M b d with e|⟨_,e⟩
    . exact h.apart i k v x b (by rw[<-ej];exact E) G F e
    . exact fun R=>by have:=(y.own_ne (mO F) R).2;omega
  .
   rcases Qcx hx with ⟨ek,ex⟩|⟨hk,F⟩
   .
    intro R;rw[<-ex] at R;rcases M b R with e|⟨_,e⟩
    . exact h.apart i j v u b (by rw[<-ek];exact Ne.symm E) G Q e d
    . have:=(y.own_ne (mO Q) d).2
      omega
   . exact h.apart j k u x b E Q F d
 . exact(f.mono hB).trans aa
 . rw[s r J (Nat.lt_of_lt_of_le O (Nat.le_trans f.size H.size)),n r (Nat.lt_of_lt_of_le O f.size) (N v A),f.block r O]
 .
  rcases List.mem_or_eq_of_mem_set p with p|rfl
  . exact N u p
  .
   intro e;rcases M r e with e|⟨_,e⟩
   . exact N v A e
   . have:=f.size
     omega
theorem GR.pmat(h:GR w B g vs tss)(P:∀c,c∈ tss->0<c.length):∃rs:List PR,rs.length=vs.length/\rs.map PR.ts=tss/\PMat w B g [] rs:=by
 have hex:∀i:Nat,∃r:PR,∀v c,vs[i]?=some v->tss[i]?=some c->r.ts=c/\r.val=v/\v.ownBlock=some r.b/\SB w r.b 84 r.cells.toArray/\B<=r.b/\(∀u,u∈ r.sp->IsPt u)/\r.ts.length<=r.cap:=fun i=>by
  rcases s:vs[i]? with _|v
  . exact⟨⟨0,0,[],[]⟩,fun v c s=>by cases s⟩
  obtain⟨c,x,L,_⟩:=h.get s;have V:=P c (mO x);rcases L.list.own.2 with ⟨_,e⟩|⟨b,cap,n,rfl,y,M,D,Q,R,m⟩
  . omega
  rw[Nat.mul_one] at m;have o:c.map ptrV++n.toList.drop c.length=n.toList:=by
   rw[<-m];exact List.take_append_drop _ _
  refine⟨⟨b,cap,c,n.toList.drop c.length⟩,fun N E F G=>?_⟩;obtain rfl:=Option.some.inj F;obtain rfl:=Option.some.inj (x.symm.trans G);refine⟨rfl,rfl,rfl,?_,y,fun u H=>?_,D⟩
  .
   show SB w b _ (c.map ptrV++n.toList.drop c.length).toArray
   rw[o];exact M
  .
   obtain⟨C,hC,S⟩:=L.list.all b rfl;rw[M] at hC;injection hC with hC
   injection hC with hC _ _
   subst hC;exact S u (List.mem_of_mem_drop H)
 obtain⟨f,T⟩:=Classical.axiomOfChoice hex;have k:∀i,i<vs.length->∃v c,vs[i]?=some v/\tss[i]?=some c/\(f i).ts=c/\(f i).val=v/\v.ownBlock=some (f i).b/\SB w (f i).b 84 (f i).cells.toArray/\B<=(f i).b/\(∀u,u∈ (f i).sp->IsPt u)/\(f i).ts.length<=(f i).cap:=fun i d=>by
  have s:=gE d;obtain⟨c,x,_⟩:=h.get s;exact⟨_,c,s,x,T i _ c s x⟩
 have z:((List.range vs.length).map f).map PR.val=vs:=by
  apply List.ext_getElem?;intro i;rw[List.map_map,List.getElem?_map];rcases Nat.lt_or_ge i vs.length with d|d
  .
   obtain⟨v,c,t,_,_,p,_⟩:=k i d;rw[List.getElem?_range d,t];simp[p]
  . rw[List.getElem?_eq_none d,List.getElem?_eq_none (by simpa using d)]
    rfl
 have q:∀r,r∈ (List.range vs.length).map f->∃i,i<vs.length/\f i=r:=fun r A=>by
  obtain⟨i,d,rfl⟩:=List.mem_map.1 A;exact⟨i,List.mem_range.1 d,rfl⟩
 refine⟨(List.range vs.length).map f,by simp,?_,⟨?_,(fun u H=>by cases H),h.low,fun r A=>?_,fun r A=>?_,fun i j a b I J y=>?_⟩⟩
 .
  apply List.ext_getElem?;intro i;rw[List.map_map,List.getElem?_map];rcases Nat.lt_or_ge i vs.length with d|d
  .
   obtain⟨v,c,_,t,p,_⟩:=k i d;rw[List.getElem?_range d,t];simp[p]
  . rw[List.getElem?_eq_none (l:=tss) (by rw[h.len];exact d),List.getElem?_eq_none (by simpa using d)]
    rfl
 . rw[z,List.append_nil]
   exact h.blk
 .
  obtain⟨i,d,rfl⟩:=q r A;obtain⟨v,c,_,_,_,_,_,p⟩:=k i d;exact p
 .
  obtain⟨i,d,rfl⟩:=q r A;obtain⟨v,c,t,p,K,_⟩:=k i d;rw[K];exact(h.row i v c t p).vs
 .
  have d:i<vs.length:=by simpa using (gZ J).1
  have O:j<vs.length:=by simpa using (gZ y).1
  rw[List.getElem?_map,List.getElem?_range d] at J;rw[List.getElem?_map,List.getElem?_range O] at y;obtain rfl:=Option.some.inj J;obtain rfl:=Option.some.inj y;obtain⟨v,c,t,_,_,_,p,_⟩:=k i d;obtain⟨N,E,K,_,_,_,U,_⟩:=k j O;intro e;exact h.apart i j v N _ I t K p (by rw[e];exact U)
end
def Bals(M:Nat->Vec)(K i k:Nat)(tss:List (List RT)):Prop:=∀(r:Nat) (ts:List RT),tss[r]?=some ts->ts.length=(if r<i then k+1 else k)/\∀(c:Nat) (t:RT),ts[c]?=some t->t.2.1=M r c/\t.2.2=K
theorem Bals.step{M:Nat->Vec}{K i k pb:Nat}{a:List (List RT)}{d:List RT}{q:Rat}(h:Bals M K i k a)(m:a[i]?=some d)(n:q=M i k):Bals M K (i+1) k (a.set i (d++ [(pb,q,K)])):=by
 intro r us b;have g:=h i d m;rw[if_neg (Nat.lt_irrefl _)] at g;rcases Qcx b with ⟨rfl,rfl⟩|⟨o,b⟩
 .
  rw[if_pos (Nat.lt_succ_self _),List.length_append,g.1];refine⟨rfl,fun c t f=>?_⟩;rcases Nat.lt_or_ge c d.length with hl|hl
  . rw[List.getElem?_append_left hl] at f
    exact g.2 c t f
  .
   have j:=(gZ f).1;rw[List.length_append,List.length_singleton] at j;obtain rfl:c=d.length:=by omega
   rw[List.getElem?_append_right lZ,Nat.sub_self] at f;obtain rfl:=Option.some.inj f;rw[g.1];exact⟨n,rfl⟩
 .
  have l:=h r us b;refine⟨?_,l.2⟩;rw[l.1];by_cases e:r<i
  . rw[if_pos e,if_pos (by omega)]
  . rw[if_neg e,if_neg (by omega)]
theorem Bals.next{M:Nat->Vec}{K n k:Nat}{a:List (List RT)}(h:Bals M K n k a)(d:a.length<=n):Bals M K 0 (k+1) a:=by
 intro r e b;have c:=h r e b;rw[if_pos (Nat.lt_of_lt_of_le (gZ b).1 d)] at c;rw[if_neg (Nat.not_lt_zero _)];exact c
theorem GR.mono{w:Vz}{B b g:Nat}{vs:Vv}{a:List (List RT)}(h:GR w B g vs a)(hB:b<=B):GR w b g vs a:=⟨h.blk,Nat.le_trans hB h.low,h.len,fun i v c d e=>(h.row i v c d e).low hB,h.apart⟩
theorem PV.take{w:Vz}{B g n K m:Nat}{x:Vec}{b:List RT}(h:PV w B g n K x b):PRow w (some ⟨g,0,none⟩) (b.take m):=
 ⟨⟨fun j u c=>by
   obtain⟨t,a,rfl⟩:=Option.map_eq_some_iff.1 (by rw[List.getElem?_map] at c;exact c);have hl:=(gZ a).1;rw[List.length_take] at hl;rw[List.getElem?_take_of_lt (by omega)] at a
   exact⟨g,0,rfl,h.blk.blk.lt,by rw[Nat.zero_add];exact h.blk.cell a⟩⟩,fun t a=>h.blk.vs t (List.mem_of_mem_take a)⟩
theorem PV.drop{w:Vz}{B g n K m:Nat}{x:Vec}{b:List RT}(h:PV w B g n K x b):PRow w (some ⟨g,m,none⟩) (b.drop m):=
 ⟨⟨fun j u c=>by
   obtain⟨t,a,rfl⟩:=Option.map_eq_some_iff.1 (by rw[List.getElem?_map] at c;exact c);rw[List.getElem?_drop] at a
   exact⟨g,m,rfl,h.blk.blk.lt,h.blk.cell a⟩⟩,fun t a=>h.blk.vs t (List.mem_of_mem_drop a)⟩
theorem PRow.nil(w:Vz)(a:Vx):PRow w a []:=⟨⟨fun j u b=>by simp at b⟩,fun t c=>by cases c⟩
theorem Qe7{W c:Nat}(a:c<W)(x:Vec):dot W x (unitV c)=x c:=by
 rw[Qbz W x _ c a (fun i _ b=>by simp only[unitV,if_neg b];grind)];simp only[unitV,if_pos];grind
theorem Qnx(a1 a2 a3:Vx)(c1 c2 c3 K:Nat)(R:List S2)(a:List B6)(hs:List H3)(vb:List (Nat × Nat × Rat × Rat))(vh:Vy)(w:Vz)
 (hg:∃m,w.cell? ⟨4,0,none⟩=some (.int .i64 m)) (hf:FrRow w a1 a2 a3 c1 c2 c3 R a hs) (S:FrV 1048576 R a hs vb vh) (hw:∀(i:Nat) (h:H3),hs[i]?=some h->h.w=1∨h.w=2) (hK:738197945<=K):
 Calls prog 13 #[.agg #[.slice a1 R.length c1,.slice a2 a.length c2,.slice a3 hs.length c3]] w fun e w'=>∃(N g:Nat) (vs:Vv) (d:List (List RT)),N=2*R.length/\e=.returned (.slice (some ⟨g,0,none⟩) N N)/\GR w' w.heap.size g vs d/\vs.length=N/\Bals (balM vb a.length vh) K 0 (a.length+hs.length) d/\Bl w w':=by
 have n1:=S.j;have n2:=S.b;have n3:=S.h;obtain⟨HG,HF,HV,HW⟩:=Ic (RBag.start hg) hf S hw;obtain⟨N,hN⟩:=nm (2*R.length);obtain⟨n,hn⟩:=nm (a.length+hs.length);have eN:IntKind.i64.wrap (2*(R.length:Int))=(N:Int):=by rw[wrap_i64 _ (by omega) (by omega)];omega
 have aq:=fun w=>Qhy N (by omega) w
 obtain⟨MC,al⟩:=nm ((List.replicate N (Value.slice none 0 0)).toArray);rw[al] at aq;obtain⟨B0,am⟩:=nm w.heap.size;obtain⟨V,hV⟩:=nm (w.alloc (.cells #[.slice a1 R.length c1,.slice a2 a.length c2,.slice a3 hs.length c3] 26));have ar:=Ua hV;have au:=Uf hV am;obtain⟨av,T⟩:=Ia hN hn;have bq:N<=20:=by omega
 have br:n<=44:=by omega
 have bt:a.length<=n:=by omega
 obtain⟨bk,bl,bm⟩:=Ib hV am al;clear hg hf S hw hN hn al hV am;go_enter func13,ntmps13;go_wp2_with fail;rw[bk.o];simp only[bl.o];go_fit (Qep a1 a2 a3 c1 c2 c3 R.length a.length hs.length V n2 n3);rintro e w1 ⟨rfl,U⟩;have en:((a.length:Int)+(hs.length:Int))=(n:Int):=by have:=T.o;omega
 rw[en];obtain⟨bu,G⟩:=Ia U (ar.o.trans (U.mono ar.o.size));have an:=au.o.below U au.o.lt;obtain⟨z0,-⟩:=zc an;obtain⟨g,ao⟩:=nm w1.heap.size;obtain⟨W1,W⟩:=nm (w1.alloc (.cells MC 103));have aw:O (GR W1 g g (List.replicate N (Value.slice none 0 0)) (List.replicate N [])):=Hi (by rw[<-W,<-bm.o,<-ao];exact GR.start w1 N);have ax:=Ua W;obtain⟨X,x,ay⟩:=Ib an ao W;clear U en an ao W;go_wp2_with fail;rw[ay.o];rw[x.o];clear z0 aq;go_loopw [5] (fun iv wr=>∃(k:Nat) (vs:Vv) (d:List (List RT)),k<=n/\iv=.int .i64 k/\GR wr g g vs d/\vs.length=N/\Bals (balM vb a.length vh) K 0 k d/\Below g w1 wr) (fun iv _=>n - (intOf iv).toNat)
 case atStart=>
  refine⟨0,_,_,Nat.zero_le _,rfl,aw.o,by simp,fun r ts hr=>?_,ax.o.mono (Nat.le_of_eq x.o.symm)⟩;obtain⟨_,rfl⟩:=List.mem_replicate.1 (mO hr);exact⟨by simp,fun c t hc=>by simp at hc⟩
 case round=>
  clear aw ax ay;obtain⟨k,vs,d,hk,rfl,H,I,J,D⟩:=hrel;obtain⟨l,y,B,E,L⟩:=Id H I J D (G.o.trans (D.mono (by have:=x.o;have:=G.o.size;omega)));clear H I J D;by_cases bn:k<n
  .
   have q1:(k:Int)<(n:Int):=by omega
   have HU:=Hi (Qgm n k wr ((HG.o.below L.o).glob) bn (by omega));go_wp2_with fail;go_fit HU.o;rintro e w2 ⟨gu,us,rfl,az,Y⟩;obtain⟨z,M,Z,s⟩:=Ic az (L.o.trans (Y.mono L.o.size)) (l.o.below Y) (E.o.trans (Y.mono (by have:=E.o.size;have:=x.o;omega)));clear az Y HU;have a0:=X.o.below s.o (by have:=X.o.lt;have:=x.o;omega);obtain⟨z0,z1,z2,-⟩:=zc a0;clear a0;obtain⟨A,hA,a4⟩:∃A:Addr,(if n=a.length then some (⟨gu,0,none⟩:Addr) else some ⟨gu,a.length,none⟩)=some A/\PRow w2 (some A) (us.drop a.length):=by
    by_cases e:n=a.length
    .
     refine⟨⟨gu,0,none⟩,by simp[e],?_⟩;rw[List.drop_of_length_le (by rw[z.o.len];omega)];exact PRow.nil _ _
    . exact⟨⟨gu,a.length,none⟩,by simp[e],z.o.drop⟩
   have a5:n - a.length=hs.length:=by have:=T.o;omega
   have a6:=Hi (fun u (hu:Bl w2 u)=>Qsv a1 a2 a3 (some ⟨gu,0,none⟩) (some A) c1 c2 c3 n hs.length 1 R a hs vb vh (us.take a.length) (us.drop a.length) (unitV k) u (((HG.o.below M.o).below hu).glob) ((HF.o.below M.o).below hu) HV.o HW.o (z.o.take.below hu) (by rw[List.length_take,z.o.len];omega) (a4.below hu) (by rw[List.length_drop,z.o.len];exact a5) (fun i t ht=>by
    rw[List.getElem?_take_of_lt (by have:=(gZ ht).1;rw[List.length_take] at this;omega)] at ht
    exact z.o.q i t ht) (fun i t ht=>by
    rw[List.getElem?_drop] at ht
    exact z.o.q _ t ht) (by decide))
   clear a4;go_wp2_with fail;go_region_held3 (fun v=>v.cell? ⟨B0,0,none⟩=some (.slice a1 R.length c1)/\v.cell? ⟨B0,1,none⟩=some (.slice a2 a.length c2)/\v.cell? ⟨B0,2,none⟩=some (.slice a3 hs.length c3)) ((first|(simp [*];done)|go_keep)) (first
    |(
     go_at_call_of 51 (Value.slice (some ⟨gu,0,none⟩) a.length n);apply cM;apply a6.o;(focus(repeat(first|exact Below.refl _ _|apply Qaq|apply Qar)));rintro e w3 ⟨N',ge,es,aa,rfl,F,ap⟩;rw[av.o] at aa;have aa:=aa.symm;subst aa;have f:=Hi F;have ab:O (Bl w2 w3):=Hi (by first|exact ap|exact(Below.refl _ _).drew.trans ap);have a7:O (w2.heap.size<=ge):=Hi F.low;clear F ap z0 z1 z2;have a8:=X.o.below (s.o.trans (ab.o.mono (by have:=s.o.size;have:=x.o;omega))) (by have:=X.o.lt;have:=x.o;omega);obtain⟨z0,z1,z2,-⟩:=zc a8;clear a8
     skip)
    |fail)
   all_goals
    clear z0 z1 z2 hA a5;obtain⟨a9,ad⟩:=Ia (Z.o.below ab.o) (s.o.trans (ab.o.mono (by have:=s.o.size;have:=x.o;omega)));have C:O (∀u,u∈ vs->u.ownBlock≠some ge):=Hi (fun u hu e=>by have:=(Z.o.own_ne hu e).2;have:=a7.o;omega);have ba:O (ge≠g):=Hi (fun e=>by have:=Z.o.blk.lt;have:=a7.o;omega);clear a6 z Z;go_wp2_with fail;go_loopw [37] (fun iv wr=>∃(i:Nat) (vs:Vv) (d:List (List RT)),i<=N/\iv=.int .i64 i/\GR wr g g vs d/\vs.length=N/\Bals (balM vb a.length vh) K i k d/\PV wr ge ge N 738197945 (fun r=>dot (a.length+hs.length) (balM vb a.length vh r) (unitV k)) es/\(∀u,u∈ vs->u.ownBlock≠some ge)/\Below g w1 wr) (fun iv _=>N - (intOf iv).toNat)
    case atStart=>exact⟨0,vs,d,Nat.zero_le _,rfl,a9.o,y.o,B.o,⟨f.o.blk,Nat.le_refl _,f.o.len,f.o.q⟩,C.o,ad.o⟩
    case round=>
     clear a9 ad C l y B f L M E s ab;obtain⟨i,vs,d,hi,rfl,H,I,J,F,ae,D⟩:=hrel;obtain⟨l,y,B,f,C,E⟩:=Ie H I J F ae D;clear H I J F ae D;by_cases bb:i<N
     .
      obtain⟨v,S⟩:∃v,vs[i]?=some v:=⟨_,gE (by rw[y.o];exact bb)⟩;obtain⟨ts,P,hp,x0,va,vc,rfl⟩:=l.o.get S;obtain⟨pb,pk,_,x1,hq,bc,_⟩:=f.o.get bb;have af:=(B.o i ts P).1;rw[if_neg (Nat.lt_irrefl _)] at af;obtain⟨v',w4,bd,x2,x3,⟨na,nc,bo⟩,ag,be,bf,bg⟩:=l.o.app S P hq (bc.mono hK) (by omega) (by omega) (by have:=l.o.low;have:=l.o.blk.lt;omega) 103;subst bo;obtain⟨ah,ai⟩:=bg ge C.o f.o.blk.blk.lt ba.o;have aj:=Hi ag;have bh:=Hi (be.setCell (p:=⟨g,i,none⟩) l.o.low (.slice na (ts.length+1) nc));have ak:O (PV _ ge ge N 738197945 _ es):=Hi ⟨⟨f.o.blk.blk.same ah,fun t ht=>⟨bf _ _ (f.o.blk.vs t ht).1,(f.o.blk.vs t ht).2⟩⟩,f.o.low,f.o.len,f.o.q⟩;have Q:=Hi ai
      have bi:=Hi (B.o.step (pb:=pb) P (show dot (a.length+hs.length) (balM vb a.length vh i) (unitV k)=balM vb a.length vh i k from Qe7 (by have:=T.o;omega) _));have bv:=Hi P;have q2:(i:Int)<(N:Int):=by omega
      obtain⟨tl,bj⟩:=nm ts.length;rw[bj] at x0 x2 bd aj ak Q bh;clear S hp hq bc af ag be bf bg ah ai P bj;go_wp2;go_roundw
      case rel=>
       refine⟨i+1,_,_,by omega,by go_num,aj.o,by rw[List.length_set];exact y.o,bi.o,ak.o,Q.o,E.o.trans bh.o⟩
      case measure=>simp[intOf];omega
     .
      obtain rfl:N=i:=by omega
      go_wp2;go_roundw
      case rel=>exact⟨k+1,vs,d,by omega,by go_num,l.o,y.o,B.o.next (by rw[l.o.len,y.o];exact Nat.le_refl _),E.o⟩
      case measure=>simp[intOf];omega
  .
   obtain rfl:n=k:=by omega
   go_wp2;go_ret;have bp:w.heap.size<=g:=by have:=x.o;have:=G.o.size;omega
   exact⟨N,g,vs,d,av.o.symm,rfl,l.o.mono bp,y.o,by rw[T.o];exact B.o,L.o⟩
theorem GR.pq{w:Vz}{B g W K N:Nat}{vs:Vv}{d:List (List RT)}{M:Nat->Vec}(h:GR w B g vs d)(n:Bals M K 0 W d)(o:0<W)(p:vs.length=N)(hB:B<=w.heap.size)(s:∀r c,W<=c->M r c=0):∃rs:List PR,rs.length=N/\PQ w w B g W K [] rs [] (.slice none 0 0)/\rs.map PR.q=(List.range N).map M:=by
 have e:∀(r:Nat) (f:List RT),d[r]?=some f->f.length=W/\∀(c:Nat) (t:RT),f[c]?=some t->t.2.1=M r c/\t.2.2=K:=fun r f a=>by
  have:=n r f a;rw[if_neg (Nat.not_lt_zero _)] at this;exact this
 obtain⟨rs,hl,m,u⟩:=h.pmat (fun f k=>by
  obtain⟨r,a⟩:=List.getElem?_of_mem k;rw[(e r f a).1]
  exact o)
 have b:∀(i:Nat) (r:PR),rs[i]?=some r->d[i]?=some r.ts:=fun i r a=>by
  rw[<-m,List.getElem?_map,a];rfl
 refine⟨rs,hl.trans p,⟨u,fun r a=>?_,fun r a t k=>?_,Grow.nil _ _ _ _ _,Below.refl _ _,hB⟩,?_⟩
 . obtain⟨i,j⟩:=List.getElem?_of_mem a
   exact(e i _ (b i r j)).1
 .
  obtain⟨i,j⟩:=List.getElem?_of_mem a;obtain⟨c,l⟩:=List.getElem?_of_mem k;exact((e i _ (b i r j)).2 c t l).2
 .
  apply List.ext_getElem?;intro i;rw[List.getElem?_map,List.getElem?_map];rcases Nat.lt_or_ge i N with j|j
  .
   obtain⟨r,a⟩:∃r,rs[i]?=some r:=⟨_,gE (by omega)⟩;obtain⟨x,v⟩:=e i _ (b i r a);rw[a,List.getElem?_range j];refine congrArg some (funext fun c=>?_)
   show ratV r.ts c=M i c
   rcases Nat.lt_or_ge c W with l|l
   .
    obtain⟨t,k⟩:∃t,r.ts[c]?=some t:=⟨_,gE (by omega)⟩;rw[Qkd k];exact(v c t k).1
   . rw[Qke (by omega),s i c l]
  . rw[List.getElem?_eq_none (by omega),List.getElem?_eq_none (by simpa using j)]
    rfl
theorem Qny{b K:Nat}(h:22*b+200<=K):(20+1)*(2 ^ b*(2*((20+1)*2 ^ b)) ^ 20)*2 ^ b<2 ^ K:=by
 have a:2*((20+1)*2 ^ b)<=2 ^ (b+6):=by
  rw[Nat.pow_add];have:0<2 ^ b:=Nat.pow_pos (by decide);omega
 have c:(2*((20+1)*2 ^ b)) ^ 20<=2 ^ ((b+6)*20):=by
  rw[Nat.pow_mul];exact Nat.pow_le_pow_left a 20
 have d:(20+1)*(2 ^ b*(2*((20+1)*2 ^ b)) ^ 20)*2 ^ b<=2 ^ 5*(2 ^ b*2 ^ ((b+6)*20))*2 ^ b:=
  Nat.mul_le_mul_right _ (Nat.mul_le_mul (by decide) (Nat.mul_le_mul_left _ c))
 refine Nat.lt_of_le_of_lt d ?_;rw[<-Nat.pow_add,<-Nat.pow_add,<-Nat.pow_add];exact Nat.pow_lt_pow_right (by decide) (by omega)
def IsTx(u:Value):Prop:=∃s,u=Value.string s
abbrev TG(w:Vz)(B:Nat)(v:Value)(ss:Vt):Prop:=Grow w B 54 1 IsTx v ss.length (textsV ss)
theorem TG.app{w:Vz}{B nb c:Nat}{v:Value}{a:Vt}{s:Vs}(h:TG w B v a)(k:w.cell? ⟨nb,0,none⟩=some (.string s))(y:a.length<=1000)(hB:B<=w.heap.size)(ty:Vr):
 ∃d w',appR prog 48 ty v (.slice (some ⟨nb,0,none⟩) 1 c) w=.ok d w'/\TG w' B d (a++ [s])/\Below B w w':=by
 obtain⟨i,l,m⟩:=Option.map_eq_some_iff.1 Qls;injection m with n e
 injection e with e o
 obtain⟨d,w',p,q,r,_⟩:=Grow.app h (P:=prog) (t:=48) (ty:=ty) underlying48 l n e o rfl (by decide) (fun u b=>⟨_,by simpa [Value.cells] using b⟩) ⟨nb,0,none⟩ 1 c [.string s] rfl (fun j u f=>by
  match j,f with
  |0,f=>
   obtain rfl:=Option.some.inj f
   exact k) (fun u b=>by obtain rfl:=List.mem_singleton.1 b;rfl) (fun u b=>by obtain rfl:=List.mem_singleton.1 b;exact⟨_,rfl⟩) (by omega) (by decide) hB
 refine⟨d,w',p,?_,Qb4 r (fun g x=>(h.lt x).1) hB⟩
 show Grow _ _ _ _ _ _ (a++ [s]).length (textsV (a++ [s]))
 rw[List.length_append,List.length_singleton,textsV,List.map_append];exact q
theorem TG.tlst{w:Vz}{B:Nat}{v:Value}{b:Vt}(h:TG w B v b):∃a cap,v=.slice a b.length cap/\TLst w a b:=by
 obtain⟨a,cap,e,_,c,_⟩:=Grow.slice h;exact⟨a,cap,e,fun i s d=>c.cell i (.string s) (by simp[textsV,d])⟩
theorem Ql7(a:Vx)(cap n K:Nat)(A:List RT)(w:Vz)(W:∃m,w.cell? ⟨4,0,none⟩=some (.int .i64 m))(h:PRow w a A)(hk:∀t,t∈ A->t.2.2<=K)(hK:K<274877906000)(X:A.length=n)(hl:n<=1000):
 Calls prog 54 #[.slice a n cap] w fun e w'=>∃(v:Value) (r:Vt),e=.returned v/\TG w' w.heap.size v r/\r.length=n/\(∀(i:Nat) (t:RT) (s:Vs),A[i]?=some t->r[i]?=some s->QText s.data.toList t.2.1)/\Below w.heap.size w w':=by
 obtain⟨Z,O,HK,HN⟩:=Ic h (RBag.start W) hk X;clear h W hk X;go_enter func54,ntmps54;go_wp2_with fail;go_loopw [3,8] (fun ov P wr=>∃(k:Nat) (r:Vt),k<=n/\P=.int .i64 k/\TG wr w.heap.size ov r/\r.length=k/\(∀(i:Nat) (t:RT) (s:Vs),A[i]?=some t->r[i]?=some s->QText s.data.toList t.2.1)/\Below w.heap.size w wr) (fun _ P _=>n - (intOf P).toNat)
 case atStart=>exact⟨0,[],Nat.zero_le _,rfl,Grow.nil _ _ _ _ _,rfl,fun i t s _ hs=>by simp at hs,Below.refl _ _⟩
 case round=>
  obtain⟨k,r,hk,rfl,y,C,g,D⟩:=hrel;obtain⟨E,d,F,f⟩:=Ic y C g D;obtain⟨oa,oc,Q,_⟩:=TG.tlst y;subst Q;clear y C g D;by_cases aa:k<n
  .
   obtain⟨t,G⟩:∃t,A[k]?=some t:=⟨_,gE (by have:=HN.o;omega)⟩;obtain⟨b,ab,rfl,hb,x0⟩:=(Z.o.below f.o).at G;have R:=HK.o t (mO G);have HT:=Hi (RBag.text (bx:=t.1) (p:=t.2.1) (j:=t.2.2) ((Z.o.below f.o).bag ((O.o.below f.o).glob)) (mO G) (by omega));have q1:((k:Int)<(n:Int)):=by omega
   have S:=Hi G;clear G R;go_wp2_with fail;go_fit HT.o;rintro e B ⟨⟨s,rfl,hs⟩,l⟩;have z:=Hi (f.o.trans (l.base.mono f.o.size));have x:=Grow.below E.o l.base;have HS:=Hi hs;obtain⟨Y,N⟩:=nm (B.alloc (.cells #[.string s] 54));have u:Bl B Y:=by rw[<-N];exact(Below.refl _ _).alloc lZ _
   have H:Y.cell? ⟨B.heap.size,0,none⟩=some (.string s):=by rw[<-N];exact Qa0 B _ _
   obtain⟨v',w',I,J,L⟩:=TG.app (Grow.below x u) (s:=s) (nb:=B.heap.size) (c:=1) H (by have:=d.o;omega) (Nat.le_trans z.o.size u.size) 48;rw[<-N] at I;obtain⟨T,U⟩:=Ia J ((z.o.trans (u.mono z.o.size)).trans L);clear hs l x N u H J L HT x0;go_wp2;go_roundw
   case rel=>
    refine⟨k+1,r++ [s],by omega,by go_num,T.o,by simp[d.o],fun i t' s' M q=>?_,U.o⟩;rcases Nat.lt_or_ge i k with hi|hi
    . rw[List.getElem?_append_left (by have:=d.o;omega)] at q
      exact F.o i t' s' M q
    .
     have V:=(gZ q).1;rw[List.length_append,d.o,List.length_singleton] at V;obtain rfl:i=k:=by omega
     rw[List.getElem?_append_right (by have:=d.o;omega),d.o,Nat.sub_self] at q;obtain rfl:=Option.some.inj q;obtain rfl:=Option.some.inj (S.o.symm.trans M);exact HS.o
   case measure=>simp[intOf];omega
  .
   obtain rfl:n=k:=by omega
   go_wp2;go_ret;exact⟨_,r,rfl,E.o,d.o,F.o,f.o⟩
def StressSays(nb:Nat)(ts:List RT)(w:Vz)(e:Ending)(w':Vz):Prop:=∃(v1 v2:Value) (x y:Vt),e=.returned (.agg #[v1,v2])/\TG w' w.heap.size v1 x/\TG w' w.heap.size v2 y/\x.length=nb/\y.length=ts.length - nb/\(∀(i:Nat) (t:RT) (s:Vs),(ts.take nb)[i]?=some t->x[i]?=some s->QText s.data.toList t.2.1)/\(∀(i:Nat) (t:RT) (s:Vs),(ts.drop nb)[i]?=some t->y[i]?=some s->QText s.data.toList t.2.1)/\Below w.heap.size w w'
theorem PRow.take{w:Vz}{a:Vx}{c:List RT}(h:PRow w a c)(n:Nat):PRow w a (c.take n):=
 ⟨⟨fun j u b=>by
   rw[List.map_take] at b;have hl:=(gZ b).1;rw[List.length_take] at hl;rw[List.getElem?_take_of_lt (by omega)] at b
   exact h.row.cell j u b⟩,fun t d=>h.vs t (List.mem_of_mem_take d)⟩
theorem PRow.drop{w:Vz}{g a:Nat}{c:List RT}(h:PRow w (some ⟨g,a,none⟩) c)(n:Nat):PRow w (some ⟨g,a+n,none⟩) (c.drop n):=
 ⟨⟨fun j u d=>by
   rw[List.map_drop,List.getElem?_drop] at d;obtain⟨b,o,e,f,i⟩:=h.row.cell (n+j) u d;injection e with e
   injection e with k l p
   subst k l
   exact⟨g,a+n,rfl,f,by rw[Nat.add_assoc];exact i⟩⟩,fun t m=>h.vs t (List.mem_of_mem_drop m)⟩
theorem TG.other{w:Vz}{B b i:Nat}{t:Vr}{C:Vw}{v x:Value}{a:Vt}(h:TG w B v a)(hs:SB w b t C)(d:54≠t):TG (w.setCell ⟨b,i,none⟩ x) B v a:=
 Grow.keep h fun g e=>by
  obtain⟨D,c,_⟩:=Grow.sb h e;exact((Only.refl b w).setCell i x).block g c.lt (c.unlike hs d)
theorem Qxr(M N:Value)(P:Vx)(c2 nb g cap n K:Nat)(s:List RT)(w:Vz)(Q:∃m,w.cell? ⟨4,0,none⟩=some (.int .i64 m))(h:PRow w (some ⟨g,0,none⟩) s)(hk:∀t,t∈ s->t.2.2<=K)(hK:K<274877906000)(hl:n<=1000)(C:s.length=n)(hn:nb<=n)(R:n<=cap)(o1:M.oneCell'=true)(o3:N.oneCell'=true):
 Calls prog 17 #[.agg #[M,.slice P nb c2,N],.slice (some ⟨g,0,none⟩) n cap] w (StressSays nb s w):=by
 have l1:(s.take nb).length=nb:=by rw[List.length_take];omega
 have l2:(s.drop nb).length=n - nb:=by rw[List.length_drop];omega
 obtain⟨A,hA,D⟩:∃A:Addr,(if cap=nb then some (⟨g,0,none⟩:Addr) else some ⟨g,nb,none⟩)=some A/\PRow w (some A) (s.drop nb):=by
  by_cases e:cap=nb
  .
   refine⟨⟨g,0,none⟩,by simp[e],?_⟩;have:s.drop nb= []:=List.drop_of_length_le (by omega);rw[this];exact⟨⟨fun j u hj=>by simp at hj⟩,fun t E=>by cases E⟩
  . exact⟨⟨g,nb,none⟩,by simp[e],by simpa using h.drop nb⟩
 obtain⟨S,T,U⟩:=Ib (fun u (F:Bl w u)=>Ql7 (some ⟨g,0,none⟩) cap nb K (s.take nb) u (((RBag.start Q).below F).glob) ((h.take nb).below F) (fun t E=>hk t (List.mem_of_mem_take E)) hK l1 (by omega)) (fun u (F:Bl w u)=>Ql7 (some A) (cap - nb) (n - nb) K (s.drop nb) u (((RBag.start Q).below F).glob) (D.below F) (fun t E=>hk t (List.mem_of_mem_drop E)) hK l2 (by omega)) C;clear h Q hk D l1 l2 C;go_enter func17,ntmps17;obtain⟨V,G⟩:=nm ((w.alloc (.cells #[M,.slice P nb c2,N] 26)).alloc (.cells #[.slice none 0 0,.slice none 0 0] 50));have z:=Ub G;have k:=Ud G
 have a:=Ue G;have HV:=Hi G;clear G;have W:nb<=cap:=by omega
 have X:=R;obtain⟨-,x1,-⟩:=zc k.o;have b:O (Bl V V):=Hi bR;go_wp2_with fail;rw[HV.o];go_region_held3 (fun v=>v.cell? ⟨w.heap.size,1,none⟩=some (.slice P nb c2)) ((first|(simp [*];done)|go_keep)) (first
  |(
   go_at_call_of 54 (Value.slice (some ⟨g,0,none⟩) nb cap);apply cM;apply S.o;(focus(repeat(first|exact z.o|apply Qaq|apply Qar)));rintro e1 Y ⟨v1,x,rfl,c,l,q,d⟩;obtain⟨B,i⟩:=Ia (z.o.trans (Below.mono (by first|exact d|exact(Below.refl _ _).drew.trans d) z.o.size)) (b.o.trans (Below.mono (by first|exact d|exact(Below.refl _ _).drew.trans d) b.o.size));clear b;have b:=i;have H:=Hi (Grow.mono c z.o.size);have ag:O (Below _ _ Y):=Hi (by first|exact d|exact(Below.refl _ _).drew.trans d);obtain⟨Z,aa⟩:=Ia l q;obtain⟨p1,W,ab,_⟩:=TG.tlst c;subst ab;clear c l q d x1;obtain⟨-,x1,-⟩:=zc (k.o.below i.o k.o.lt);obtain⟨r0,-⟩:=zc (a.o.below i.o a.o.lt)
   obtain⟨-,r1,-⟩:=zc (a.o.below i.o a.o.lt);have f0:=(a.o.below i.o a.o.lt).free 0;have f1:=(a.o.below i.o a.o.lt).free 1
   skip)
  |(
   go_at_call_of 54 (Value.slice (some A) (n - nb) (cap - nb));apply cM;apply T.o;(focus(repeat(first|exact B.o|apply Qaq|apply Qar)));rintro e2 w2 ⟨v2,y,rfl,c,l,q,d⟩;obtain⟨ad,f⟩:=Ia (B.o.trans (Below.mono (by first|exact d|exact(Below.refl _ _).drew.trans d) B.o.size)) (b.o.trans (Below.mono (by first|exact d|exact(Below.refl _ _).drew.trans d) b.o.size));clear b;have b:=f;have I:=Hi (Grow.mono c B.o.size);have J:O (Below _ _ w2):=Hi (by first|exact d|exact(Below.refl _ _).drew.trans d);obtain⟨ae,af⟩:=Ia l q;obtain⟨p2,X,hv2,_⟩:=TG.tlst c;subst hv2;clear c l q d x1;obtain⟨-,x1,-⟩:=zc (k.o.below f.o k.o.lt);obtain⟨r0,-⟩:=zc (a.o.below f.o a.o.lt)
   obtain⟨-,r1,-⟩:=zc (a.o.below f.o a.o.lt);have f0:=(a.o.below f.o a.o.lt).free 0;have f1:=(a.o.below f.o a.o.lt).free 1
   skip)
  |fail)
 all_goals
  go_wp2;have r:=a.o.below f.o a.o.lt;refine bodyPost_ret (v:=.agg #[.slice p1 x.length W,.slice p2 y.length X]) (results_cell_row rfl _ _ (w.heap.size+1) 50 #[.slice p1 x.length W,.slice p2 y.length X] (0,0) _ rfl ((r.set 0 _).set 1 _) underlying50 rfl Tryz.stressInfo) rfl ?_;have L:w.heap.size<=w.heap.size+1:=Nat.le_succ _;refine⟨_,_,x,y,rfl,?_,?_,Z.o,by rw[ae.o,U.o],aa.o,af.o,(ad.o.setCell (p:=⟨w.heap.size+1,0,none⟩) L _).setCell (p:=⟨w.heap.size+1,1,none⟩) L _⟩
  . have h1:=Grow.below H.o (show Below Y.heap.size Y w2 from J.o)
    exact TG.other (TG.other h1 r (by decide)) (r.set 0 _) (by decide)
  . exact TG.other (TG.other I.o r (by decide)) (r.set 0 _) (by decide)
end Go.Proofs.YtppkmifkpjkgpaaGreatDoor
