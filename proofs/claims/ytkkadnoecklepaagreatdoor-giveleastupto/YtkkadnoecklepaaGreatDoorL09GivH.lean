import Derived.Test.YtkkadnoecklepaaGreatDoorL08RowsT
import Derived.BigRegion
namespace Go.Proofs.YtkkadnoecklepaaGreatDoor
open Go.RowKit
open Go.Proofs.Tryz
set_option linter.unusedSimpArgs false
set_option linter.unusedVariables false
set_option maxHeartbeats 8000000
set_option maxRecDepth 1000000
def S2.none:S2:=⟨⟨#[]⟩,⟨#[]⟩⟩
theorem Qsc(n:Nat):madeCells (Value.cells (.agg #[.string ⟨#[]⟩,.string ⟨#[]⟩])) (n*2)=((List.replicate n S2.none).flatMap S2.cells).toArray:=by
 apply Array.ext';apply List.ext_getElem?;intro i;by_cases d:i<n*2
 .
  have b:(List.replicate n S2.none)[i / 2]?=some S2.none:=by rw[List.getElem?_replicate,if_pos (by omega)]
  have a:i % 2=0∨i % 2=1:=by omega
  have e:Value.cells (.agg #[.string ⟨#[]⟩,.string ⟨#[]⟩])=#[.string ⟨#[]⟩,.string ⟨#[]⟩]:=by rfl
  have f:i / 2*2+i % 2=i:=by omega
  have g:(madeCells (Value.cells (.agg #[.string ⟨#[]⟩,.string ⟨#[]⟩])) (n*2)).toList[i]?=some ((#[Value.string ⟨#[]⟩,.string ⟨#[]⟩]:Array Value)[i % 2]!):=by
   rw[e];simp[madeCells,d]
  rw[g];have c:∀u,(S2.cells S2.none)[i % 2]?=some u->((List.replicate n S2.none).flatMap S2.cells)[i]?=some u:=fun u h=>by
   have:=Qa8 (sz:=2) (fun _=>rfl) _ _ _ _ _ b h;rw[f] at this;exact this
  simp only[List.toList_toArray];rcases a with a|a
  all_goals
   rw[a] at c ⊢;exact(c _ rfl).symm
 .
  have b:((List.replicate n S2.none).flatMap S2.cells).length=n*2:=by rw[Qay (sz:=2) (fun _=>rfl)];simp
  have j:=size_madeCells (Value.cells (.agg #[.string ⟨#[]⟩,.string ⟨#[]⟩])) (n*2);rw[List.getElem?_eq_none (by rw[Array.length_toList,j];omega),List.getElem?_eq_none (by simp only[List.toList_toArray];rw[b];omega)]
theorem Qsd:(prog.info? 34).map (fun i=>(i.zero,i.size,i.bytes))=some (some (.agg #[.string ⟨#[]⟩,.string ⟨#[]⟩]),2,32):=by kernel_rfl
theorem Qse(n:Nat)(e:n<=1048576)(w:Vz):(Instr.makeSlice 22 (.int .i64 n) (.int .i64 n)).run prog w=.ok (.slice (some ⟨w.heap.size,0,.none⟩) n n) (w.alloc (.cells ((List.replicate n S2.none).flatMap S2.cells).toArray 34)):=by
 obtain⟨i,a,h⟩:=Option.map_eq_some_iff.1 Qsd;simp only[Prod.mk.injEq] at h;obtain⟨b,c,d⟩:=h;have:=run_make w 22 34 i _ underlying22 a b .i64 .i64 n n (by omega) (by omega) (by rw[d];omega) (by omega);rw[Int.toNat_natCast,c,Qsc] at this;exact this
theorem Qkg:∀(a:List S2) (k:Nat) (e:S2),k<a.length->(a.set k e).flatMap S2.cells=((a.flatMap S2.cells).set (k*2) (.string e.x)).set (k*2+1) (.string e.y)
 | [],k,e,h=>by simp at h
 |t :: l,0,e,_=>by simp[S2.cells]
 |t :: l,k+1,e,h=>by
  have b:=Qkg l k e (by simpa using h);rw[List.set_cons_succ,List.flatMap_cons,b,List.flatMap_cons];simp only[S2.cells,List.cons_append,List.nil_append];rw[show (k+1)*2=k*2+1+1 by omega];simp only[List.set_cons_succ,Nat.add_assoc]
def SpotsTold(x:Vec)(ss:List S2):Prop:=∀(i:Nat) (s:S2),ss[i]?=some s->QText s.x.data.toList (x (2*i))/\QText s.y.data.toList (x (2*i+1))
theorem Qsf(a:Vx)(H n K:Nat)(r:MR)(w:Vz)(z:Glob w)(h:MOk w (2*n) K r)(ae:r.a=a)(af:r.cap=H)(hK:K<=274877906944)(hn:n<=10):
 Calls prog 59 #[.slice a (2*n) H] w fun e w'=>(∃(g:Nat) (f:List S2),e=.returned (.slice (some ⟨g,0,none⟩) n n)/\f.length=n/\SB w' g 34 (f.flatMap S2.cells).toArray/\SpotsTold r.q f)/\Below w.heap.size w w':=by
 subst ae;subst af;obtain⟨I,ag⟩:=Ia h z;have J:=fun w=>Qse n (by omega) w
 obtain⟨MC,D⟩:=nm (((List.replicate n S2.none).flatMap S2.cells).toArray);rw[D] at J;have ah:=Hi D;have a0:((2*n:Nat):Int).tdiv 2=(n:Int):=by rw[Int.tdiv_eq_ediv_of_nonneg (by omega)];omega
 have a1:IntKind.i64.wrap (n:Int)=(n:Int):=Qar _ (by omega) (by omega);clear h z D;go_enter func59,ntmps59;go_wp2_with fail;clear J;obtain⟨g,z⟩:=nm w.heap.size;obtain⟨V,hV⟩:=nm (w.alloc (.cells MC 34));have ai:O (Below g w V):=Hi (by rw[<-hV,<-z];exact(Below.refl _ _).alloc lZ _);have aj:O (SB V g 34 ((List.replicate n S2.none).flatMap S2.cells).toArray):=Hi (by rw[<-hV,<-z,ah.o];exact SB.new w _ _)
 try rw[hV]
 try rw[z]
 clear hV;go_loopw [11] (fun i wr=>∃(k:Nat) (f:List S2),k<=n/\i=.int .i64 k/\f.length=n/\SB wr g 34 (f.flatMap S2.cells).toArray/\(∀(i:Nat) (s:S2),i<k->f[i]?=some s->QText s.x.data.toList (r.q (2*i))/\QText s.y.data.toList (r.q (2*i+1)))/\Below g w wr) (fun i _=>n - (intOf i).toNat)
 case atStart=>exact⟨0,_,by omega,rfl,by simp,aj.o,fun i s hi=>by omega,ai.o⟩
 case round=>
  obtain⟨k,f,hk,rfl,L,E,A,hb⟩:=hrel;obtain⟨HB,l,HA⟩:=Ib hb E A;have M:=E.lt;have b:=Hi L;clear hb E A L;by_cases a2:k<n
  .
   have m:Below w.heap.size w wr:=by rw[z];exact HB.o
   have N:=I.o.len;obtain⟨t,P⟩:∃t,r.ts[2*k]?=some t:=⟨r.ts[2*k]'(by omega),gE _⟩;obtain⟨u,hu⟩:∃u,r.ts[2*k+1]?=some u:=⟨r.ts[2*k+1]'(by omega),gE _⟩;have c:=I.o.row.below m;obtain⟨fb,ak,F,a3,d0,d1,d2⟩:=c.at P;obtain⟨Q,R,al,am,S,an,ao,ap,T⟩:=Ih (c.get P) hu (I.o.sz t (mO P)) (I.o.sz u (mO hu)) (ag.o.below m) (MR.q_at P) (MR.q_at hu) m (fun v=>Qcu k v (by omega));have U:=Hi (fun v=>Qcv k v (by omega));have q1:((k:Int)<(n:Int)):=by omega
   have q2:((2*k:Nat):Int)<((2*n:Nat):Int):=by omega
   have q3:((2*k+1:Nat):Int)<((2*n:Nat):Int):=by omega
   have ek:(2*(k:Int))=((2*k:Nat):Int):=by omega
   have W:(2*(k:Int)+1)=((2*k+1:Nat):Int):=by omega
   simp only[ek] at T;simp only[W] at U;obtain⟨s0,X⟩:∃s0,f[k]?=some s0:=⟨f[k]'(by have:=b.o;omega),gE _⟩;obtain⟨aq,ar⟩:=Ia X F;rw[F];clear P m X N c hu ek W F;go_wp2_with fail;go_fit (T.o wr);rintro e w1 ⟨rfl,rfl⟩;go_wp2_with fail;go_fit (Qd5 (S.o.tab (by unfold hasTen;kernel_rfl)) Q.o.1 (Q.o.2.1.mono al.o) hK);rintro e w2 ⟨⟨s,rfl,Y⟩,Z⟩;obtain⟨au,j⟩:=Ia Y Z;clear Y Z d0 d1 d2;go_wp2_with fail;go_fit (U.o w2);rintro e w3 ⟨rfl,rfl⟩;have c:=(I.o.row.below ap.o).below j.o;obtain⟨av,aa,B,az,d0,d1,d2⟩:=c.at R.o;have ab:=Hi (c.get R.o);obtain⟨e1,e2⟩:fb=av/\ak=aa:=by
    have:=ar.o.symm.trans B
    simpa using this
   subst e1;subst e2;clear c B;go_wp2_with fail;go_fit (Qd5 ((S.o.below j.o).tab (by unfold hasTen;kernel_rfl)) ab.o.1 (ab.o.2.1.mono am.o) hK);rintro e w4 ⟨⟨s',rfl,C⟩,G⟩;have ad:=Hi C;obtain⟨aw,d⟩:=Ia G ((l.o.below j.o l.o.lt).below G (l.o.below j.o l.o.lt).lt);have f0:=d.o.free (k*2);have f1:=d.o.free (k*2+1);have hA:ARow S2.cells w4 (some ⟨g,0,none⟩) n f:=d.o.arow rfl (by have:=b.o;omega);obtain⟨bb,oo,ax,_,t0,t1⟩:=hA.spot aq.o;cases ax;simp only[Nat.zero_add] at t0 t1;clear C G d0 d1 d2 hA;go_wp2;go_roundw
   case rel=>
    refine⟨k+1,f.set k ⟨s,s'⟩,by omega,by go_num,by rw[List.length_set];exact b.o,?_,fun i y hi hy=>?_,(((HB.o.trans (j.o.mono (Nat.le_of_lt M))).trans (aw.o.mono (Nat.le_trans (Nat.le_of_lt M) j.o.size))).setCell (p:=⟨g,k*2,none⟩) lZ _).setCell (p:=⟨g,k*2+1,none⟩) lZ _⟩
    .
     have:=(d.o.set (k*2) (.string s)).set (k*2+1) (.string s');rw[Qkg _ _ _ (by have:=b.o;omega)]
     simpa using this
    .
     rcases Nat.lt_or_ge i k with h1|h1
     . rw[List.getElem?_set_ne (by omega)] at hy
       exact HA.o i y h1 hy
     .
      obtain rfl:i=k:=by omega
      rw[List.getElem?_set_self (by have:=b.o;omega)] at hy;obtain rfl:=Option.some.inj hy;exact⟨an.o ▸ au.o,ao.o ▸ ad.o⟩
   case measure=>simp[intOf];omega
  .
   have ay:k=n:=by omega
   subst ay;go_wp2;go_ret;rw[z];exact⟨⟨g,f,rfl,b.o,l.o,fun i s hs=>HA.o i s (by have:=(gZ hs).1;have:=b.o;omega) hs⟩,HB.o⟩
theorem Qhz(p:Rat):p*(p.den:Rat)=(p.num:Rat):=by
 have a:(p.den:Rat)≠0:=by
  intro h;exact p.den_nz (Rat.natCast_inj.1 (by rw[h];rfl))
 have:p=(p.num:Rat) / (p.den:Rat):=by rw[<-Rat.mkRat_eq_div,Rat.mkRat_self]
 rw[Rat.div_def] at this;have e:p*(p.den:Rat)=(p.num:Rat)*(p.den:Rat)⁻¹*(p.den:Rat):=by rw[<-this]
 rw[e,Rat.mul_assoc,Rat.inv_mul_cancel _ a,Rat.mul_one]
def denP:List Rat->Nat
 | []=>1
 |q :: l=>q.den*denP l
theorem Qcd:∀l:List Rat,0<denP l
 | []=>by decide
 |q :: l=>Nat.mul_pos q.den_pos (Qcd l)
theorem Qbu:∀(l:List (Rat × Nat)),(∀p,p∈ l->Fits p.1 p.2)->denP (l.map (·.1))<=2 ^ (l.map (·.2)).sum
 | [],_=>by decide
 |p :: l,h=>by
  rw[List.map_cons,List.map_cons,denP,List.sum_cons,Nat.pow_add];exact Nat.mul_le_mul (Nat.le_of_lt (h p (by simp)).2) (Qbu l fun q a=>h q (by simp[a]))
def Wh(P b:Nat)(q:Rat):Prop:=∃z:Int,q*(P:Rat)=(z:Rat)/\z.natAbs<=2 ^ b
theorem Wh.mono{P b c:Nat}{q:Rat}(h:Wh P b q)(a:b<=c):Wh P c q:=by
 obtain⟨z,e,d⟩:=h;exact⟨z,e,Nat.le_trans d (Nat.pow_le_pow_right (by decide) a)⟩
theorem Wh.zero(P b:Nat):Wh P b 0:=⟨0,by rw[Rat.zero_mul];rfl,by simp⟩
theorem Wh.neg{P b:Nat}{q:Rat}(h:Wh P b q):Wh P b (-q):=by
 obtain⟨z,e,a⟩:=h;refine⟨-z,?_,by rw[Int.natAbs_neg];exact a⟩;rw[Rat.intCast_neg,<-e];grind
theorem Wh.sub{P b:Nat}{p q:Rat}(h:Wh P b p)(k:Wh P b q):Wh P (b+1) (p - q):=by
 obtain⟨y,e,a⟩:=h;obtain⟨z,f,c⟩:=k;refine⟨y - z,?_,?_⟩
 . rw[Rat.intCast_sub,<-e,<-f]
   grind
 . rw[Nat.pow_succ]
   omega
theorem Wh.of_mem:∀{l:List Rat} {q:Rat} {k m:Nat},q∈ l->Fits q k->denP l<=2 ^ m->Wh (denP l) (k+m) q
 |p :: l,q,k,m,h,hf,hm=>by
  have b:∀(t:List Rat) (q:Rat),q∈ t->∃d:Nat,denP t=q.den*d/\d<=denP t:=fun t=>by
   induction t with
   |nil=>intro q a;cases a
   |cons p t f=>
    intro q a;rcases List.mem_cons.1 a with rfl|a
    . exact⟨denP t,rfl,Nat.le_mul_of_pos_left _ q.den_pos⟩
    .
     obtain⟨d,e,c⟩:=f q a;refine⟨p.den*d,?_,?_⟩
     . rw[denP,e,Nat.mul_left_comm]
     . rw[denP];exact Nat.mul_le_mul_left _ c
  obtain⟨d,e,c⟩:=b _ q h;refine⟨q.num*(d:Int),?_,?_⟩
  . rw[e,Rat.natCast_mul,<-Rat.mul_assoc,Qhz,Rat.intCast_mul,Rat.intCast_natCast]
  . rw[Int.natAbs_mul,Int.natAbs_natCast,Nat.pow_add]
    exact Nat.mul_le_mul (Nat.le_of_lt hf.1) (Nat.le_trans c hm)
theorem Wh.one{P b:Nat}(h:P<=2 ^ b):Wh P b 1:=⟨(P:Int),by rw[Rat.one_mul,Rat.intCast_natCast],by simpa using h⟩
theorem Qoj{a b:Nat}(c:a=2 ^ b):(20+1)*(a*(2*((20+1)*a)) ^ 20)<=2 ^ (5+(b+(6+b)*20)):=by
 have f:2 ^ 6=64:=by decide
 have e:2*((20+1)*a)<=2 ^ (6+b):=by rw[Nat.pow_add,c];omega
 have d:=Nat.pow_le_pow_left e 20;rw[<-Nat.pow_mul] at d;rw[Nat.pow_add 2 5,Nat.pow_add 2 b,<-c];exact Nat.mul_le_mul (by decide) (Nat.mul_le_mul_left _ d)
abbrev kE(b:Nat):Nat:=21*b+126
abbrev kC(b:Nat):Nat:=22*b+126
abbrev kW(b:Nat):Nat:=41*kC b+20
theorem Qfl{b W P:Nat}{M:List Vec}(m:0<P)(e:P<=2 ^ b)(f:∀r,r∈ M->∀j,Wh P b (r j))(n:∀r,r∈ M->∀i,W<=i->r i=0)(hl:M.length<=20∨W<=20):
 Going (kE b) (MJ W 20 (kC b) M)/\MJ W 20 (kC b) M 0 M [] []/\∀L S c,MJ W 20 (kC b) M W L S c->(Ech 0 W S c/\∀x,Null W M x↔Null W S x)/\clnFits (kW b) S c/\∀v,v∈ cln S c->∀i,Fits (v i) (kC b):=by
 have g:∀j:Nat,0<(fun _=>P) j/\(fun _=>P) j<=2 ^ b:=fun _=>⟨m,e⟩
 have k:=Qoj (a:=2 ^ b) (b:=b) rfl;have l:0<2 ^ b:=Nat.pow_pos (by decide);have o:(20+1)*(2 ^ b*(2*((20+1)*2 ^ b)) ^ 20)<2 ^ kE b:=Nat.lt_of_le_of_lt k (Nat.pow_lt_pow_right (by decide) (by simp only[kE];omega));have d:(20+1)*(2 ^ b*(2*((20+1)*2 ^ b)) ^ 20)*2 ^ b<2 ^ kC b:=by
  refine Nat.lt_of_le_of_lt (Nat.mul_le_mul_right _ k) ?_;rw[<-Nat.pow_add];exact Nat.pow_lt_pow_right (by decide) (by simp only[kC];omega)
 refine⟨MJ.going (D:=fun _=>P) l g f o (by simp only[kE];omega) d (by simp only[kC];omega),MJ.start W 20 _ M n hl,fun L S c h=>⟨h.1.done,?_⟩⟩;exact MJ.clean (D:=fun _=>P) l g f d (by simp only[kC];omega) (by simp only[kW,kC];omega) h
theorem Going.mono{K K':Nat}{I:Nat->List Vec->List Vec->List Nat->Prop}(h:Going K I)(a:K<=K'):Going K' I:=⟨fun b r c i=>(h.fit b r c i).mono a,h.skip,h.step⟩
theorem FrameFault.few{a:List S2}{d:List B6}{c:List H3}{x:Int}(h:FrameFault a d c 0 x):¬Many a.length d.length c.length/\(∀(i:Nat) (b:B6),d[i]?=some b->BarCode a b 0)/\(∀i y,c[i]?=some y->holdAt a.length c i y=0)/\x=0:=by
 rcases h with ⟨_,h,_⟩|⟨_,k,b,_,_,_,h,_⟩|⟨e,f,h⟩
 . cases h
 . exact absurd rfl h
 .
  rcases h with ⟨_,_,_,_,_,h,_⟩|⟨g,_,j⟩
  . exact absurd rfl h
  . exact⟨e,f,g,j⟩
theorem Qow{d:List S2}{A:List B6}{c:List H3}(n:FrSized d A c){b:B6}(h:BarCode d b 0):∃p:Nat × Nat × Rat × Rat,BarV 1048576 d b p/\p.1<d.length/\p.2.1<d.length/\¬(p.2.2.1=0/\p.2.2.2=0):=by
 rcases h with ⟨_,h⟩|⟨o,q,s,t,c,g,i,k,l,m,D,E,F,r,u,v,w,_,_,_,x⟩
 . cases h
 have f:¬(i=l/\k=m):=fun e=>by rw[if_pos e] at x;cases x
 have y:=n.j s (mO c);have z:=n.j t (mO g);have G:=o.1;have H:=q.1;have I:=o.2;have J:=q.2;refine⟨(b.a.toNat,b.b.toNat,l - i,m - k),⟨by simp only;omega,by simp only;omega,fun e=>?_,s,t,i,k,l,m,c,g,y.1,y.2,z.1,z.2,r,u,v,w,rfl,rfl⟩,by simp only;omega,by simp only;omega,fun ⟨B,C⟩=>f ⟨?_,?_⟩⟩
 .
  simp only at e;rw[e,g] at c;cases c;exact f ⟨r.inj v,u.inj w⟩
 . simp only at B
   grind
 . simp only at C
   grind
theorem Qf0{P:Nat->Prop}(n:Nat)(h:P n):∃k,P k/\∀m,m<k->¬P m:=by
 induction n using Nat.strongRecOn with
 |ind n d=>
  by_cases c:∃m,m<n/\P m
  . obtain⟨m,a,b⟩:=c
    exact d m a b
  . exact⟨n,h,fun m a b=>c ⟨m,a,b⟩⟩
theorem BarCode.ex(d:List S2)(b:B6):∃c,BarCode d b c:=by
 by_cases h:IsJ d.length b.a/\IsJ d.length b.b
 .
  obtain⟨⟨e,f⟩,g,i⟩:=h;obtain⟨j,k⟩:=QOf.ex (d[b.a.toNat]'(by omega)).x.data.toList;obtain⟨n,o⟩:=QOf.ex (d[b.a.toNat]'(by omega)).y.data.toList;obtain⟨p,q⟩:=QOf.ex (d[b.b.toNat]'(by omega)).x.data.toList;obtain⟨r,s⟩:=QOf.ex (d[b.b.toNat]'(by omega)).y.data.toList;obtain⟨t,u⟩:=QOf.ex b.c.data.toList;obtain⟨v,w⟩:=QOf.ex b.l.data.toList;obtain⟨z,A⟩:=QOf.ex b.m.data.toList;exact⟨_,.inr ⟨⟨e,f⟩,⟨g,i⟩,_,_,gE _,gE _,j,n,p,r,t,v,z,k,o,q,s,u,w,A,rfl⟩⟩
 . exact⟨4,.inl ⟨h,rfl⟩⟩
theorem FrameFault.ex(a:List S2)(l:List B6)(h:List H3):∃c x,FrameFault a l h c x:=by
 by_cases m:Many a.length l.length h.length
 . exact⟨2,0,.inl ⟨m,rfl,rfl⟩⟩
 by_cases s:∃(k:Nat) (b:B6),l[k]?=some b/\¬BarCode a b 0
 .
  obtain⟨n,d⟩:=s;obtain⟨k,⟨b,o,p⟩,q⟩:=Qf0 (P:=fun k=>∃b,l[k]?=some b/\¬BarCode a b 0) n d;obtain⟨c,t⟩:=BarCode.ex a b;refine⟨c,k,.inr (.inl ⟨m,k,b,o,fun i x r f=>bC fun g=>q i r ⟨x,f,g⟩,t,fun e=>p (e ▸ t),rfl⟩)⟩
 .
  have j:=fun i x f=>bC fun g=>s ⟨i,x,f,g⟩
  by_cases u:∃(k:Nat) (y:H3),h[k]?=some y/\holdAt a.length h k y≠0
  .
   obtain⟨n,d⟩:=u;obtain⟨k,⟨y,o,p⟩,q⟩:=Qf0 (P:=fun k=>∃y,h[k]?=some y/\holdAt a.length h k y≠0) n d;exact⟨_,_,.inr (.inr ⟨m,j,.inl ⟨k,y,o,fun i x r f=>bC fun g=>q i r ⟨x,f,g⟩,rfl,p,rfl⟩⟩)⟩
  . exact⟨0,0,.inr (.inr ⟨m,j,.inr ⟨fun i x f=>bC fun g=>u ⟨i,x,f,g⟩,rfl,rfl⟩⟩)⟩
theorem Qni{n:Nat}{a:List H3}{i:Nat}{h:H3}(k:holdAt n a i h=0):∃r:Nat,HoldV n h r:=by
 unfold holdAt holdC at k;have b:0<=h.j/\h.j<n:=by
  apply bC;intro c;rw[if_neg c] at k;cases k
 obtain⟨d,e⟩:=b;exact⟨_,h.j.toNat,by omega,by omega,rfl⟩
theorem Qnj{a:List S2}{d:List B6}{k:List H3}(v:FrSized a d k){x:Int}(h:FrameFault a d k 0 x):∃(vb:List (Nat × Nat × Rat × Rat)) (vh:Vy),FrV 1048576 a d k vb vh/\∀p,p∈ vb->p.1<a.length/\p.2.1<a.length/\¬(p.2.2.1=0/\p.2.2.2=0):=by
 obtain⟨n,j,w,_⟩:=h.few;have o:∀i:Nat,∃p:Nat × Nat × Rat × Rat,∀b,d[i]?=some b->BarV 1048576 a b p/\p.1<a.length/\p.2.1<a.length/\¬(p.2.2.1=0/\p.2.2.2=0):=fun i=>by
  rcases l:d[i]? with _|b
  . exact⟨(0,0,0,0),fun b j=>by cases j⟩
  . obtain⟨p,c⟩:=Qow v (j i b l)
    exact⟨p,fun B e=>by cases e;exact c⟩
 have q:∀i:Nat,∃r:Nat,∀y,k[i]?=some y->HoldV a.length y r:=fun i=>by
  rcases l:k[i]? with _|y
  . exact⟨0,fun b j=>by cases j⟩
  . obtain⟨r,s⟩:=Qni (w i y l)
    exact⟨r,fun C e=>by cases e;exact s⟩
 obtain⟨f,u⟩:=Classical.axiomOfChoice o;obtain⟨g,z⟩:=Classical.axiomOfChoice q;have m:∀{β:Type} (F:Nat->β) (L i:Nat) (p:β),((List.range L).map F)[i]?=some p->i<L/\p=F i:=fun F L i p c=>by
  have hl:=(gZ c).1;rw[List.length_map,List.length_range] at hl;rw[List.getElem?_map,List.getElem?_range hl] at c;exact⟨hl,(Option.some.inj c).symm⟩
 refine⟨(List.range d.length).map f,(List.range k.length).map g,⟨?_,?_,?_,by simp,by simp,fun i b p j c=>?_,fun i y r A s=>?_,Nat.le_refl _⟩,fun p c=>?_⟩
 . exact Nat.le_of_not_lt fun h=>n (.inr (.inl h))
 . exact Nat.le_of_not_lt fun h=>n (.inr (.inr (.inl h)))
 . exact Nat.le_of_not_lt fun h=>n (.inr (.inr (.inr h)))
 . obtain⟨_,rfl⟩:=m f _ _ _ c
   exact(u i b j).1
 . obtain⟨_,rfl⟩:=m g _ _ _ s
   exact z i y A
 .
  obtain⟨i,l,rfl⟩:=List.mem_map.1 c;have t:=List.mem_range.1 l;exact(u i d[i] (gE t)).2
def jW:List S2->Nat
 | []=>0
 |s :: l=>s.x.size+s.y.size+jW l
theorem Qff:∀{l:List S2} {s:S2},s∈ l->s.x.size<=jW l/\s.y.size<=jW l
 |t :: l,s,h=>by
  rcases List.mem_cons.1 h with rfl|h
  . simp only[jW];omega
  . have:=Qff h;simp only[jW];omega
theorem Qnk(s:Vs):s.data.toList.length=s.size:=by rw[Array.length_toList];rfl
theorem QOf.fits'{s:Vs}{q:Rat}{n:Nat}(h:QOf s.data.toList q)(a:s.size<=n):Fits q (4*n+1):=h.fits (by rw[Qnk];exact a)
theorem Qfg:∀js:List S2,∃l:List (Rat × Nat),(∀p,p∈ l->Fits p.1 p.2)/\(l.map (·.2)).sum=4*jW js+2*js.length/\∀s,s∈ js->∀x y,QOf s.x.data.toList x->QOf s.y.data.toList y->x∈ l.map (·.1)/\y∈ l.map (·.1)
 | []=>⟨[],(fun p a=>by cases a),rfl,(fun s hs=>by cases hs)⟩
 |s :: js=>by
  obtain⟨l,h,i,j⟩:=Qfg js;obtain⟨x,d⟩:=QOf.ex s.x.data.toList;obtain⟨y,e⟩:=QOf.ex s.y.data.toList;refine⟨(x,4*s.x.size+1) :: (y,4*s.y.size+1) :: l,fun p a=>?_,?_,fun t c u v f g=>?_⟩
  .
   rcases List.mem_cons.1 a with rfl|a
   . exact d.fits' lZ
   .
    rcases List.mem_cons.1 a with rfl|a
    . exact e.fits' lZ
    . exact h p a
  . simp only[List.map_cons,List.sum_cons,i,jW,List.length_cons]
    omega
  .
   rcases List.mem_cons.1 c with rfl|c
   . rw[f.inj d,g.inj e]
     simp
   . obtain⟨k1,k2⟩:=j t c u v f g
     exact⟨List.mem_cons_of_mem _ (List.mem_cons_of_mem _ k1),List.mem_cons_of_mem _ (List.mem_cons_of_mem _ k2)⟩
structure FrP (P b:Nat) (vb:List (Nat × Nat × Rat × Rat)):Prop where
 pos:0<P
 le:P<=2 ^ b
 wh:∀p,p∈ vb->Wh P b p.2.2.1/\Wh P b p.2.2.2
theorem FrP.at{P b nb:Nat}{vb:List (Nat × Nat × Rat × Rat)}{vh:Vy}(h:FrP P b vb)(r c:Nat):Wh P b (balM vb nb vh r c):=by
 unfold balM;cases hp:vb[c]? with
 |none=>
  simp only;cases vh[c - nb]? with
  |none=>exact Wh.zero _ _
  |some x=>
   simp only
   split
   . exact Wh.one h.le
   . exact Wh.zero _ _
 |some p=>
  obtain⟨a,d⟩:=h.wh p (mO hp);simp only[barAt]
  split
  . exact a
  .
   split
   . exact a.neg
   .
    split
    . exact d
    .
     split
     . exact d.neg
     . exact Wh.zero _ _
section
variable {n P b:Nat} {js:List S2} {bs:List B6} {hs:List H3} {vb:List (Nat × Nat × Rat × Rat)} {vh:Vy}
theorem FrP.rows(h:FrP P b vb)(c:FrV n js bs hs vb vh):
 Going (kE b) (MJ (bs.length+hs.length) 20 (kC b) (balRows js.length vb bs.length vh))/\MJ (bs.length+hs.length) 20 (kC b) (balRows js.length vb bs.length vh) 0 (balRows js.length vb bs.length vh) [] []/\
 ∀L S a,MJ (bs.length+hs.length) 20 (kC b) (balRows js.length vb bs.length vh) (bs.length+hs.length) L S a->(Ech 0 (bs.length+hs.length) S a/\∀x,Null (bs.length+hs.length) (balRows js.length vb bs.length vh) x↔Null (bs.length+hs.length) S x)/\clnFits (kW b) S a/\∀v,v∈ cln S a->∀i,Fits (v i) (kC b):=by
 refine Qfl h.pos h.le (fun r d j=>?_) (fun r d i e=>?_) (.inl ?_)
 . obtain⟨k,_,rfl⟩:=List.mem_map.1 d
   exact h.at k j
 . obtain⟨k,_,rfl⟩:=List.mem_map.1 d
   exact Qdq c.lb c.lh k i e
 .
  have:=c.j;simp only[balRows,List.length_map,List.length_range];omega
end
structure SP where
 g1:Nat
 g2:Nat
 x:List ByteArray
 y:List ByteArray
def SP.cells(n m:Nat)(p:SP):List Value:=[.slice (some ⟨p.g1,0,none⟩) n n,.slice (some ⟨p.g2,0,none⟩) m m]
structure SPat (w:Vz) (n m:Nat) (p:SP):Prop where
 b1:SB w p.g1 32 (textsV p.x).toArray
 b2:SB w p.g2 32 (textsV p.y).toArray
 l1:p.x.length=n
 l2:p.y.length=m
theorem SPat.below{w w':Vz}{n m:Nat}{p:SP}(h:SPat w n m p)(a:Bl w w'):SPat w' n m p:=⟨h.b1.below a h.b1.lt,h.b2.below a h.b2.lt,h.l1,h.l2⟩
def STold(n:Nat)(x:Vec)(p:SP):Prop:=(∀(j:Nat) (s:Vs),p.x[j]?=some s->QText s.data.toList (x j))/\∀(j:Nat) (s:Vs),p.y[j]?=some s->QText s.data.toList (x (n+j))
structure StrsAt (w:Vz) (B n m:Nat) (v:Value) (ps:List SP) (xs:List Vec):Prop where
 list:Grow w B 45 2 IsSl v ps.length (ps.flatMap (SP.cells n m))
 each:∀p,p∈ ps->SPat w n m p
 len:ps.length=xs.length
 told:∀(i:Nat) (p:SP) (x:Vec),ps[i]?=some p->xs[i]?=some x->STold n x p
theorem StrsAt.below{w w':Vz}{B n m:Nat}{v:Value}{a:List SP}{xs:List Vec}(h:StrsAt w B n m v a xs)(b:Bl w w'):StrsAt w' B n m v a xs:=⟨h.list.below b,fun p c=>(h.each p c).below b,h.len,h.told⟩
theorem Qw5:(prog.info? 45).map (fun i=>(i.zero,i.size,i.bytes))=some (some (.agg #[.slice .none 0 0,.slice .none 0 0]),2,48):=by kernel_rfl
theorem Qw6:45≠32:=by decide
theorem StrsAt.app{w:Vz}{B n m nb c:Nat}{v:Value}{f:List SP}{xs:List Vec}{p:SP}{x:Vec}(h:StrsAt w B n m v f xs)(F:SB w nb 45 (SP.cells n m p).toArray)(d:SPat w n m p)(G:STold n x p)(R:f.length<=1000)(hB:B<=w.heap.size)(ty:Vr):
 ∃l w',appR prog 78 ty v (.slice (some ⟨nb,0,none⟩) 1 c) w=.ok l w'/\StrsAt w' B n m l (f++ [p]) (xs++ [x])/\Below B w w':=by
 obtain⟨i,H,I⟩:=Option.map_eq_some_iff.1 Qw5;injection I with J z
 injection z with z K
 obtain⟨l,w',L,M,E,_⟩:=h.list.app (P:=prog) (t:=78) (ty:=ty) underlying78 H J z K rfl (by decide) (fun u b=>⟨none,0,0,by simpa [Value.cells] using b⟩) ⟨nb,0,none⟩ 1 c (SP.cells n m p) rfl (fun j u o=>by
  have:=F.cell j;rw[List.getElem?_toArray,o] at this;unfold Addr.add
  split
  .
   rename_i N;subst N;exact this
  . simpa using this) (fun u b=>by simp only[SP.cells,List.mem_cons,List.not_mem_nil,or_false] at b;rcases b with rfl|rfl<;>rfl) (fun u b=>by simp only[SP.cells,List.mem_cons,List.not_mem_nil,or_false] at b;rcases b with rfl|rfl<;>exact⟨_,_,_,rfl⟩) (by omega) (by decide) hB
 have k:∀p,SPat w n m p->SPat w' n m p:=fun p d=>by
  have q:∀(g:Nat) (C:Vw),SB w g 32 C->SB w' g 32 C:=fun g C r=>by
   have q:=E.block g r.lt (fun e=>by
    obtain⟨D,O,_⟩:=h.list.sb e.symm
    exact O.unlike r Qw6 rfl)
   unfold SB at r ⊢;rw[q];exact r
  exact⟨q _ _ d.b1,q _ _ d.b2,d.l1,d.l2⟩
 refine⟨l,w',L,⟨?_,fun t a=>?_,?_,fun j t y a s=>?_⟩,Qdm E (fun g Q=>(h.list.lt Q).1) hB⟩
 . rw[List.length_append,List.length_singleton,List.flatMap_append]
   simpa using M
 .
  rcases List.mem_append.1 a with a|a
  . exact k t (h.each t a)
  . obtain rfl:=List.mem_singleton.1 a
    exact k t d
 . rw[List.length_append,List.length_append,h.len];rfl
 .
  by_cases o:j<f.length
  .
   rw[List.getElem?_append_left o] at a;rw[List.getElem?_append_left (by rw[<-h.len];exact o)] at s;exact h.told j t y a s
  .
   have A:j=f.length:=by
    have:=(gZ a).1;simp at this;omega
   subst A;rw[List.getElem?_append_right lZ,Nat.sub_self] at a;rw[List.getElem?_append_right (by rw[h.len];exact Nat.le_refl _),<-h.len,Nat.sub_self] at s;cases a;cases s;exact G
theorem Qw7{n:Nat}{r:MR}{x y:Vt}{f g:Nat}(d:Told (r.ts.take n) x)(e:Told (r.ts.drop n) y)(h:n<=r.ts.length):STold n r.q ⟨f,g,x,y⟩:=by
 refine⟨fun j s a=>?_,fun j s a=>?_⟩
 .
  have c:=(gZ a).1;rw[d.1,List.length_take] at c;obtain⟨t,b⟩:∃t,r.ts[j]?=some t:=⟨_,gE (by omega)⟩;have:=d.2 j t s (by rw[List.getElem?_take_of_lt (by omega)];exact b) a;rw[MR.q_at b];exact this
 .
  have c:=(gZ a).1;rw[e.1,List.length_drop] at c;obtain⟨t,b⟩:∃t,r.ts[n+j]?=some t:=⟨_,gE (by omega)⟩;have:=e.2 j t s (by rw[List.getElem?_drop];exact b) a;rw[MR.q_at b];exact this
theorem Qw8(a1 a2 a3:Vx)(c1 c2 c3 P b:Nat)(J:List S2)(d:List B6)(a:List H3)(vb:List (Nat × Nat × Rat × Rat))(vh:Vy)(w:Vz)(hg:Glob w)(hf:FrRow w a1 a2 a3 c1 c2 c3 J d a)(hz:FrSized J d a)(bb:FrameFault J d a 0 0)(hv:FrV 1048576 J d a vb vh)(hp:FrP P b vb)(aq:1000000<=b)(Z:b<=16000000):
 Calls prog 38 #[.agg #[.slice a1 J.length c1,.slice a2 d.length c2,.slice a3 a.length c3]] w fun e w'=>∃(L S:List Vec) (Y:Vy) (v:Value) (ps:List SP),e=.returned (.tuple #[v,.agg #[.int .i64 0,.int .i64 0]])/\MJ (d.length+a.length) 20 (kC b) (balRows J.length vb d.length vh) (d.length+a.length) L S Y/\StrsAt w' w.heap.size d.length a.length v ps ((freeTo Y (d.length+a.length)).map (fun c=>nullF c (cln S Y) Y Y.length))/\Below w.heap.size w w':=by
 obtain⟨HG,HF,HZ,b5,HV⟩:=Id hg hf hz bb hv;obtain⟨bc,bd,be⟩:=hp.rows hv;obtain⟨ar,bf,ae⟩:=Ib (bc.mono (K':=kW b) (by simp only[kE,kW,kC];omega)) bd be;have n1:=hv.j;have n2:=hv.b;have n3:=hv.h;clear hg hf hz bb hv bc bd be;obtain⟨K,hK⟩:=nm (kW b);have bg:=hK;simp only[kW,kC] at bg;have b6:1<K:=by omega
 have b7:4*K+1<68719476000:=by omega
 have b8:4*1048576+1+(4*1048576+1)+1<=K:=by omega
 rw[hK] at ar ae;clear bg;obtain⟨I,hI⟩:=nm (MJ (d.length+a.length) 20 (kC b) (balRows J.length vb d.length vh));rw[hI] at ar bf ae ⊢;have cs:=Hi hI;clear hI hK;obtain⟨M,af⟩:=nm w.heap.size;obtain⟨V0,aa⟩:=nm ((w.alloc (.cells #[.slice a1 J.length c1,.slice a2 d.length c2,.slice a3 a.length c3] 26)).alloc (.cells #[.int .i64 0,.int .i64 0] 41));have Q:=Ub aa;have au:=Ug aa af;have av:=Uh aa af;obtain⟨bh,bi,bj⟩:=Ib aa af (Qb9 a1 a2 a3 c1 c2 c3 J d a V0 (HG.o.below Q.o) (HF.o.below Q.o) HZ.o b5.o);clear aa af
 go_enter func38,ntmps38;go_wp2_with fail;rw[bh.o,bi.o];clear bh;go_fit bj.o;rintro e w1 ⟨rfl,ab⟩;obtain⟨V,hV⟩:=nm (w1.alloc (.cells #[.int .i64 0,.int .i64 0] 41));obtain⟨B2,ag⟩:=nm w1.heap.size;have t:Bl V0 V:=by rw[<-hV];exact ab.alloc ab.size _
 obtain⟨s,aw⟩:=Ia (au.o.below t au.o.lt) (av.o.below t av.o.lt);have b9:=Uf hV ag;have l:=Hi (Q.o.trans (t.mono Q.o.size));obtain⟨k0,-⟩:=zc b9.o;obtain⟨ca,cb⟩:=Ia hV ag;rw[<-hV,<-ag] at k0;clear ab t au av bj hV ag;go_wp2_with fail;rw[ca.o,cb.o];clear k0;have n:=s;obtain⟨x0,x1,x2,-⟩:=zc n.o;have D:O (Bl V V):=Hi bR
 obtain⟨ax,ay⟩:=Ia (fun u (hu:Bl V u)=>Qe9 a1 a2 a3 c1 c2 c3 1048576 K J d a vb vh u (HG.o.below (l.o.trans (hu.mono l.o.size))) (HF.o.below (l.o.trans (hu.mono l.o.size))) HV.o b8) (fun u=>Qe1 a1 a2 a3 c1 c2 c3 J.length d.length a.length u n2 n3);obtain⟨W,hW⟩:=nm (d.length+a.length);obtain⟨N0,bk⟩:=nm (2*J.length);have eW:(d.length:Int)+(a.length:Int)=(W:Int):=by omega
 simp only[eW] at ay;rw[hW] at ax;obtain⟨z,cc⟩:=Ia hW bk;have cd:W<=100:=by omega
 have ce:N0<=20:=by omega
 clear eW hW bk;go_region_held3 (fun v=>v.cell? ⟨M,0,none⟩=some (.slice a1 J.length c1)/\v.cell? ⟨M,1,none⟩=some (.slice a2 d.length c2)/\v.cell? ⟨M,2,none⟩=some (.slice a3 a.length c3)) ((first|(simp [*];done)|go_keep)) (first
  |(
   go_at_call 98;apply cM;apply ax.o;(first|exact D.o|exact D.o.drew);rintro e v1 ⟨N,G,rs,hN,rfl,bl,bm,al,bn,hq,aq⟩;obtain rfl:N0=N:=by rw[hN];exact cc.o.symm
   obtain⟨bo,bp,cf,HQ,am⟩:=Id bl bm bn hq al;clear hN bl bm al hq bn;have U:=Hi ((by first|exact D.o|exact D.o.drew:Bl V _).trans (aq.mono (by first|exact D.o.size|exact D.o.drew.size)));clear aq D x0 x1 x2 n;have n:=Hi (s.o.below U.o s.o.lt);obtain⟨x0,x1,x2,-⟩:=zc n.o
   skip)
  |(
   go_at_call 62;apply cM;apply ay.o;rintro e v2 ⟨rfl,Z⟩;(first
     |have R:=Hi Z
     |have R:O (Bl v1 v2):=Hi (bR.drew.trans Z))
   have E:=Hi ((by first|exact U.o|exact U.o.drew:Bl V _).trans (Z.mono (by first|exact U.o.size|exact U.o.drew.size)));clear Z U x0 x1 x2 n;have n:=Hi (s.o.below E.o s.o.lt);obtain⟨x0,x1,x2,-⟩:=zc n.o
   skip)
  |(
   go_at_call 97;apply cM
   (have ah:=Qw3 (some ⟨G,0,none⟩) N0 W K rs v2 (HG.o.below (l.o.trans (E.o.mono l.o.size))) I ar.o (bp.o.row.below R.o) (am.o.fr (Fr.of_below R.o)) (by rw[bo.o];omega) (by omega) b6 b7
     (by rw[HQ.o];exact bf.o)
     (fun L S a hi=>by
       rw[<-z.o] at hi ⊢
       exact⟨(ae.o L S a hi).1.1,(ae.o L S a hi).2.1⟩)
    rw[bo.o] at ah
    exact ah)
   rintro e v5 ⟨L,S,Y,nv,ns,rfl,hi,ai⟩;obtain⟨na,nc,rfl,_,_,_⟩:=ai.list.slice;obtain⟨F,HJ⟩:=Ia ai hi;have bq:=ai.base;clear hi ai;have A:=Hi ((by first|exact E.o|exact E.o.drew:Bl V _).trans (bq.mono (by first|exact E.o.size|exact E.o.drew.size)));clear bq E x0 x1 x2 n;have n:=Hi (s.o.below A.o s.o.lt);obtain⟨x0,x1,x2,-⟩:=zc n.o
   skip)
  |fail)
 obtain⟨xs,aj⟩:=nm ((freeTo Y W).map (fun c=>nullF c (cln S Y) Y Y.length));have cg:=Hi aj;rw[aj] at F;have ah:O (ns.length<=100):=Hi (by
  have B:=congrArg List.length F.o.q;rw[<-aj,List.length_map,List.length_map] at B;have h2:=Qem Y W
  omega)
 have ct:=ah.o;have ch:=Hi (HG.o.below (l.o.trans (A.o.mono l.o.size)));clear aj bp cf HQ am R ax ay x0 x1 x2 n;go_wp2_with fail;go_loopw [20,5] (fun iv lv wr=>∃(k:Nat) (ms:List SP),k<=ns.length/\iv=.int .i64 k/\StrsAt wr v5.heap.size d.length a.length lv ms (xs.take k)/\Below v5.heap.size v5 wr) (fun iv _ _=>ns.length - (intOf iv).toNat)
 case atStart=>exact⟨0,[],Nat.zero_le _,rfl,⟨Grow.nil _ _ _ _ _,(fun m hm=>by cases hm),rfl,fun i m x hm=>by simp at hm⟩,Below.refl _ _⟩
 case round=>
  obtain⟨k,ms,hk,rfl,br,bt⟩:=hrel;obtain⟨az,C⟩:=Ia br bt;clear br bt;by_cases ci:k<ns.length
  .
   obtain⟨r,hr⟩:∃r,ns[k]?=some r:=⟨ns[k],gE ci⟩;have f:=(F.o.ok.fr (Fr.of_below C.o)) r (mO hr);obtain⟨rg,a0,a4⟩:=F.o.own r (mO hr);obtain⟨gb,go,rfl,cu,d0⟩:=(F.o.list.below C.o).crow.cell k r.val (by rw[List.getElem?_map,hr];rfl);rw[MR.val,f.len,a0,a4] at d0;have q1:((k:Int)<(ns.length:Int)):=by omega
   have ad:=f.row;rw[a0,a4] at ad;have a5:=Qmp (.slice a1 J.length c1) (.slice a3 a.length c3) a2 c2 d.length rg 0 W K r.ts wr (ch.o.below C.o) ad f.sz (by omega) (by rw[f.len];omega) (by rw[f.len,<-z.o];omega) (by omega) rfl rfl;rw[f.len] at a5;obtain⟨cj,a6⟩:=Ia a5 f.len;have ck:O (xs.take (k+1)=xs.take k++ [r.q]):=Hi (by
    have B:xs[k]?=some r.q:=by rw[<-F.o.q,List.getElem?_map,hr];rfl
    rw[List.take_add_one,B]
    rfl)
   obtain⟨x0,x1,x2,-⟩:=zc (s.o.below (A.o.trans (C.o.mono A.o.size)) s.o.lt);clear a5 f hr a0 a4 ad;go_wp2_with fail;go_fit cj.o;rintro e w6 ⟨⟨g1,g2,x,y,rfl,an,ao,a7,a8,_,_⟩,a9⟩;have bu:W - d.length=a.length:=by have:=z.o;omega
   rw[bu];obtain⟨X,hX⟩:=nm (w6.alloc (.cells #[.slice (some ⟨g1,0,none⟩) d.length d.length,.slice (some ⟨g2,0,none⟩) a.length a.length] 45));have ba:Bl w6 X:=by rw[<-hX];exact(Below.refl _ _).alloc lZ _
   have T:=a9.trans (ba.mono a9.size);have bv:SB X w6.heap.size 45 (SP.cells d.length a.length ⟨g1,g2,x,y⟩).toArray:=by rw[<-hX];exact SB.new w6 _ _
   have bw:=az.o.below T;have bx:v5.heap.size<=X.heap.size:=by have B:=C.o.size;have h2:=T.size;omega
   have ak:x.length=d.length:=by have h:=a7.1;rw[List.length_take,a6.o] at h;have:=z.o;omega
   have bz:y.length=a.length:=by have h:=a8.1;rw[List.length_drop,a6.o] at h;have:=z.o;omega
   obtain⟨v7,w7,ap,b0,b3⟩:=bw.app (p:=⟨g1,g2,x,y⟩) (x:=r.q) (c:=1) bv (SPat.below ⟨an,ao,ak,bz⟩ ba) (Qw7 a7 a8 (by rw[a6.o];have:=z.o;omega)) (by rw[az.o.len,List.length_take];omega) bx 78;have cl:O (StrsAt w7 v5.heap.size d.length a.length v7 (ms++ [⟨g1,g2,x,y⟩]) (xs.take (k+1))):=Hi (by rw[ck.o];exact b0);have cm:=Hi ((C.o.trans (T.mono C.o.size)).trans b3);have cn:appR prog 78 78 u5 (.slice (some ⟨w6.heap.size,0,none⟩) 1 1) (w6.alloc (.cells #[.slice (some ⟨g1,0,none⟩) d.length d.length,.slice (some ⟨g2,0,none⟩) a.length a.length] 45))=.ok v7 w7:=by rw[hX];exact ap
   clear an ao a7 a8 a9 hX ba T bv bw bx ap b0 b3 d0 ak bz bu x0 x1 x2;go_wp2;go_roundw
   case rel=>exact⟨k+1,_,by omega,by go_num,cl.o,cm.o⟩
   case measure=>simp[intOf];omega
  .
   obtain rfl:k=ns.length:=by omega
   have t:=A.o.trans (C.o.mono A.o.size);have H:=aw.o.below t aw.o.lt;obtain⟨z0,z1,-⟩:=zc H;have f0:=H.free 0;have f1:=H.free 1;have cp:=Hi H;have b4:w.heap.size<=M+1:=by have:=bi.o;omega
   have cq:O (Bl w ((wr.setCell ⟨M+1,0,none⟩ (.int .i64 0)).setCell ⟨M+1,1,none⟩ (.int .i64 0))):=Hi (((l.o.trans (t.mono l.o.size)).setCell (p:=⟨M+1,0,none⟩) b4 _).setCell (p:=⟨M+1,1,none⟩) b4 _);have cr:O (StrsAt ((wr.setCell ⟨M+1,0,none⟩ (.int .i64 0)).setCell ⟨M+1,1,none⟩ (.int .i64 0)) w.heap.size d.length a.length u5 ms xs):=Hi (by
    have B:=az.o;have ak:xs.length=ns.length:=by rw[<-F.o.q,List.length_map]
    rw[<-ak,List.take_length] at B;have ho:Only (M+1) wr ((wr.setCell ⟨M+1,0,none⟩ (.int .i64 0)).setCell ⟨M+1,1,none⟩ (.int .i64 0)):=((Only.refl _ _).setCell _ _).setCell _ _;refine⟨(B.list.keep fun g hg=>ho.block g (B.list.lt hg).2 (fun e=>?_)).mono (Nat.le_trans l.o.size A.o.size),fun m hm=>⟨(B.each m hm).b1.only ho ?_,(B.each m hm).b2.only ho ?_,(B.each m hm).l1,(B.each m hm).l2⟩,B.len,B.told⟩
    .
     have a1:=(B.list.lt hg).1;have a2:=aw.o.lt;have a3:=A.o.size;omega
    . exact(B.each m hm).b1.unlike H (by decide)
    . exact(B.each m hm).b2.unlike H (by decide))
   clear H t;go_wp2;refine bodyPost_ret (Qdi rfl _ _ (M+1) 41 #[.int .i64 0,.int .i64 0] (0,0) _ rfl ((cp.o.set 0 _).set 1 _) underlying41 rfl Tryz.faultInfo) rfl ?_;refine⟨L,S,Y,_,ms,rfl,?_,?_,cq.o⟩
   . rw[z.o];exact HJ.o
   . rw[z.o,cg.o];exact cr.o
def lW:List L3->Nat
 | []=>0
 |s :: l=>s.x.size+s.y.size+lW l
theorem Qfh:∀{l:List L3} {s:L3},s∈ l->s.x.size<=lW l/\s.y.size<=lW l
 |t :: l,s,h=>by
  rcases List.mem_cons.1 h with rfl|h
  . simp only[lW];omega
  . have:=Qfh h;simp only[lW];omega
theorem Qfi:∀ls:List L3,∃l:List (Rat × Nat),(∀p,p∈ l->Fits p.1 p.2)/\(l.map (·.2)).sum=4*lW ls+2*ls.length/\∀s,s∈ ls->∀x y,QOf s.x.data.toList x->QOf s.y.data.toList y->x∈ l.map (·.1)/\y∈ l.map (·.1)
 | []=>⟨[],(fun p a=>by cases a),rfl,(fun s g=>by cases g)⟩
 |s :: js=>by
  obtain⟨l,h,i,j⟩:=Qfi js;obtain⟨x,c⟩:=QOf.ex s.x.data.toList;obtain⟨y,d⟩:=QOf.ex s.y.data.toList;refine⟨(x,4*s.x.size+1) :: (y,4*s.y.size+1) :: l,fun p a=>?_,?_,fun t b u v e f=>?_⟩
  .
   rcases List.mem_cons.1 a with rfl|a
   . exact c.fits' lZ
   .
    rcases List.mem_cons.1 a with rfl|a
    . exact d.fits' lZ
    . exact h p a
  . simp only[List.map_cons,List.sum_cons,i,lW,List.length_cons]
    omega
  .
   rcases List.mem_cons.1 b with rfl|b
   . rw[e.inj c,f.inj d]
     simp
   . obtain⟨k1,k2⟩:=j t b u v e f
     exact⟨List.mem_cons_of_mem _ (List.mem_cons_of_mem _ k1),List.mem_cons_of_mem _ (List.mem_cons_of_mem _ k2)⟩
def WhN(P b a:Nat)(q:Rat):Prop:=∃z:Int,q*(P:Rat)=(z:Rat)/\z.natAbs<=a*2 ^ b
theorem WhN.sub{P b a:Nat}{p q:Rat}(h:WhN P b a p)(k:Wh P b q):WhN P b (a+1) (p - q):=by
 obtain⟨y,e,c⟩:=h;obtain⟨z,f,d⟩:=k;refine⟨y - z,?_,?_⟩
 . rw[Rat.intCast_sub,<-e,<-f]
   grind
 . rw[Nat.add_mul,Nat.one_mul]
   omega
theorem WhN.mono{P b a c:Nat}{q:Rat}(h:WhN P b a q)(d:a<=c):WhN P b c q:=by
 obtain⟨z,e,f⟩:=h;exact⟨z,e,Nat.le_trans f (Nat.mul_le_mul_right _ d)⟩
theorem Qdr{P b:Nat}:∀(k:Nat) (vs:List (Nat × Rat × Rat)),(∀p,p∈ vs->Wh P b p.2.1/\Wh P b p.2.2)->∀i,WhN P b k (agn (vs.take k) i)
 |0,vs,h,i=>⟨0,by simp[agn,Rat.zero_mul],by simp⟩
 |k+1,vs,h,i=>by
  cases hp:vs[k]? with
  |none=>
   have e:vs.take (k+1)=vs.take k:=by rw[List.take_add_one,hp];simp
   rw[e];exact(Qdr k vs h i).mono (by omega)
  |some p=>
   rw[Qdn hp];have a:=Qdr k vs h;obtain⟨f,g⟩:=h p (mO hp);by_cases c:i=2*p.1
   . rw[c,agn_x];exact(a _).sub f
   .
    by_cases d:i=2*p.1+1
    . rw[d,agn_y];exact(a _).sub g
    .
     have:agnStep (agn (vs.take k)) p i=agn (vs.take k) i:=by
      unfold agnStep;rw[Qap _ _ d,Qap _ _ c]
     rw[this];exact(a i).mono (by omega)
theorem Wh.fits{P b:Nat}{q:Rat}(h:Wh P b q)(a:0<P)(c:P<=2 ^ b):Fits q (b+1):=by
 obtain⟨z,e,f⟩:=h;have g:2 ^ b<2 ^ (b+1):=Nat.pow_lt_pow_right (by decide) (by omega);refine Qgi (Z:=z) (y:=1) (d:=P) (by decide) a ?_ (by omega) (by simp;omega) (by omega);rw[<-e]
 show q*(((1:Int):Rat)*(P:Rat))=q*(P:Rat)
 rw[show ((1:Int):Rat)=1 from rfl,Rat.one_mul]
structure FrLP (P b:Nat) (vb:List (Nat × Nat × Rat × Rat)) (vs:List (Nat × Rat × Rat)):Prop extends FrP P b vb where
 agn:∀k i,Wh P b (agn (vs.take k) i)
theorem FrV.overL{n T:Nat}{r:List S2}{A:List B6}{Q:List H3}{vb:List (Nat × Nat × Rat × Rat)}{vh:Vy}{ls:List L3}{vs:List (Nat × Rat × Rat)}(B:FrV n r A Q vb vh)(R:ls.length<=20)(S:vs.length=ls.length)(C:∀(i:Nat) (l:L3) (p:Nat × Rat × Rat),ls[i]?=some l->vs[i]?=some p->LoadV r.length l p)(hT:jW r+lW ls<=T):∃P,FrLP P (8*T+70) vb vs:=by
 obtain⟨l,U,h2,F⟩:=Qfg r;obtain⟨G,k1,k2,V⟩:=Qfi ls;obtain⟨m,u⟩:=nm (l++G);have H:=B.j;have I:denP (m.map (·.1))<=2 ^ (4*T+60):=by
  refine Nat.le_trans (Qbu m (fun p a=>?_)) (Nat.pow_le_pow_right (by decide) ?_)
  .
   rw[<-u] at a;rcases List.mem_append.1 a with a|a
   . exact U p a
   . exact k1 p a
  . rw[<-u,List.map_append,List.sum_append]
    omega
 have b:∀q,q∈ l.map (·.1)->q∈ m.map (·.1):=fun q c=>by rw[<-u,List.map_append];exact List.mem_append.2 (.inl c)
 have d:∀q,q∈ G.map (·.1)->q∈ m.map (·.1):=fun q c=>by rw[<-u,List.map_append];exact List.mem_append.2 (.inr c)
 have w:∀q:Rat,q∈ m.map (·.1)->Fits q (4*T+1)->Wh (denP (m.map (·.1))) (8*T+61) q:=fun q c W=>(Wh.of_mem c W I).mono (by omega)
 refine⟨denP (m.map (·.1)),⟨Qcd _,Nat.le_trans I (Nat.pow_le_pow_right (by decide) (by omega)),fun p a=>?_⟩,fun k i=>?_⟩
 .
  obtain⟨i,X,rfl⟩:=List.getElem_of_mem a;have D:i<A.length:=by have:=B.lb;omega
  obtain⟨s,t,x1,y1,x2,y2,Y,Z,_,_,_,_,J,K,L,M,e3,e4⟩:=(B.vb i A[i] vb[i] (gE D) (gE X)).ex;have N:=mO Y;have mt:=mO Z;have aa:=Qff N;have ab:=Qff mt;have f:=F s N x1 y1 J K;have O:=F t mt x2 y2 L M;rw[e3,e4];exact⟨((w x2 (b _ O.1) (L.fits' (by omega))).sub (w x1 (b _ f.1) (J.fits' (by omega)))).mono (by omega),((w y2 (b _ O.2) (M.fits' (by omega))).sub (w y1 (b _ f.2) (K.fits' (by omega)))).mono (by omega)⟩
 .
  have hw:∀p,p∈ vs->Wh (denP (m.map (·.1))) (8*T+61) p.2.1/\Wh (denP (m.map (·.1))) (8*T+61) p.2.2:=fun p a=>by
   obtain⟨j,H,rfl⟩:=List.getElem_of_mem a;have E:j<ls.length:=by omega
   have v:=C j ls[j] vs[j] (gE E) (gE H);have g:ls[j]∈ ls:=List.getElem_mem _;have j1:=Qfh g;have f:=V _ g _ _ v.x v.y;exact⟨w _ (d _ f.1) (v.x.fits' (by omega)),w _ (d _ f.2) (v.y.fits' (by omega))⟩
  have o:vs.take k=vs.take (min k vs.length):=by
   rcases Nat.le_total k vs.length with h|h
   . rw[Nat.min_eq_left h]
   . rw[Nat.min_eq_right h,List.take_length,List.take_of_length_le h]
  rw[o];obtain⟨z,e,hz⟩:=Qdr (min k vs.length) vs hw i;refine⟨z,e,Nat.le_trans hz ?_⟩;have h9:(2:Nat) ^ 9=512:=by decide
  have ad:=Nat.min_le_right k vs.length;have:min k vs.length*2 ^ (8*T+61)<=2 ^ 9*2 ^ (8*T+61):=Nat.mul_le_mul_right _ (by omega);rw[<-Nat.pow_add] at this;exact Nat.le_trans this (Nat.pow_le_pow_right (by decide) (by omega))
theorem Qcw{α β γ:Type}{f:α->β->γ}:∀{l:List α} {m:List β} {r:γ},r∈ List.zipWith f l m->∃a,a∈ l/\∃b,b∈ m/\r=f a b
 |a :: l,b :: m,r,h=>by
  rw[List.zipWith_cons_cons] at h;rcases List.mem_cons.1 h with rfl|h
  . exact⟨a,by simp,b,by simp,rfl⟩
  . obtain⟨c,d,g,i,e⟩:=Qcw h
    exact⟨c,by simp[d],g,by simp[i],e⟩
 | [],m,r,h=>by simp at h
 |a :: l,[],r,h=>by simp at h
theorem Qnl(h n o q:Vx)(c1 c2 c3 s P b:Nat)(a:List S2)(c:List B6)(d:List H3)(vb:List (Nat × Nat × Rat × Rat))(vh:Vy)(ls:List L3)(vs:List (Nat × Rat × Rat))(w:Vz)(G:Glob w)(H:FrRow w h n o c1 c2 c3 a c d)(I:FrSized a c d)(t:FrameFault a c d 0 0)(g:FrV 1048576 a c d vb vh)
 (hl:ARow L3.cells w q s ls) (u:ls.length<=20) (x:vs.length=ls.length) (y:∀(i:Nat) (l:L3) (p:Nat × Rat × Rat),ls[i]?=some l->vs[i]?=some p->LoadV a.length l p) (e:FrLP P b vb vs) (J:1000000<=b) (K:b<=16000000):
 Calls prog 96 #[.agg #[.slice h a.length c1,.slice n c.length c2,.slice o d.length c3],.slice q ls.length s] w (CarrySays c.length d.length (balRows a.length vb c.length vh) ((List.range (2*a.length)).map (agn vs)) w):=by
 have z:=fun i=>by
  have:=e.agn vs.length i;rw[List.take_length] at this;exact this
 obtain⟨A,B,C⟩:=Qfl (W:=c.length+d.length+1) (M:=List.zipWith (wider (c.length+d.length)) (balRows a.length vb c.length vh) ((List.range (2*a.length)).map (agn vs))) e.pos e.le (fun r D j=>by
  obtain⟨m,E,v,f,rfl⟩:=Qcw D;obtain⟨k,_,rfl⟩:=List.mem_map.1 E;obtain⟨i,_,rfl⟩:=List.mem_map.1 f;unfold wider
  split
  . exact z _
  . exact e.at _ _) (fun r D i F=>by
  obtain⟨m,E,v,f,rfl⟩:=Qcw D;obtain⟨k,_,rfl⟩:=List.mem_map.1 E;unfold wider;rw[if_neg (by omega)]
  exact Qdq g.lb g.lh _ i (by omega)) (.inl (by
  have:=g.j;simp only[List.length_zipWith,balRows,List.length_map,List.length_range]
  omega))
 refine Qm9 h n o q c1 c2 c3 s 1048576 (kW b) a c d vb vh ls vs w G H I t g hl u x y (fun k i=>((e.agn k i).fits e.pos e.le).mono (by simp only[kW,kC];omega)) (by simp only[kW,kC];omega) (by simp only[kW,kC];omega) _ (A.mono (by simp only[kE,kW,kC];omega)) B (fun L S N F=>?_);obtain⟨⟨O,Q⟩,R,_⟩:=C L S N F;exact⟨O,Q,R⟩
theorem Qne(a b d:Nat)(w:Vz)(g:Glob w)(h:FrRow w (some ⟨a,0,none⟩) (some ⟨b,0,none⟩) (some ⟨d,0,none⟩) 3 3 3 cornerJ cornerB cornerH):
 Calls prog 93 #[.agg #[.slice (some ⟨a,0,none⟩) 3 3,.slice (some ⟨b,0,none⟩) 3 3,.slice (some ⟨d,0,none⟩) 3 3]] w fun e w'=>e=.returned (.tuple #[.int .i64 0,.agg #[.int .i64 0,.int .i64 0]])/\Below w.heap.size w w':=by
 refine Calls.mono (Qvj (some ⟨a,0,none⟩) (some ⟨b,0,none⟩) (some ⟨d,0,none⟩) 3 3 3 cornerJ cornerB cornerH w g h corner_sized) ?_;rintro e w' ⟨c,at_,k,rfl,f,_,hk,i⟩;obtain⟨rfl,rfl⟩:=f.inj Qfe;obtain rfl:=hk rfl;exact⟨rfl,i⟩
theorem Qaz{b:Nat}{q:Rat}(h:q=0∨q=1∨q= -1):Wh 1 b q:=by
 rcases h with rfl|rfl|rfl
 . exact Wh.zero _ _
 . exact Wh.one Nat.one_le_two_pow
 . exact(Wh.one Nat.one_le_two_pow).neg
theorem Qhn(b:Nat):FrLP 1 b cornerVB cornerVS:=by
 refine⟨⟨by decide,Nat.one_le_two_pow,fun p a=>?_⟩,fun k i=>?_⟩
 . simp only[cornerVB,List.mem_cons,List.not_mem_nil,or_false] at a
   rcases a with rfl|rfl|rfl<;>exact⟨Qaz (by decide +kernel),Qaz (by decide +kernel)⟩
 .
  match k with
  |0=>exact Wh.zero _ _
  |k+1=>
   have e:agn (cornerVS.take (k+1))=agnStep (fun _=>0) (2,1,0):=by simp[cornerVS];rfl
   rw[e];by_cases c:i=4
   . subst c
     exact Qaz (by decide +kernel)
   .
    by_cases d:i=5
    . subst d
      exact Qaz (by decide +kernel)
    . rw[Qe4 (by simpa using c) (by simpa using d)]
      exact Wh.zero _ _
theorem Qnf(a b d:Nat)(w:Vz)(k:Glob w)(l:FrRow w (some ⟨a,0,none⟩) (some ⟨b,0,none⟩) (some ⟨d,0,none⟩) 3 3 3 cornerJ cornerB cornerH):
 Calls prog 95 #[.agg #[.slice (some ⟨a,0,none⟩) 3 3,.slice (some ⟨b,0,none⟩) 3 3,.slice (some ⟨d,0,none⟩) 3 3]] w fun e w'=>e=.returned (.tuple #[.int .i64 6,.int .i64 0,.int .i64 0,.agg #[.int .i64 0,.int .i64 0]])/\Below w.heap.size w w':=by
 obtain⟨f,g,h⟩:=(Qhn 1000000).toFrP.rows Qfd;refine Calls.mono (Qm7 (some ⟨a,0,none⟩) (some ⟨b,0,none⟩) (some ⟨d,0,none⟩) 3 3 3 1048576 (kW 1000000) cornerJ cornerB cornerH cornerVB cornerVH w k l corner_sized Qfe Qfd (by simp only[kW,kC];omega) (by simp only[kW,kC];omega) _ (f.mono (by simp only[kE,kW,kC];omega)) g) ?_;rintro e w' ⟨⟨L,S,m,rfl,_,n⟩,o⟩;obtain⟨⟨i,j⟩,_⟩:=h L S m n;have p:balRows cornerJ.length cornerVB cornerB.length cornerVH=cornerM:=Qhm;rw[p] at j;have q:S.length=6:=by
  rw[i.len];exact i.full (fun x r c s=>Qok x ((j x).2 r) c s)
 rw[q];exact⟨rfl,o⟩
theorem Qng(a b c d:Nat)(f:Vx)(w:Vz)(g:Glob w)(i:FrRow w (some ⟨a,0,none⟩) (some ⟨b,0,none⟩) (some ⟨c,0,none⟩) 3 3 3 cornerJ cornerB cornerH)(hl:ARow L3.cells w f d cornerL):
 Calls prog 96 #[.agg #[.slice (some ⟨a,0,none⟩) 3 3,.slice (some ⟨b,0,none⟩) 3 3,.slice (some ⟨c,0,none⟩) 3 3],.slice f 1 d] w fun e w'=>∃a b,e=.returned (.tuple #[.agg #[.slice (some ⟨a,0,none⟩) 3 3,.slice (some ⟨b,0,none⟩) 3 3],.agg #[.int .i64 0,.int .i64 0]])/\TLst w' (some ⟨a,0,none⟩) [⟨#[49]⟩,⟨#[45,49]⟩,⟨#[49]⟩]/\TLst w' (some ⟨b,0,none⟩) [⟨#[45,49]⟩,⟨#[45,49]⟩,⟨#[49]⟩]/\Below w.heap.size w w':=by
 have j:balRows cornerJ.length cornerVB cornerB.length cornerVH=cornerM:=Qhm;have k:(List.range (2*cornerJ.length)).map (agn cornerVS)= [0,0,0,0,-1,0]:=Qnb;have h:=Qnl (some ⟨a,0,none⟩) (some ⟨b,0,none⟩) (some ⟨c,0,none⟩) f 3 3 3 d 1 1000000 cornerJ cornerB cornerH cornerVB cornerVH cornerL cornerVS w g i corner_sized Qfe Qfd hl (by decide) rfl Qna (Qhn _) (by decide) (by decide);rw[j,k] at h;exact h.mono fun e w' l=>Qnd l
theorem Qnh(w:Vz)(hg:Glob w):Calls prog 37 #[] w fun e w'=>e=.returned (.bool true)/\Below w.heap.size w w':=by
 have HG:=Hi hg;clear hg;go_enter func37,ntmps37;go_wp2_with fail;go_fit (Qfn w);rintro e w1 ⟨g1,g2,g3,rfl,L,y⟩;obtain⟨M,p⟩:=Ia (Qne g1 g2 g3 w1 (HG.o.below y) L) y;clear L y;go_wp2_with fail;go_fit M.o;rintro e w2 ⟨rfl,z⟩;obtain⟨V2,q⟩:=nm (w2.alloc (.cells #[.int .i64 0,.int .i64 0] 41));obtain⟨p2,A⟩:=nm w2.heap.size;have N:=Hi ((p.o.trans (z.mono p.o.size)).trans ((show Below w2.heap.size w2 V2 by rw[<-q];exact(Below.refl _ _).alloc lZ _).mono (p.o.trans (z.mono p.o.size)).size));have B:=Uf q A;obtain⟨ag,ah⟩:=Ia q A;clear z q A M;go_wp2_with fail;rw[ag.o,ah.o];go_fit (Qfn V2);rintro e w3 ⟨g4,g5,g6,rfl,O,C⟩;have D:=Hi (N.o.trans (C.mono N.o.size))
 obtain⟨E,P⟩:=Ia (B.o.below C B.o.lt) (Qnf g4 g5 g6 w3 (HG.o.below D.o) O);clear O C B;go_wp2_with fail;go_fit P.o;rintro e w4 ⟨rfl,F⟩;obtain⟨V4,r⟩:=nm (w4.alloc (.cells #[.int .i64 0,.int .i64 0] 41));obtain⟨p4,G⟩:=nm w4.heap.size;have h:Bl w3 V4:=by rw[<-r];exact F.alloc F.size _
 have Q:=Hi (D.o.trans (h.mono D.o.size));have H:=Uf r G;obtain⟨i,ai,aj⟩:=Ib (E.o.below h E.o.lt) r G;clear F r G h P E;go_wp2_with fail;rw[ai.o,aj.o];go_fit (Qfn V4);rintro e w5 ⟨g7,g8,g9,rfl,R,s⟩;obtain⟨S,T,j,k⟩:=Ic R (Q.o.trans (s.mono Q.o.size)) (H.o.below s H.o.lt) (i.o.below s i.o.lt);clear R s H i;go_wp2_with fail;go_fit (Qbs ⟨#[49]⟩ ⟨#[48]⟩ w5);rintro e w6 ⟨rfl,I⟩;obtain⟨V6,t⟩:=nm (w6.alloc (.cells #[.int .i64 2,.string ⟨#[49]⟩,.string ⟨#[48]⟩] 36));have a:Bl w5 V6:=by rw[<-t];exact I.alloc I.size _
 obtain⟨J,u,v⟩:=Ib (T.o.trans (a.mono T.o.size)) (j.o.below a j.o.lt) (k.o.below a k.o.lt);have U:SB V6 w6.heap.size 36 #[.int .i64 2,.string ⟨#[49]⟩,.string ⟨#[48]⟩]:=by rw[<-t];exact SB.new w6 _ _
 obtain⟨V,ak⟩:=Ia (Qng g7 g8 g9 1 (some ⟨w6.heap.size,0,none⟩) V6 (HG.o.below J.o) (S.o.below a) (U.arow rfl (by decide))) t;clear I t a U S j k;go_wp2_with fail;rw[ak.o];go_fit V.o;rintro e x ⟨h1,h2,rfl,W,X,K⟩;obtain⟨c,b⟩:=nm ((x.alloc (.cells #[.slice (some ⟨h1,0,none⟩) 3 3,.slice (some ⟨h2,0,none⟩) 3 3] 45)).alloc (.cells #[.int .i64 0,.int .i64 0] 41));obtain⟨q7,m⟩:=nm x.heap.size;have d:Bl x c:=by rw[<-b];exact Below.new2 x _ _
 have f:=K.trans (d.mono K.size);have Y:SB c q7 45 #[.slice (some ⟨h1,0,none⟩) 3 3,.slice (some ⟨h2,0,none⟩) 3 3]:=by rw[<-b,<-m];exact(SB.new x _ _).alloc _
 have Z:SB c (q7+1) 41 #[.int .i64 0,.int .i64 0]:=by rw[<-b,<-m];exact Qai x _ _ _
 obtain⟨k0,-⟩:=zc (v.o.below f v.o.lt);obtain⟨k1,-⟩:=zc (u.o.below f u.o.lt);obtain⟨k2,-⟩:=zc Z;obtain⟨k3,k4,-⟩:=zc Y;have aa:=Hi (J.o.trans (f.mono J.o.size));obtain⟨V8,n⟩:=nm ((c.alloc (.cells #[.string ⟨#[49]⟩,.string ⟨#[45,49]⟩,.string ⟨#[49]⟩] 32)).alloc (.cells #[.string ⟨#[45,49]⟩,.string ⟨#[45,49]⟩,.string ⟨#[49]⟩] 32));have g:Bl c V8:=by rw[<-n];exact Below.new2 c _ _
 have t1:TLst V8 (some ⟨c.heap.size,0,none⟩) [⟨#[49]⟩,⟨#[45,49]⟩,⟨#[49]⟩]:=by
  rw[<-n];exact SB.texts (l:=[⟨#[49]⟩,⟨#[45,49]⟩,⟨#[49]⟩]) ((SB.new c 32 _).alloc _)
 have t2:TLst V8 (some ⟨c.heap.size+1,0,none⟩) [⟨#[45,49]⟩,⟨#[45,49]⟩,⟨#[49]⟩]:=by
  rw[<-n];exact SB.texts (l:=[⟨#[45,49]⟩,⟨#[45,49]⟩,⟨#[49]⟩]) (Qai c _ 32 _)
 obtain⟨ab,ad⟩:=Ia (Qnc (some ⟨h1,0,none⟩) (some ⟨h2,0,none⟩) (some ⟨c.heap.size,0,none⟩) (some ⟨c.heap.size+1,0,none⟩) 3 3 3 3 [⟨#[49]⟩,⟨#[45,49]⟩,⟨#[49]⟩] [⟨#[45,49]⟩,⟨#[45,49]⟩,⟨#[49]⟩] V8 ((W.below d).below g) ((X.below d).below g) t1 t2 (by decide) (by decide)) (aa.o.trans (g.mono aa.o.size));rw[<-b] at k0 k1;rw[<-b,<-m] at k2 k3 k4;have ae:c.heap.size=x.heap.size+1+1:=by rw[<-b];simp
 rw[ae] at ab;obtain⟨al,ao,am⟩:=Ib b m n;clear W X K d f Y Z g t1 t2 b m n V ae;go_wp2_with fail;rw[al.o,am.o];go_fit ab.o;rintro e w9 ⟨rfl,af⟩;have an:=Hi (ad.o.trans (af.mono ad.o.size));clear af k0 k1 k2 k3 k4;go_wp2;go_ret;exact⟨rfl,an.o⟩
abbrev RT:=Nat × Rat × Nat
def ptrV(t:RT):Value:=.pointer (some ⟨t.1,0,none⟩)
def IsPt(u:Value):Prop:=∃p,u=Value.pointer p
theorem Qub(a:List RT):∀u,u∈ a.map ptrV->IsPt u:=fun u b=>by
 obtain⟨t,_,rfl⟩:=List.mem_map.1 b;exact⟨_,rfl⟩
theorem Quc(a:List RT):∀u,u∈ a.map ptrV->u.oneCell'=true:=fun u b=>by
 obtain⟨t,_,rfl⟩:=List.mem_map.1 b;rfl
structure Fp (w w':Vz):Prop where
 size:w.heap.size<=w'.heap.size
 keep:∀b i u,w.cell? ⟨b,i,none⟩=some u->¬IsPt u->w'.heap[b]?=w.heap[b]?
theorem Fp.of_only{w w':Vz}{g:Nat}{t:Vr}{C:Vw}(c:Only g w w')(d:SB w g t C)(hC:∀u,u∈ C.toList->IsPt u):Fp w w':=by
 refine⟨c.size,fun b i u a hk=>c.block b (World.block_lt_of_cell? _ _ a) ?_⟩;rintro rfl;rw[d.cell] at a;exact hk (hC u (mO (by rw[Array.getElem?_toList];exact a)))
theorem Fp.grown{w w':Vz}{B n:Nat}{e:Vr}{v:Value}{xs:Vv}(c:Grow w B e 1 IsPt v n xs)(h:w.grownBy w' v.ownBlock):Fp w w':=by
 refine⟨h.size,fun b i u a hk=>h.block b (World.block_lt_of_cell? _ _ a) (fun e=>?_)⟩;obtain⟨C,hC,d⟩:=c.sb e.symm;rw[hC.cell] at a;exact hk (d u (mO (by rw[Array.getElem?_toList];exact a)))
theorem Fp.cell{w w':Vz}(h:Fp w w'){b i:Nat}{u:Value}(a:w.cell? ⟨b,i,none⟩=some u)(hk:¬IsPt u)(j:Nat):w'.cell? ⟨b,j,none⟩=w.cell? ⟨b,j,none⟩:=World.cell?_of_block (w:=w) (h.keep b i u a hk)
theorem Qud(x:Bool):¬IsPt (.bool x):=fun ⟨p,e⟩=>by cases e
theorem Que(k:IntKind)(n:Int):¬IsPt (.int k n):=fun ⟨p,e⟩=>by cases e
theorem Row.fp{k:IntKind}{w w':Vz}{a:Vx}{c:Nat}{l:Vy}(h:Row k w a c l)(d:Fp w w'):Row k w' a c l:=by
 refine⟨h.fit,?_,fun i j=>?_⟩
 .
  rcases h.shape with e|⟨f,b,rfl,m⟩
  . exact .inl e
  . exact .inr ⟨f,b,rfl,by have:=d.size;omega⟩
 . obtain⟨f,b,e,m,g⟩:=h.cell i j
   exact⟨f,b,e,by have:=d.size;omega,(d.cell g (Que _ _) _).trans g⟩
theorem SB.fp{w w':Vz}{b:Nat}{t:Vr}{C:Vw}{u:Value}{i:Nat}(h:SB w b t C)(a:Fp w w')(c:C[i]?=some u)(d:¬IsPt u):SB w' b t C:=by
 have e:=a.keep b i u (by rw[h.cell];exact c) d;unfold SB at h ⊢;rw[e];exact h
theorem RatVal.fp{w w':Vz}{b:Nat}{q:Rat}(h:RatVal w b q)(c:Fp w w'):RatVal w' b q:=by
 obtain⟨D,d,c1,e,f,c2,g,a,j⟩:=h;exact⟨D,d,c1,e,f,c2,g,⟨a.sb.fp c (i:=0) rfl (Qud _),⟨a.num.row.fp c,a.num.num,a.num.short⟩,⟨a.den.row.fp c,a.den.num,a.den.short⟩⟩,j⟩
def RVs(w:Vz)(ts:List RT):Prop:=∀t,t∈ ts->RatVal w t.1 t.2.1/\Fits t.2.1 t.2.2/\0<t.2.2
theorem RVs.below{w w':Vz}{a:List RT}(h:RVs w a)(c:Bl w w'):RVs w' a:=fun t b=>⟨(h t b).1.below c,(h t b).2⟩
theorem RVs.fp{w w':Vz}{a:List RT}(h:RVs w a)(c:Fp w w'):RVs w' a:=fun t b=>⟨(h t b).1.fp c,(h t b).2⟩
structure PRow (w:Vz) (a:Vx) (ts:List RT):Prop where
 row:CRow w a (ts.map ptrV)
 vs:RVs w ts
theorem PRow.below{w w':Vz}{a:Vx}{b:List RT}(h:PRow w a b)(c:Bl w w'):PRow w' a b:=⟨h.row.below c,h.vs.below c⟩
theorem PRow.at{w:Vz}{a:Vx}{d:List RT}(h:PRow w a d){i:Nat}{t:RT}(e:d[i]?=some t):∃b c,a=some ⟨b,c,none⟩/\b<w.heap.size/\w.cell? ⟨b,c+i,none⟩=some (.pointer (some ⟨t.1,0,none⟩)):=h.row.cell i (ptrV t) (by rw[List.getElem?_map,e];rfl)
theorem PRow.bag{w:Vz}{a:Vx}{b:List RT}(h:PRow w a b)(c:∃m,w.cell? ⟨4,0,none⟩=some (.int .i64 m)):RBag w w b:=⟨Below.refl _ _,c,h.vs⟩
theorem Quf:(prog.info? 63).map (fun i=>(i.zero,i.size,i.bytes))=some (some (.pointer none),1,8):=by kernel_rfl
structure PGrow (w:Vz) (B:Nat) (v:Value) (ts:List RT):Prop where
 list:Grow w B 63 1 IsPt v ts.length (ts.map ptrV)
 vs:RVs w ts
theorem PGrow.below{w w':Vz}{B:Nat}{v:Value}{a:List RT}(h:PGrow w B v a)(b:Bl w w'):PGrow w' B v a:=⟨h.list.below b,h.vs.below b⟩
theorem PGrow.nil(w:Vz)(B:Nat):PGrow w B (.slice none 0 0) []:=⟨Grow.nil _ _ _ _ _,fun t a=>by cases a⟩
theorem PGrow.row{w:Vz}{B:Nat}{v:Value}{c:List RT}(h:PGrow w B v c):∃a b,v=.slice a c.length b/\PRow w a c:=by
 obtain⟨a,b,e,_,d,_⟩:=h.list.slice;exact⟨a,b,e,d,h.vs⟩
theorem PGrow.appT{w:Vz}{B nb c m:Nat}{v:Value}{d us:List RT}{t:Vr}(h:PGrow w B v d)(a:prog.underlying t=some (.slice 63))(e:RVs w us)(n:us.length=m)(o:∀j u,(us.map ptrV)[j]?=some u->w.cell? ((⟨nb,0,none⟩:Addr).add j)=some u)(p:d.length+m<=1048576)(hB:B<=w.heap.size)(ty:Vr):
 ∃b w',appR prog t ty v (.slice (some ⟨nb,0,none⟩) m c) w=.ok b w'/\PGrow w' B b (d++us)/\Below B w w'/\Fp w w'/\w.grownBy w' v.ownBlock/\(b.ownBlock=v.ownBlock∨b.ownBlock=some w.heap.size):=by
 subst n;obtain⟨i,q,r⟩:=Option.map_eq_some_iff.1 Quf;injection r with s f
 injection f with f x
 obtain⟨b,w',y,z,k,A⟩:=h.list.app (P:=prog) (t:=t) (ty:=ty) a q s f x rfl (by decide) (fun u e=>⟨none,by simpa [Value.cells] using e⟩) ⟨nb,0,none⟩ us.length c (us.map ptrV) (by simp) o (Quc us) (Qub us) p (by decide) hB;have l:=Fp.grown h.list k;refine⟨b,w',y,⟨?_,fun t a=>?_⟩,Qdm k (fun g C=>(h.list.lt C).1) hB,l,k,A⟩
 . rw[List.length_append,List.map_append]
   exact z
 .
  rcases List.mem_append.1 a with a|a
  . exact(h.vs.fp l) t a
  . exact(e.fp l) t a
theorem PGrow.app{w:Vz}{B nb c m:Nat}{v:Value}{b us:List RT}(h:PGrow w B v b)(d:RVs w us)(e:us.length=m)(f:∀j u,(us.map ptrV)[j]?=some u->w.cell? ((⟨nb,0,none⟩:Addr).add j)=some u)(g:b.length+m<=1048576)(hB:B<=w.heap.size)(ty:Vr):
 ∃a w',appR prog 38 ty v (.slice (some ⟨nb,0,none⟩) m c) w=.ok a w'/\PGrow w' B a (b++us)/\Below B w w'/\Fp w w':=by
 obtain⟨a,w',i,k,l,n,_⟩:=h.appT underlying38 d e f g hB ty;exact⟨a,w',i,k,l,n⟩
structure PBlk (w:Vz) (g:Nat) (ts:List RT):Prop where
 blk:SB w g 63 (ts.map ptrV).toArray
 vs:RVs w ts
theorem PBlk.below{w w':Vz}{g:Nat}{a:List RT}(h:PBlk w g a)(b:Bl w w'):PBlk w' g a:=⟨h.blk.below b h.blk.lt,h.vs.below b⟩
structure LVal (ls:List L3) (vs:List (Nat × Rat × Rat)):Prop where
 len:vs.length=ls.length
 at_:∀(i:Nat) (l:L3) (p:Nat × Rat × Rat),ls[i]?=some l->vs[i]?=some p->p.1=l.j.toNat/\QOf l.x.data.toList p.2.1/\QOf l.y.data.toList p.2.2/\l.x.size<=1048576/\l.y.size<=1048576
theorem LVal.ex(ls:List L3)(d:∀l,l∈ ls->l.x.size<=1048576/\l.y.size<=1048576):∃vs,LVal ls vs:=by
 have g:∀i:Nat,∃p:Nat × Rat × Rat,∀l,ls[i]?=some l->p.1=l.j.toNat/\QOf l.x.data.toList p.2.1/\QOf l.y.data.toList p.2.2/\l.x.size<=1048576/\l.y.size<=1048576:=fun i=>by
  rcases hi:ls[i]? with _|l
  . exact⟨(0,0,0),fun b h=>by cases h⟩
  .
   obtain⟨x,k⟩:=QOf.ex l.x.data.toList;obtain⟨y,m⟩:=QOf.ex l.y.data.toList;have z:=d l (mO hi);exact⟨(l.j.toNat,x,y),fun b e=>by cases e;exact⟨rfl,k,m,z⟩⟩
 obtain⟨f,n⟩:=Classical.axiomOfChoice g;refine⟨(List.range ls.length).map f,by simp,fun i l p hl c=>?_⟩;have a:=(gZ hl).1;rw[List.getElem?_map,List.getElem?_range a] at c;obtain rfl:=Option.some.inj c;exact n i l hl
theorem LVal.loadV{ls:List L3}{vs:List (Nat × Rat × Rat)}(h:LVal ls vs){n:Nat}(a:∀(i:Nat) (x:L3),ls[i]?=some x->IsJ n x.j):∀(i:Nat) (l:L3) (p:Nat × Rat × Rat),ls[i]?=some l->vs[i]?=some p->LoadV n l p:=fun i l p hl b=>by
 obtain⟨c,d,e,f,g⟩:=h.at_ i l p hl b;obtain⟨k1,k2⟩:=a i l hl;exact⟨by rw[c];omega,by omega,d,e,f,g⟩
theorem LoadsFault.zero{a b:Nat}{ls:List L3}{x:Int}(h:LoadsFault a b ls 0 x):ls.length<=20/\(∀(i:Nat) (y:L3),ls[i]?=some y->IsJ a y.j)/\x=0:=by
 rcases h with ⟨_,h,_⟩|⟨c,⟨_,_,_,_,_,h,_⟩|⟨d,_,e⟩⟩
 . cases h
 . cases h
 . exact⟨c,d,e⟩
theorem Qm2(r x:Vec):∀n,dot (2*n) r x=sumQ n (fun q=>r (2*q)*x (2*q)+r (2*q+1)*x (2*q+1))
 |0=>rfl
 |n+1=>by
  rw[show 2*(n+1)=2*n+1+1 by omega]
  show dot (2*n) r x+r (2*n)*x (2*n)+r (2*n+1)*x (2*n+1)=sumQ n _+_
  rw[Qm2 r x n];grind
theorem Qx6{n:Nat}{p:Nat × Nat × Rat × Rat}(v:Vec)(c:p.1<n)(d:p.2.1<n)(e:p.1≠p.2.1):dot (2*n) (fun i=>if i<2*n then barAt p i else 0) v= -(p.2.2.1*(v (2*p.2.1) - v (2*p.1))+p.2.2.2*(v (2*p.2.1+1) - v (2*p.1+1))):=by
 rw[Qac (2*n) _ v (barAt p) v (fun i f=>by rw[if_pos f]),Qm2,Qky n _ p.1 p.2.1 c d e (fun q _ j k=>?_)]
 .
  have a:barAt p (2*p.1)=p.2.2.1:=if_pos rfl;have b:barAt p (2*p.1+1)=p.2.2.2:=by unfold barAt;rw[if_neg (by omega),if_neg (by omega),if_pos rfl]
  have g:barAt p (2*p.2.1)= -p.2.2.1:=by unfold barAt;rw[if_neg (by omega),if_pos rfl]
  have h:barAt p (2*p.2.1+1)= -p.2.2.2:=by unfold barAt;rw[if_neg (by omega),if_neg (by omega),if_neg (by omega),if_pos rfl]
  simp only[a,b,g,h];grind
 .
  have a:barAt p (2*q)=0:=by unfold barAt;rw[if_neg (by omega),if_neg (by omega),if_neg (by omega),if_neg (by omega)]
  have b:barAt p (2*q+1)=0:=by unfold barAt;rw[if_neg (by omega),if_neg (by omega),if_neg (by omega),if_neg (by omega)]
  simp only[a,b];grind
section
open Go.ChangeShapes Go.WideShapes Go.ChangeAt Go.RowKit
theorem Ql6:prog.cellsOf 36=3:=by kernel_rfl
theorem Qvz:prog.readableRec 27=true:=by kernel_rfl
theorem Qv0:27<prog.types.size:=by refine of_decide_eq_true ?_;kernel_rfl
section
variable {H:Type} {enc:TypeId × Value->H} {W:Vz}
theorem Qv1{P:Program}{w:Vz}{c:Nat}{b:Nat->Bool}{d:Bool}{e:Nat}{g i j f:Vr}{f0 f1 k m:Field}{o:Vv}{x:DataW H × List MemPlace}(A:P.underlying g=some (.struct #[f0,f1]))(B:P.underlying i=some (.int .i64))(C:P.underlying j=some (.struct #[k,m]))(D:P.underlying f=some .string)(E:P.cellsOf g=3)(F:P.cellsOf i=1)(z:P.cellsOf j=2)(G:P.cellsOf f=1)
 (t0:f0.type=i) (t1:f1.type=j) (I:f0.offset=0) (J:f1.offset=1) (K:k.type=f) (L:m.type=f) (M:k.offset=0) (N:m.offset=1)
 (h:DataW.trod enc P w c b d e g o=some x):∃l:L3,o=l.cells/\x.1=loadD l:=by
 obtain⟨xs,n,rfl,rfl,hl,p,q⟩:=DataW.trod_struct A h;rw[E] at hl;clear h;have r:=q 0 f0 rfl;have u:=q 1 f1 rfl;rw[t0,I,F] at r;rw[t1,J,z] at u;clear q
 match o,hl,xs,p with
 | [v0,v1,v2],_,[y0,y1],_=>
   simp only[List.drop_zero,List.drop_succ_cons,List.take_succ_cons,List.take_zero,List.getElem?_cons_zero,List.getElem?_cons_succ] at r u;obtain⟨a,O,rfl,_⟩:=DataW.trod_int B r;obtain⟨s,t,v,Q,_⟩:=Qlk C D z G K L M N u;obtain rfl:v0=_:=by simpa using O
   injection v with v y
   injection y with y _
   subst v y;refine⟨⟨a,s,t⟩,rfl,?_⟩
   show DataW.agg [_,y1.1]=_
   rw[Q];rfl
theorem Ql7(l:L3):1<=Rows.uptoBulk (loadD (H:=H) l)/\l.x.size+l.y.size<=Rows.uptoBulk (loadD (H:=H) l):=by
 simp[loadD,textD,Rows.uptoBulk,Rows.uptoBulkAll];omega
theorem Ql8:∀a:List S2,jW a<=Rows.uptoBulkAll (a.map (spotD (H:=H)))
 | []=>by simp[jW,Rows.uptoBulkAll]
 |s :: l=>by
  have b:=Ql8 l;have c:=(Qg9 (H:=H) s).2;simp only[jW,List.map_cons,Rows.uptoBulkAll];omega
theorem Ql9:∀ls:List L3,lW ls<=Rows.uptoBulkAll (ls.map (loadD (H:=H)))
 | []=>by simp[lW,Rows.uptoBulkAll]
 |s :: l=>by
  have a:=Ql9 l;have b:=(Ql7 (H:=H) s).2;simp only[lW,List.map_cons,Rows.uptoBulkAll];omega
theorem Qv2{a:Vx}{n c:Nat}{d:DataW H}{g:List MemPlace}(h:DataW.Trod enc prog W 0 (fun _=>true) true 27 (.slice a n c) d g):
 ∃ls:List L3,n=ls.length/\ARow L3.cells W a c ls/\Rows.uptoBulkAll (ls.map (loadD (H:=H)))<=Rows.uptoBulk d:=by
 obtain⟨b,h⟩:=h;obtain⟨i,j,ls,e,k,hl,l⟩:=Qdg (c:=L3.cells) (dat:=loadD) (sz:=3) ⟨0,⟨#[]⟩,⟨#[]⟩⟩ (by decide) (fun _=>rfl) underlying27 Ql6 (fun b r x m=>Qv1 underlying36 underlying3 underlying34 underlying32 Ql6 cellsInt Qgy Qdh rfl rfl rfl rfl rfl rfl rfl rfl m) h;have f: [Value.slice a n c]= [Value.slice i ls.length j]:=e;injection f with f _
 injection f with o p q
 subst o p q;exact⟨ls,rfl,k,Qb5 lZ hl l⟩
end
end
def IsTx(u:Value):Prop:=∃s,u=Value.string s
abbrev TG(w:Vz)(B:Nat)(v:Value)(ss:Vt):Prop:=Grow w B 32 1 IsTx v ss.length (textsV ss)
theorem TG.app{w:Vz}{B nb c:Nat}{v:Value}{a:Vt}{s:Vs}(h:TG w B v a)(k:w.cell? ⟨nb,0,none⟩=some (.string s))(y:a.length<=1000)(hB:B<=w.heap.size)(ty:Vr):
 ∃d w',appR prog 28 ty v (.slice (some ⟨nb,0,none⟩) 1 c) w=.ok d w'/\TG w' B d (a++ [s])/\Below B w w':=by
 obtain⟨i,l,m⟩:=Option.map_eq_some_iff.1 Qm1;injection m with n e
 injection e with e o
 obtain⟨d,w',p,q,r,_⟩:=Grow.app h (P:=prog) (t:=28) (ty:=ty) underlying28 l n e o rfl (by decide) (fun u b=>⟨_,by simpa [Value.cells] using b⟩) ⟨nb,0,none⟩ 1 c [.string s] rfl (fun j u f=>by
  match j,f with
  |0,f=>
   obtain rfl:=Option.some.inj f
   exact k) (fun u b=>by obtain rfl:=List.mem_singleton.1 b;rfl) (fun u b=>by obtain rfl:=List.mem_singleton.1 b;exact⟨_,rfl⟩) (by omega) (by decide) hB
 refine⟨d,w',p,?_,Qdm r (fun g x=>(h.lt x).1) hB⟩
 show Grow _ _ _ _ _ _ (a++ [s]).length (textsV (a++ [s]))
 rw[List.length_append,List.length_singleton,textsV,List.map_append];exact q
theorem TG.tlst{w:Vz}{B:Nat}{v:Value}{c:Vt}(h:TG w B v c):∃a b,v=.slice a c.length b/\TLst w a c:=by
 obtain⟨a,b,e,_,d,_⟩:=Grow.slice h;exact⟨a,b,e,fun i s f=>d.cell i (.string s) (by simp[textsV,f])⟩
theorem Qx2(a:Vx)(P n K:Nat)(A:List RT)(w:Vz)(Z:∃m,w.cell? ⟨4,0,none⟩=some (.int .i64 m))(h:PRow w a A)(hk:∀t,t∈ A->t.2.2<=K)(hK:K<274877906000)(hn:A.length=n)(hl:n<=1000):
 Calls prog 39 #[.slice a n P] w fun e w'=>∃(v:Value) (r:Vt),e=.returned v/\TG w' w.heap.size v r/\r.length=n/\(∀(i:Nat) (t:RT) (s:Vs),A[i]?=some t->r[i]?=some s->QText s.data.toList t.2.1)/\Below w.heap.size w w':=by
 obtain⟨HH,Q,HK,HN⟩:=Ic h (RBag.start Z) hk hn;clear h Z hk hn;go_enter func39,ntmps39;go_wp2_with fail;go_loopw [3,8] (fun ov R wr=>∃(k:Nat) (r:Vt),k<=n/\R=.int .i64 k/\TG wr w.heap.size ov r/\r.length=k/\(∀(i:Nat) (t:RT) (s:Vs),A[i]?=some t->r[i]?=some s->QText s.data.toList t.2.1)/\Below w.heap.size w wr) (fun _ R _=>n - (intOf R).toNat)
 case atStart=>exact⟨0,[],Nat.zero_le _,rfl,Grow.nil _ _ _ _ _,rfl,fun i t s _ N=>by simp at N,Below.refl _ _⟩
 case round=>
  obtain⟨k,r,hk,rfl,y,C,g,D⟩:=hrel;obtain⟨E,d,F,f⟩:=Ic y C g D;obtain⟨oa,oc,S,_⟩:=TG.tlst y;subst S;clear y C g D;by_cases aa:k<n
  .
   obtain⟨t,G⟩:∃t,A[k]?=some t:=⟨_,gE (by have:=HN.o;omega)⟩;obtain⟨b,ab,rfl,hb,x0⟩:=(HH.o.below f.o).at G;have T:=HK.o t (mO G);have HT:=Hi (RBag.text (bx:=t.1) (p:=t.2.1) (j:=t.2.2) ((HH.o.below f.o).bag ((Q.o.below f.o).glob)) (mO G) (by omega));have q1:((k:Int)<(n:Int)):=by omega
   have U:=Hi G;clear G T;go_wp2_with fail;go_fit HT.o;rintro e B ⟨⟨s,rfl,N⟩,l⟩;have z:=Hi (f.o.trans (l.base.mono f.o.size));have x:=Grow.below E.o l.base;have HS:=Hi N;obtain⟨Y,O⟩:=nm (B.alloc (.cells #[.string s] 32));have u:Bl B Y:=by rw[<-O];exact(Below.refl _ _).alloc lZ _
   have H:Y.cell? ⟨B.heap.size,0,none⟩=some (.string s):=by rw[<-O];exact Qbd B _ _
   obtain⟨v',w',I,J,L⟩:=TG.app (Grow.below x u) (s:=s) (nb:=B.heap.size) (c:=1) H (by have:=d.o;omega) (Nat.le_trans z.o.size u.size) 28;rw[<-O] at I;obtain⟨V,W⟩:=Ia J ((z.o.trans (u.mono z.o.size)).trans L);clear N l x O u H J L HT x0;go_wp2;go_roundw
   case rel=>
    refine⟨k+1,r++ [s],by omega,by go_num,V.o,by simp[d.o],fun i t' s' M q=>?_,W.o⟩;rcases Nat.lt_or_ge i k with hi|hi
    . rw[List.getElem?_append_left (by have:=d.o;omega)] at q
      exact F.o i t' s' M q
    .
     have X:=(gZ q).1;rw[List.length_append,d.o,List.length_singleton] at X;obtain rfl:i=k:=by omega
     rw[List.getElem?_append_right (by have:=d.o;omega),d.o,Nat.sub_self] at q;obtain rfl:=Option.some.inj q;obtain rfl:=Option.some.inj (U.o.symm.trans M);exact HS.o
   case measure=>simp[intOf];omega
  .
   obtain rfl:n=k:=by omega
   go_wp2;go_ret;exact⟨_,r,rfl,E.o,d.o,F.o,f.o⟩
theorem LoadsFault.inj{a o:Nat}{ls:List L3}{c d x y:Int}(h:LoadsFault a o ls c x)(k:LoadsFault a o ls d y):c=d/\x=y:=by
 have g:∀{k k':Nat} {l e:L3},ls[k]?=some l->(∀(i:Nat) (x:L3),i<k->ls[i]?=some x->IsJ a x.j)->¬IsJ a l.j->ls[k']?=some e->(∀(i:Nat) (x:L3),i<k'->ls[i]?=some x->IsJ a x.j)->¬IsJ a e.j->k=k':=fun {k k' l e} b n f q r s=>by
  rcases Nat.lt_trichotomy k k' with h|h|h
  . exact absurd (r k l h b) f
  . exact h
  . exact absurd (n k' e h q) s
 rcases h with ⟨t,rfl,rfl⟩|⟨t,⟨i,l,b,n,f,rfl,rfl⟩|⟨b,rfl,rfl⟩⟩<;>rcases k with ⟨u,rfl,rfl⟩|⟨u,⟨j,m,k1,k2,p,rfl,rfl⟩|⟨k1,rfl,rfl⟩⟩
 . exact⟨rfl,rfl⟩
 . omega
 . omega
 . omega
 . rw[g b n f k1 k2 p]
   exact⟨rfl,rfl⟩
 . exact absurd (k1 i l b) f
 . omega
 . exact absurd (b j m k1) p
 . exact⟨rfl,rfl⟩
theorem Qw9(v x y:Vx)(c1 c2 c3:Nat)(l:List S2)(m:List B6)(n:List H3)(c at_:Int)(w:Vz)(I:Glob w)(J:FrRow w v x y c1 c2 c3 l m n)(K:FrSized l m n)(b:FrameFault l m n c at_)(L:c≠0):
 Calls prog 38 #[.agg #[.slice v l.length c1,.slice x m.length c2,.slice y n.length c3]] w fun e w'=>e=.returned (.tuple #[.slice none 0 0,.agg #[.int .i64 c,.int .i64 at_]])/\Below w.heap.size w w':=by
 obtain⟨N,O,P,z,A⟩:=Id I J K b L;clear I J K b L;obtain⟨r,i⟩:=nm w.heap.size;obtain⟨B,d⟩:=nm ((w.alloc (.cells #[.slice v l.length c1,.slice x m.length c2,.slice y n.length c3] 26)).alloc (.cells #[.int .i64 0,.int .i64 0] 41));have a:=Ub d;have j:=Uh d i;obtain⟨s,C⟩:=Ia d i;have t:w.heap.size<=r+1:=by omega
 have D:=Hi (Qew v x y c1 c2 c3 l m n B (N.o.below a.o) (O.o.below a.o) P.o);clear d i;go_enter func38,ntmps38;go_wp2_with fail;rw[s.o,C.o];clear s;go_fit D.o;rintro e E ⟨W,Q,rfl,b,f⟩;obtain⟨R,S⟩:=z.o.inj b;obtain rfl:=R;obtain rfl:=S;obtain⟨V,q⟩:=nm (E.alloc (.cells #[.int .i64 c,.int .i64 at_] 41));have k:Bl B V:=by rw[<-q];exact f.alloc f.size _
 obtain⟨g,F⟩:=Ia (j.o.below k j.o.lt) (a.o.trans (k.mono a.o.size));obtain⟨M,h⟩:=nm E.heap.size;have u:SB V M 41 #[.int .i64 c,.int .i64 at_]:=by rw[<-q,<-h];exact SB.new E _ _
 obtain⟨T,k1,-⟩:=zc u;have G:M≠r+1:=by have:=j.o.lt;have:=f.size;omega
 obtain⟨U,y1,-⟩:=zc g.o;have f0:=g.o.free 0;have f1:=g.o.free 1;have H:=Hi q;have X:(c != 0)=true:=by simpa using A.o
 rw[<-q,<-h] at T k1;rw[<-q] at U y1 f0 f1;rw[<-h] at G;clear q h u k b f;go_wp2;go_region
 all_goals
  go_wp2;rw[H.o];refine bodyPost_ret (Qdi rfl _ _ (r+1) 41 #[.int .i64 c,.int .i64 at_] (0,0) _ rfl ((g.o.set 0 _).set 1 _) underlying41 rfl Tryz.faultInfo) rfl ?_;exact⟨rfl,((F.o.setCell (p:=⟨r+1,0,none⟩) t _).setCell (p:=⟨r+1,1,none⟩) t _).drew⟩
def cmpQ(p q:Rat):Int:=cmpZ (p.num*(q.den:Int)) (q.num*(p.den:Int))
def FF(q:Rat)(k:Nat):Fact:=fun v w=>FracV w v q/\Fits q k/\0<k
theorem FF.stays(q:Rat)(k:Nat):Stays (FF q k):=fun _ _ _ a h=>⟨h.1.below a,h.2⟩
theorem FF.below{q:Rat}{k:Nat}{v:Value}{w w':Vz}(h:FF q k v w)(a:Bl w w'):FF q k v w':=FF.stays q k v w w' a h
def Makes(w:Vz)(φ:Fact)(e:Ending)(w':Vz):Prop:=∃v,e=.returned v/\Below w.heap.size w w'/\φ v w'
theorem Makes.use{P:Program}{f:FuncId}{a:Vw}{w:Vz}{φ:Fact}{R:Ending->World->Prop}(h:Calls P f a w (Makes w φ))(b:∀v w',Below w.heap.size w w'->φ v w'->R (.returned v) w'):Calls P f a w R:=
 h.mono fun e w' ⟨v,c,d,g⟩=>by subst c;exact b v w' d g
theorem FNew.makes{w w':Vz}{q:Rat}{k:Nat}{e:Ending}(h:FNew w q e w')(a:Fits q k)(hk:0<k):Makes w (FF q k) e w':=by
 obtain⟨⟨v,rfl,b⟩,c⟩:=h;exact⟨v,rfl,c,b,a,hk⟩
theorem FF.plus{u v:Value}{p q:Rat}{j k:Nat}{w:Vz}(a:FF p j u w)(b:FF q k v w)(c:j+k<68719476000):Calls prog 64 #[u,v] w (Makes w (FF (p+q) (j+k+1))):=
 (Qo9 a.1 b.1 a.2.1 b.2.1 c).mono fun e w' h=>h.makes (a.2.1.add b.2.1) (by omega)
theorem FF.minus{u v:Value}{p q:Rat}{j k:Nat}{w:Vz}(a:FF p j u w)(b:FF q k v w)(c:j+k<68719476000):Calls prog 57 #[u,v] w (Makes w (FF (p - q) (j+k+1))):=
 (Qa9 a.1 b.1 a.2.1 b.2.1 c).mono fun e w' h=>h.makes (a.2.1.sub b.2.1) (by omega)
theorem FF.times{u v:Value}{p q:Rat}{j k:Nat}{w:Vz}(a:FF p j u w)(b:FF q k v w)(c:j+k<68719476000):Calls prog 65 #[u,v] w (Makes w (FF (p*q) (j+k))):=
 (Qd4 a.1 b.1 a.2.1 b.2.1 c).mono fun e w' h=>h.makes (a.2.1.mul b.2.1 a.2.2) (by have:=a.2.2;omega)
theorem FF.over{u v:Value}{p q:Rat}{j k:Nat}{w:Vz}(a:FF p j u w)(b:FF q k v w)(c:j+k<68719476000):Calls prog 66 #[u,v] w (Makes w (FF (p / q) (j+k))):=
 (Qch a.1 b.1 a.2.1 b.2.1 c).mono fun e w' h=>h.makes (a.2.1.div b.2.1 a.2.2 b.2.2) (by have:=a.2.2;omega)
theorem FF.isZero{u:Value}{p:Rat}{j:Nat}{w:Vz}(a:FF p j u w):Calls prog 129 #[u] w (Makes w (Is (.bool (decide (p=0))))):=
 (Qbz a.1).mono fun e w' h=>⟨_,h.1,h.2,rfl⟩
theorem FF.of{s:Vs}{q:Rat}{n K:Nat}{w:Vz}(c:Glob w)(d:QOf s.data.toList q)(f:s.size<=n)(g:n<=1073741824)(h:4*n+1<=K):Calls prog 63 #[.string s] w (Makes w (FF q K)):=by
 refine((FBag.start c).of s f g).mono ?_;rintro e w' ⟨i,a,x,y,z,rfl,b⟩;obtain rfl:=d.inj a;have:=b.get List.mem_cons_self;exact⟨_,rfl,b.base,this.1,this.2.1.mono h,by omega⟩
theorem FF.ofFits{s:Vs}{q:Rat}{K:Nat}{w:Vz}(a:Glob w)(b:QOf s.data.toList q)(c:s.size<=1073741824)(d:Fits q K)(f:0<K):Calls prog 63 #[.string s] w (Makes w (FF q K)):=
 (FF.of a b c lZ lZ).mono fun e w' ⟨v,g,h,i⟩=>⟨v,g,h,i.1,d,f⟩
def TF(q:Rat):Fact:=fun v _=>∃s:Vs,v=.string s/\QText s.data.toList q
theorem TF.stays(q:Rat):Stays (TF q):=fun _ _ _ _ h=>h
theorem FF.text{u:Value}{p:Rat}{j:Nat}{w:Vz}(b:Glob w)(a:FF p j u w)(c:j<=274877906944):Calls prog 67 #[u] w (Makes w (TF p)):=
 (Qd5 (b.tab (by unfold hasTen;kernel_rfl)) a.1 a.2.1 c).mono fun e w' h=>by
   obtain⟨⟨s,rfl,d⟩,f⟩:=h;exact⟨_,rfl,f,s,rfl,d⟩
theorem FF.zero(w:Vz):FF 0 1 (.agg #[.bool false,.slice none 0 0,.slice none 0 0]) w:=⟨FracV.zero _,Fits.zero,by decide⟩
theorem FF.mono{q:Rat}{k k':Nat}{v:Value}{w:Vz}(h:FF q k v w)(hk:k<=k'):FF q k' v w:=⟨h.1,h.2.1.mono hk,Nat.lt_of_lt_of_le h.2.2 hk⟩
theorem FF.parts{q:Rat}{k:Nat}{v:Value}{w:Vz}(h:FF q k v w):∃x y z,v=.agg #[x,y,z]:=by
 obtain⟨⟨neg,a,n,c,b,m,d,rfl,_⟩,_⟩:=h;exact⟨_,_,_,rfl⟩
def RF(q:Rat)(k:Nat):Fact:=fun v w=>∃b,v=.pointer (some ⟨b,0,none⟩)/\RatVal w b q/\Fits q k/\0<k
theorem RF.stays(q:Rat)(k:Nat):Stays (RF q k):=fun _ _ _ a ⟨b,e,h,r⟩=>⟨b,e,h.below a,r⟩
theorem RF.below{q:Rat}{k:Nat}{v:Value}{w w':Vz}(h:RF q k v w)(a:Bl w w'):RF q k v w':=RF.stays q k v w w' a h
theorem NewRat.makes{w w':Vz}{q:Rat}{k:Nat}{e:Ending}(h:NewRat w q e w')(a:Fits q k)(hk:0<k):Makes w (RF q k) e w':=by
 obtain⟨⟨b,rfl,_,c⟩,d⟩:=h;exact⟨_,rfl,d,b,rfl,c,a,hk⟩
theorem RF.add{u v:Value}{p q:Rat}{j k:Nat}{w:Vz}(a:RF p j u w)(d:RF q k v w)(f:j+k<274877906000):Calls prog 32 #[u,v] w (Makes w (RF (p+q) (j+k+1))):=by
 obtain⟨b,rfl,g,f1,_⟩:=a;obtain⟨c,rfl,i,f2,_⟩:=d;exact(Qu1 b c j k p q w g i f1 f2 f).mono fun e w' h=>h.makes (f1.add f2) (by omega)
theorem RF.mul{u v:Value}{p q:Rat}{j k:Nat}{w:Vz}(d:RF p j u w)(f:RF q k v w)(g:j+k<274877906000):Calls prog 34 #[u,v] w (Makes w (RF (p*q) (j+k))):=by
 obtain⟨b,rfl,i,f1,a⟩:=d;obtain⟨c,rfl,l,f2,_⟩:=f;exact(Qu2 b c j k p q w i l f1 f2 g).mono fun e w' h=>h.makes (f1.mul f2 a) (by omega)
theorem RF.of{s:Vs}{q:Rat}{K:Nat}{w:Vz}(b:Glob w)(c:QOf s.data.toList q)(d:s.size<=1073741824)(f:Fits q K)(g:0<K):Calls prog 36 #[.string s] w (Makes w (RF q K)):=by
 obtain⟨m,h⟩:=b.most;refine(Qu0 s m w h d).mono ?_;rintro e w' ⟨j,a,i⟩;obtain rfl:=c.inj a;exact i.makes f g
theorem RF.cmp{u v:Value}{p q:Rat}{j k:Nat}{w:Vz}(a:RF p j u w)(d:RF q k v w)(f:j+k<274877906000):Calls prog 31 #[u,v] w (Makes w (Is (.int .i64 (cmpQ p q)))):=by
 obtain⟨b,rfl,g,f1,_⟩:=a;obtain⟨c,rfl,i,f2,_⟩:=d;exact(Qua b c j k p q w g i f1 f2 f).mono fun e w' h=>⟨_,h.1,h.2,rfl⟩
namespace Giv
set_option linter.unusedVariables false
theorem dc:∀(n:Nat) (r x:Vec),dot n r x=dot n x r
 |0,_,_=>rfl
 |n+1,r,x=>by unfold dot;rw[dc n r x,Rat.mul_comm]
theorem d_add:∀(n:Nat) (r x y:Vec),dot n r (fun i=>x i+y i)=dot n r x+dot n r y
 |0,_,_,_=>by unfold dot;grind
 |n+1,r,x,y=>by unfold dot;rw[d_add n r x y];grind
theorem d_mul:∀(n:Nat) (r x:Vec) (q:Rat),dot n r (fun i=>q*x i)=q*dot n r x
 |0,_,_,_=>by unfold dot;grind
 |n+1,r,x,q=>by unfold dot;rw[d_mul n r x q];grind
theorem d_neg(n:Nat)(r x:Vec):dot n r (fun i=>-(x i))= -dot n r x:=by
 have h:=d_mul n r x (-1);have e:(fun i=>-1*x i)=(fun i=>-(x i)):=funext fun i=>by grind
 rw[e] at h;rw[h];grind
theorem d_swap:∀(N W:Nat) (M:Nat->Vec) (v x:Vec),dot N v (fun i=>dot W (M i) x)=dot W x (fun c=>dot N v (fun i=>M i c))
 |0,W,M,v,x=>by
  rw[Qa2 W x _ (fun c _=>by unfold dot;grind)];rfl
 |N+1,W,M,v,x=>by
  have h:=d_swap N W M v x;have e:dot (N+1) v (fun i=>dot W (M i) x)=dot N v (fun i=>dot W (M i) x)+v N*dot W (M N) x:=rfl;rw[e,h];have a:(fun c=>dot (N+1) v (fun i=>M i c))=(fun c=>dot N v (fun i=>M i c)+v N*M N c):=rfl;rw[a,d_add,d_mul,dc W x (M N)]
variable {W n:Nat} {B:Nat->Nat->Rat} {c e:Nat->Rat}
def sOf(W:Nat)(B:Nat->Nat->Rat)(m:Vec)(i:Nat):Rat:=-(dot W (fun w=>B w i) m)
def tOf(W:Nat)(B:Nat->Nat->Rat)(c e:Nat->Rat)(m:Vec)(i:Nat):Rat:=c i*(sOf W B m i - e i)
def putF(n:Nat)(B:Nat->Nat->Rat)(t:Vec)(w:Nat):Rat:=dot n (B w) t
def stf(n:Nat)(B:Nat->Nat->Rat)(c:Nat->Rat)(w v:Nat):Rat:=dot n (B w) (fun i=>c i*B v i)
def Settles(W n:Nat)(B:Nat->Nat->Rat)(c e:Nat->Rat)(fr:Nat->Bool)(hv a m:Vec):Prop:=
 (∀w,w<W->fr w=false->m w=hv w)/\(∀w,w<W->fr w=true->putF n B (tOf W B c e m) w=a w)
theorem Qip(t m:Vec):dot W (putF n B t) m= -(dot n t (sOf W B m)):=by
 unfold putF sOf;rw[d_neg,dc W,d_swap W n (fun w=>B w) m t];have a:(fun c=>dot W m fun i=>B i c)=(fun i=>dot W (fun w=>B w i) m):=funext fun i=>dc W _ _
 rw[a];grind
theorem Settles.work{fr:Nat->Bool}{f a m b:Vec}(h:Settles W n B c e fr f a m)(g:∀w,w<W->fr w=false->b w=0):dot W a b= -(dot n (tOf W B c e m) (sOf W B b)):=by
 rw[<-Qip];refine Qac W a b _ b (fun w d=>?_);cases hf:fr w with
 |false=>rw[g w d hf];grind
 |true=>rw[h.2 w d hf]
theorem clapeyron{fr:Nat->Bool}{a m:Vec}(h:Settles W n B c (fun _=>0) fr (fun _=>0) a m)(b:∀i,i<n->c i≠0):dot W a m= -(dot n (tOf W B c (fun _=>0) m) (fun i=>tOf W B c (fun _=>0) m i / c i)):=by
 rw[h.work (fun w d f=>h.1 w d f)]
 congr 1
 refine Qac n _ _ _ _ (fun i g=>?_);have:=b i g;unfold tOf;grind
theorem least{fr:Nat->Bool}{m u:Vec}(b:∀w,w<W->fr w=false->m w=0)(d:∀w,w<W->fr w=true->putF n B u w=0)(f:∀i,i<n->c i≠0):dot n (tOf W B c (fun _=>0) m) (fun i=>u i / c i)=0:=by
 have g:dot W (putF n B u) m=0:=Qa2 W _ _ (fun w a=>by
  cases hf:fr w with
  |false=>rw[b w a hf];grind
  |true=>rw[d w a hf];grind)
 rw[Qip] at g;have h:dot n u (sOf W B m)=dot n (tOf W B c (fun _=>0) m) (fun i=>u i / c i):=by
  refine Qac n _ _ _ _ (fun i j=>?_);have:=f i j;unfold tOf;grind
 rw[<-h];grind
def frs(fr:Nat->Bool)(W:Nat):List Nat:=(List.range W).filter fr
theorem frs_succ(fr:Nat->Bool)(W:Nat):frs fr (W+1)=if fr W=true then frs fr W++ [W] else frs fr W:=by
 unfold frs;rw[List.range_succ,List.filter_append];cases h:fr W<;>simp[h]
theorem frs_mem{fr:Nat->Bool}{W w:Nat}:w∈ frs fr W↔w<W/\fr w=true:=by
 unfold frs;rw[List.mem_filter,List.mem_range]
theorem frs_len(fr:Nat->Bool)(W:Nat):(frs fr W).length<=W:=by
 unfold frs;exact Nat.le_trans (List.length_filter_le _ _) (by rw[List.length_range];exact Nat.le_refl _)
theorem dot_frs(fr:Nat->Bool)(f g:Vec):∀W,dot W f (fun w=>if fr w=true then g w else 0)=dot (frs fr W).length (fun j=>f ((frs fr W).getD j 0)) (fun j=>g ((frs fr W).getD j 0))
 |0=>rfl
 |W+1=>by
  have h:=dot_frs fr f g W;rw[frs_succ];have e:dot (W+1) f (fun w=>if fr w=true then g w else 0)=dot W f (fun w=>if fr w=true then g w else 0)+f W*(if fr W=true then g W else 0):=rfl;rw[e,h];cases hf:fr W with
  |false=>simp;grind
  |true=>
   simp only[if_true,List.length_append,List.length_cons,List.length_nil,Nat.zero_add];generalize frs fr W=l;have a:dot (l.length+1) (fun j=>f ((l++ [W]).getD j 0)) (fun j=>g ((l++ [W]).getD j 0))=dot l.length (fun j=>f ((l++ [W]).getD j 0)) (fun j=>g ((l++ [W]).getD j 0))+f ((l++ [W]).getD l.length 0)*g ((l++ [W]).getD l.length 0):=rfl;rw[a,show (l++ [W]).getD l.length 0=W by simp]
   congr 1
   refine Qac _ _ _ _ _ (fun j b=>?_);rw[show (l++ [W]).getD j 0=l.getD j 0 by simp[List.getElem?_append_left b]]
theorem put_on{fr:Nat->Bool}{m m0:Vec}(b:∀w,w<W->fr w=true->m0 w=0)(d:∀w,w<W->fr w=false->m w=m0 w)(w:Nat):
 putF n B (tOf W B c e m) w=putF n B (tOf W B c e m0) w - dot (frs fr W).length (fun j=>stf n B c w ((frs fr W).getD j 0)) (fun j=>m ((frs fr W).getD j 0)):=by
 have f:∀i,sOf W B m i=sOf W B m0 i - dot (frs fr W).length (fun j=>B ((frs fr W).getD j 0) i) (fun j=>m ((frs fr W).getD j 0)):=fun i=>by
  rw[<-dot_frs fr (fun w=>B w i) m W];unfold sOf;have e:dot W (fun w=>B w i) m=dot W (fun w=>B w i) (fun w=>m0 w+if fr w=true then m w else 0):=by
   refine Qac _ _ _ _ _ (fun v a=>?_);cases hf:fr v with
   |false=>rw[d v a hf];simp;grind
   |true=>rw[b v a hf];simp;grind
  rw[e,d_add];grind
 have g:dot (frs fr W).length (fun j=>stf n B c w ((frs fr W).getD j 0)) (fun j=>m ((frs fr W).getD j 0))=dot n (B w) (fun i=>c i*dot (frs fr W).length (fun j=>B ((frs fr W).getD j 0) i) (fun j=>m ((frs fr W).getD j 0))):=by
  generalize (fun j=>m ((frs fr W).getD j 0))=x;generalize (frs fr W).length=L;have h:(fun j=>stf n B c w ((frs fr W).getD j 0))=(fun j=>dot n (fun i=>c i*B ((frs fr W).getD j 0) i) (B w)):=funext fun j=>dc n _ _
  rw[h,dc,d_swap L n (fun j i=>c i*B ((frs fr W).getD j 0) i) x (B w)];refine Qac _ _ _ _ _ (fun i _=>?_);rw[d_mul,dc L x]
 rw[g];unfold putF;rw[<-Qge];refine Qac _ _ _ _ _ (fun i _=>?_);unfold tOf;rw[f];grind
end Giv
def FB(q:Rat)(k:Nat)(w:Vz)(g:Nat):Prop:=∃x y z,SB w g 107 #[x,y,z]/\FF q k (.agg #[x,y,z]) w
theorem FB.below{q:Rat}{k:Nat}{w w':Vz}{g:Nat}(h:FB q k w g)(a:Bl w w'):FB q k w' g:=by
 obtain⟨x,y,z,b,c⟩:=h;exact⟨x,y,z,b.below a b.lt,c.below a⟩
theorem FB.mono{q:Rat}{k j:Nat}{w:Vz}{g:Nat}(h:FB q k w g)(a:k<=j):FB q j w g:=by
 obtain⟨x,y,z,b,c⟩:=h;exact⟨x,y,z,b,c.mono a⟩
theorem FB.set{q p:Rat}{k j:Nat}{w:Vz}{g:Nat}{x y z:Value}(h:FB q k w g)(b:FF p j (.agg #[x,y,z]) w):FB p j (((w.setCell ⟨g,0,none⟩ x).setCell ⟨g,1,none⟩ y).setCell ⟨g,2,none⟩ z) g:=by
 obtain⟨d,e,f,c,a⟩:=h;have l:NoU64 #[d,e,f]:=fun i n=>by
  have:=a.1.no64 n
  match i with
  |0=>simpa using this.1
  |1=>simpa using this.2.1
  |2=>simpa using this.2.2
  |i+3=>simp
 refine⟨x,y,z,?_,?_,b.2⟩
 . have:=((c.set 0 x).set 1 y).set 2 z
   simpa using this
 . exact b.1.only ((((Only.refl g w).setCell 0 _).setCell 1 _).setCell 2 _) c l
theorem Qpj{a b:List FE}{k:Nat}{e s:FE}(c:a[k]?=some e)(d:b[k]?=some s):dot (k+1) (qAt a) (qAt b)=dot k (qAt a) (qAt b)+e.q*s.q:=by
 show dot k (qAt a) (qAt b)+qAt a k*qAt b k=_
 rw[Qbc c,Qbc d]
theorem Qpk(a a':Vx)(U cap' n m l p:Nat)(D E:List FE)(w:Vz)(h:QRow w a U D)(h':QRow w a' cap' E)(hn:D.length=n)(hm:E.length=m)(a7:n<=m)(a8:m<=1000)(k1:∀t,t∈ D->t.k<=l)(k2:∀t,t∈ E->t.k<=p)(r:n*(l+p+1)+1<68719476000):
 Calls prog 116 #[.slice a n U,.slice a' m cap'] w (Makes w (FF (dot n (qAt D) (qAt E)) (n*(l+p+1)+1))):=by
 obtain⟨HH,HG,HN,aq,ar,HK⟩:=Ie h h' (And.intro hn hm) k1 k2 r;clear h h' hn hm k1 k2 r;go_enter func116,ntmps116;go_wp2_with fail;obtain⟨W,hW⟩:=nm ((w.alloc (.cells #[.bool false,.slice none 0 0,.slice none 0 0] 107)).alloc (.cells #[.bool false,.slice none 0 0,.slice none 0 0] 107));have au:=Ub hW;have av:=Ud hW;have V:O (FB 0 1 W (w.heap.size+1)):=Hi ⟨_,_,_,by rw[<-hW];exact SB.new2 w _ _ _ _,FF.zero _⟩;obtain⟨G,hG⟩:=nm (w.heap.size+1);rw[hG] at V;have X:O (w.heap.size<G):=Hi (by omega);obtain⟨aw,ax⟩:=Ia hW hG;clear hW hG
 try rw[aw.o]
 try simp only[ax.o]
 go_loopw [9] (fun iv wr=>∃k:Nat,k<=n/\iv=.int .i64 k/\FB (dot k (qAt D) (qAt E)) (k*(l+p+1)+1) wr G/\SB wr w.heap.size 107 #[.bool false,.slice none 0 0,.slice none 0 0]/\Below w.heap.size w wr) (fun iv _=>n - (intOf iv).toNat)
 case atStart=>exact⟨0,by omega,rfl,by simpa [dot] using V.o,av.o,au.o⟩
 case round=>
  obtain⟨k,hk,rfl,Y,hr,b⟩:=hrel;obtain⟨Z,Q,F⟩:=Ib b Y hr;clear b Y hr;by_cases a9:k<n
  .
   obtain⟨e,he⟩:∃e,D[k]?=some e:=⟨D[k]'(by have:=HN.o;omega),gE (by have:=HN.o;omega)⟩;obtain⟨s,hs⟩:∃s,E[k]?=some s:=⟨E[k]'(by have:=HN.o;omega),gE (by have:=HN.o;omega)⟩;obtain⟨fb,ba,rfl,aa,D0,D1,D2⟩:=HH.o.at he;obtain⟨sb,a5,rfl,ab,E0,E1,E2⟩:=HG.o.at hs;obtain⟨HX,HY,R,ay,az,a0,ad,ae,af⟩:=Ih (FF.mono (HH.o.get he) (aq.o e (mO he))) (FF.mono (HG.o.get hs) (ar.o s (mO hs))) (Qpj he hs) D0 D1 D2 E0 E1 E2;obtain⟨d0,d1,d2⟩:=Jb Z.o aa D0 D1 D2;have q1:((k:Int)<(n:Int)):=by omega
   have q2:((k:Int)<(m:Int)):=by omega
   clear he hs D0 D1 D2 E0 E1 E2;go_wp2_with fail;refine Makes.use ((HX.o.below Z.o).isZero) ?_;intro v4 w4 b hv;obtain rfl:v4=.bool (decide (e.q=0)):=hv;obtain⟨H,I,M⟩:=Ib (Z.o.trans (b.mono Z.o.size)) (Q.o.below b) (F.o.below b F.o.lt);clear b d0 d1 d2 Q F;by_cases J:e.q=0
   .
    rw[decide_eq_true J];have HE:O (dot (k+1) (qAt D) (qAt E)=dot k (qAt D) (qAt E)):=Hi (by rw[R.o,J];grind);clear J;go_wp2;go_roundw
    case rel=>exact⟨k+1,by omega,by go_num,by rw[HE.o];exact I.o.mono (by rw[Nat.succ_mul];omega),M.o,H.o⟩
    case measure=>simp[intOf];omega
   .
    rw[decide_eq_false J];obtain⟨d0,d1,d2⟩:=Jb H.o ab ad.o ae.o af.o;clear J;go_wp2_with fail;refine Makes.use ((HY.o.below H.o).isZero) ?_;intro v5 w5 b hv;obtain rfl:v5=.bool (decide (s.q=0)):=hv;obtain⟨S,A,N⟩:=Ib (H.o.trans (b.mono H.o.size)) (I.o.below b) (M.o.below b M.o.lt);clear b d0 d1 d2 I M;by_cases J:s.q=0
    .
     rw[decide_eq_true J];have HE:O (dot (k+1) (qAt D) (qAt E)=dot k (qAt D) (qAt E)):=Hi (by rw[R.o,J];grind);clear J;go_wp2;go_roundw
     case rel=>exact⟨k+1,by omega,by go_num,by rw[HE.o];exact A.o.mono (by rw[Nat.succ_mul];omega),N.o,S.o⟩
     case measure=>simp[intOf];omega
    .
     rw[decide_eq_false J];clear J;go_wp2_with fail;obtain⟨x,y,z,f,B⟩:=A.o;have C:Bl w5 w5.drew:=bR.drew;have g:=f.below C f.lt;obtain⟨ag,ah,ai⟩:=Ib (g.cell 0) (g.cell 1) (g.cell 2);simp only[List.getElem?_toArray,List.getElem?_cons_zero,List.getElem?_cons_succ] at ag ah ai;obtain⟨T,P,d,aj,ak⟩:=Id g (B.below C) (S.o.trans (C.mono S.o.size)) (A.o.below C) (N.o.below C N.o.lt);have al:k*(l+p+1)+1+(l+p)<68719476000:=by
      have:=HK.o;have h2:(k+1)*(l+p+1)<=n*(l+p+1):=Nat.mul_le_mul_right _ (by omega);rw[Nat.succ_mul] at h2;omega
     have a1:=Hi al;have a2:O (l+p<68719476000):=Hi (by omega);clear f g B C al A N;refine RegG.bg 11 (fun j=>some (26+j)) ?_;refine RegG.pu (c:=?_) [] (fun w b=>?_) ?_;rotate_left
     .
      intro K r;obtain⟨d0,d1,d2⟩:=Jb b T.o.lt ag.o ah.o ai.o;go_simp;exact r
     refine RegG.p0 [] ?_;refine RegG.p0 [] ?_;refine RegG.p0 [1,2] ?_;refine RegG.pu (c:=?_) [3] (fun w b=>?_) ?_;rotate_left
     .
      intro K r;have hz:=d.o.trans (b.mono d.o.size);obtain⟨d0,d1,d2⟩:=Jb hz aa ay.o az.o a0.o;go_simp;exact r
     refine RegG.p0 [] ?_;refine RegG.p0 [] ?_;refine RegG.p0 [5,6] ?_;refine RegG.pu (c:=?_) [7] (fun w b=>?_) ?_;rotate_left
     .
      intro K r;have hz:=d.o.trans (b.mono d.o.size);obtain⟨d0,d1,d2⟩:=Jb hz ab ad.o ae.o af.o;go_simp;exact r
     refine RegG.ca (φ:=FF (e.q*s.q) (l+p)) [4,8] (FF.stays _ _) (fun w b=>?_) ?_
     .
      intro K r;go_simp;exact Makes.use ((HX.o.below (d.o.trans (b.mono d.o.size))).times (HY.o.below (d.o.trans (b.mono d.o.size))) a2.o) r
     refine RegG.ca (φ:=FF (dot k (qAt D) (qAt E)+e.q*s.q) (k*(l+p+1)+1+(l+p)+1)) [0,9] (FF.stays _ _) (fun w b=>?_) ?_
     .
      intro v9 h9;intro K r;go_simp;exact Makes.use ((P.o.below b).plus h9 a1.o) r
     refine RegG.last (by simp only[List.nil_append,List.cons_append,List.length_append,List.length_cons,List.length_nil,Nat.reduceAdd]) (by rfl) (by rfl) (by kernel_rfl) (fun x2 b=>?_);simp only[FinG,List.nil_append,List.cons_append,Qad,Act.put,List.setIfInBounds_toArray,List.set_cons_zero,List.set_cons_succ,Nat.reduceAdd,Nat.reduceBEq,cond_true,cond_false];intro v9 _ bb L K r;obtain⟨x',y',z',rfl⟩:=L.parts;obtain⟨o1,o2,o3⟩:=L.1.one;have am:=Qaa prog o1;have an:=Qaa prog o2;have ao:=Qaa prog o3;have u:=T.o.below b T.o.lt;have f0:=u.free 0;have f1:=u.free 1;have f2:=u.free 2;have c0:=u.cell 0;have c1:=u.cell 1;have c2:=u.cell 2;simp only[List.getElem?_toArray,List.getElem?_cons_zero,List.getElem?_cons_succ] at c0 c1 c2;obtain⟨a6,ap,a3⟩:=Ib L ((aj.o.below b).set L) (ak.o.below b ak.o.lt)
     have a4:=Hi (d.o.trans (b.mono d.o.size));clear o1 o2 o3 u L b;go_simp;refine r _ _ ?_;clear r c0 c1 c2 f0 f1 f2 am an ao;go_wp2;go_roundw
     case rel=>
      have ho:=((((Only.refl G x2).setCell 0 x').setCell 1 y').setCell 2 z');exact⟨k+1,by omega,by go_num,by rw[R.o,show (k+1)*(l+p+1)+1=k*(l+p+1)+1+(l+p)+1 by rw[Nat.succ_mul];omega];exact ap.o,a3.o.only ho (by have:=X.o;omega),Only.fresh a4.o ho (Nat.le_of_lt X.o)⟩
     case measure=>simp[intOf];omega
  .
   obtain rfl:k=n:=by omega
   obtain⟨x,y,z,f,B⟩:=Q.o;have c0:=f.cell 0;have c1:=f.cell 1;have c2:=f.cell 2;have r0:=F.o.cell 0;have r1:=F.o.cell 1;have r2:=F.o.cell 2;have f0:=F.o.free 0;have f1:=F.o.free 1;have f2:=F.o.free 2;simp only[List.getElem?_toArray,List.getElem?_cons_zero,List.getElem?_cons_succ] at c0 c1 c2 r0 r1 r2;obtain⟨o1,o2,o3⟩:=B.1.one;have am:=Qaa prog o1;have an:=Qaa prog o2;have ao:=Qaa prog o3;have P:=Hi B;clear f B o1 o2 o3;go_wp2;have ho:=((((Only.refl w.heap.size wr).setCell 0 x).setCell 1 y).setCell 2 z);refine bodyPost_ret (v:=.agg #[x,y,z]) (results_cell_row rfl _ _ w.heap.size 107 #[x,y,z] (0,0) _ rfl (((F.o.set 0 x).set 1 y).set 2 z) underlying107 rfl Tryz.fracInfo) rfl ?_;refine⟨_,rfl,Only.fresh Z.o ho lZ,P.o.1.only ho F.o ?_,P.o.2⟩;intro i n
   match i with
   |0=>simp
   |1=>simp
   |2=>simp
   |i+3=>simp
theorem Qpl:(prog.info? 4).map (fun i=>(i.zero,i.size,i.bytes))=some (some (.bool false),1,1):=by kernel_rfl
theorem Qpm:(prog.info? 3).map (fun i=>(i.zero,i.size,i.bytes))=some (some (.int .i64 0),1,8):=by kernel_rfl
def boolsV(l:List Bool):List Value:=l.map Value.bool
theorem Qpn(n:Nat):madeCells #[Value.bool false] n=(boolsV (List.replicate n false)).toArray:=by
 unfold madeCells boolsV;apply Array.ext
 . simp
 . intro i a b
   simp[Nat.mod_one]
theorem Qpo(n:Nat)(a:n<=1000)(w:Vz):
 (Instr.makeSlice 210 (.int .i64 n) (.int .i64 n)).run prog w=.ok (.slice (some ⟨w.heap.size,0,none⟩) n n) (w.alloc (.cells (boolsV (List.replicate n false)).toArray 4)):=by
 rw[<-Qpn];exact Go.run_make_row' 210 4 (.bool false) 1 underlying210 Qpl rfl .i64 .i64 n (by omega) (by omega) w
theorem SB.boolAt{w:Vz}{g:Nat}{t:Vr}{l:List Bool}(h:SB w g t (boolsV l).toArray)(i:Nat):w.cell? ⟨g,i,none⟩=(l[i]?).map Value.bool:=by
 rw[h.cell];simp[boolsV]
abbrev IG(w:Vz)(B:Nat)(v:Value)(l:Vy):Prop:=Grow w B 3 1 IsI v l.length (l.map (fun n:Nat=>Value.int .i64 n))
theorem IG.app{w:Vz}{B nb c:Nat}{v:Value}{l:Vy}{x:Nat}(h:IG w B v l)(k:w.cell? ⟨nb,0,none⟩=some (.int .i64 x))(y:l.length<=1000)(hB:B<=w.heap.size)(ty:Vr):
 ∃b w',appR prog 155 ty v (.slice (some ⟨nb,0,none⟩) 1 c) w=.ok b w'/\IG w' B b (l++ [x])/\Below B w w'/\w.grownBy w' v.ownBlock:=by
 obtain⟨i,m,n⟩:=Option.map_eq_some_iff.1 Qpm;injection n with o d
 injection d with d p
 obtain⟨b,w',q,r,f,_⟩:=Grow.app h (P:=prog) (t:=155) (ty:=ty) underlying155 m o d p rfl (by decide) (fun u a=>⟨_,by simpa [Value.cells] using a⟩) ⟨nb,0,none⟩ 1 c [.int .i64 x] rfl (fun j u e=>by
  match j,e with
  |0,e=>
   obtain rfl:=Option.some.inj e
   exact k) (fun u a=>by obtain rfl:=List.mem_singleton.1 a;rfl) (fun u a=>by obtain rfl:=List.mem_singleton.1 a;exact⟨_,rfl⟩) (by omega) (by decide) hB
 refine⟨b,w',q,?_,Qdm f (fun g s=>(h.lt s).1) hB,f⟩
 show Grow _ _ _ _ _ _ (l++ [x]).length ((l++ [x]).map _)
 rw[List.length_append,List.length_singleton,List.map_append];exact r
theorem IG.slice{w:Vz}{B:Nat}{v:Value}{l:Vy}(h:IG w B v l):∃a b,v=.slice a l.length b/\CRow w a (l.map (fun n:Nat=>Value.int .i64 n)):=by
 obtain⟨a,b,e,_,c,_⟩:=Grow.slice h;exact⟨a,b,e,c⟩
theorem Qpp{w w':Vz}{b:Nat}{t:Vr}{C:Vw}{row:Option Nat}(h:SB w b t C)(c:w.grownBy w' row)(a:some b≠row):SB w' b t C:=by
 have hl:=h.lt;unfold SB at h ⊢;rw[c.block b hl a];exact h
def freeW(vh:Vy)(w:Nat):Bool:=!(vh.contains w)
theorem Qpq{vh:Vy}{k r n:Nat}(b:vh[k]?=some r)(c:r<n):((List.range n).map (fun w=>(vh.take k).contains w)).set r true=(List.range n).map (fun w=>(vh.take (k+1)).contains w):=by
 apply List.ext_getElem?;intro i;rw[List.getElem?_set,List.take_add_one,b];by_cases a:r=i
 . subst a
   simp[c]
 .
  rw[if_neg a];rcases Nat.lt_or_ge i n with h|h
  . simp[List.getElem?_range h,a,Ne.symm a]
  . simp[List.getElem?_eq_none (by simpa using h:(List.range n).length<=i)]
theorem Qpr(a1 a2 a3:Vx)(c1 c2 c3 nb N:Nat)(t:List S2)(b:List H3)(vh:Vy)(w:Vz)(hf:ARow H3.cells w a3 c3 b)(n1:t.length<=10)(n3:b.length<=20)(hl:vh.length=b.length)(hv:∀(i:Nat) (h:H3) (r:Nat),b[i]?=some h->vh[i]?=some r->HoldV t.length h r)(hN:2*t.length=N):
 Calls prog 111 #[.agg #[.slice a1 t.length c1,.slice a2 nb c2,.slice a3 b.length c3]] w fun e w'=>∃v,e=.returned v/\IG w' w.heap.size v (Giv.frs (freeW vh) N)/\Below w.heap.size w w':=by
 obtain⟨V,hV⟩:=nm (w.alloc (.cells #[.slice a1 t.length c1,.slice a2 nb c2,.slice a3 b.length c3] 26));have u:Bl w V:=by rw[<-hV];exact(Below.refl _ _).alloc lZ _
 have I:=Uc hV;obtain⟨HF,J,K,ai,HL,HN,L⟩:=If (hf.below u) u hV hv hl hN (Qb6 a1 a2 a3 c1 c2 c3 t.length nb b.length V n1);have aw:N<=20:=by omega
 clear hf u hV hv hl hN;go_enter func111,ntmps111;go_wp2_with fail;rw[K.o];go_fit L.o;rintro e M ⟨rfl,g⟩;have eN:2*(t.length:Int)=(N:Int):=by have:=HN.o;omega
 rw[eN];have P:=Qpo N (by omega) M;obtain⟨V1,l⟩:=nm (M.alloc (.cells (boolsV (List.replicate N false)).toArray 4));have d:Bl M V1:=by rw[<-l];exact(Below.refl _ _).alloc lZ _
 have Q:=Uc l;have R:=Hi (g.trans (d.mono g.size));have k2:=(I.o.below R.o I.o.lt).cell 2;simp only[List.getElem?_toArray,List.getElem?_cons_zero,List.getElem?_cons_succ] at k2;obtain⟨G,hG⟩:=nm M.heap.size;have aj:O (V.heap.size<=G):=Hi (by rw[<-hG];exact g.size);rw[hG] at Q P;rw[l] at P;clear g d l L K hG eN;go_wp2_with fail;go_loopw [14] (fun y wr=>∃k:Nat,k<=b.length/\y=.int .i64 k/\SB wr G 4 (boolsV ((List.range N).map (fun x=>(vh.take k).contains x))).toArray/\Below V.heap.size V wr) (fun y _=>b.length - (intOf y).toNat)
 case atStart=>
  refine⟨0,by omega,rfl,?_,R.o⟩;have e:(List.range N).map (fun x=>(vh.take 0).contains x)=List.replicate N false:=by
   apply List.ext_getElem?;intro i;rw[List.getElem?_map,List.getElem?_replicate];rcases Nat.lt_or_ge i N with h|h
   . rw[List.getElem?_range h,if_pos h]
     rfl
   . rw[if_neg (by omega),List.getElem?_eq_none (by simpa using h)]
     rfl
  rw[e];exact Q.o
 case round=>
  obtain⟨k,hk,rfl,a,S⟩:=hrel;obtain⟨z,HB⟩:=Ia a S;clear a S;by_cases ak:k<b.length
  .
   obtain⟨h,hh⟩:∃h,b[k]?=some h:=⟨b[k],gE ak⟩;obtain⟨r,hr⟩:∃r,vh[k]?=some r:=⟨vh[k]'(by have:=HL.o;omega),gE (by have:=HL.o;omega)⟩;obtain⟨j,hj,ax,A⟩:=(ai.o k h r hh hr).ex;obtain⟨ay,az,rfl,a0,d0,d1,d2⟩:=(HF.o.below HB.o).hold hh;rw[hj] at d0;obtain⟨X,hX⟩:=nm (wr.alloc (.cells #[.int .i64 j,.int .i64 h.w,.string h.q] 86));have B:Bl wr X:=by rw[<-hX];exact(Below.refl _ _).alloc lZ _
   obtain⟨T,U,W,al⟩:=Ic (Qe2 j h.w h.q X (by omega)) (HB.o.trans (B.mono HB.o.size)) (z.o.below B z.o.lt) hX;have D:O (r<N):=Hi (by have:=HN.o;rw[A];split<;>omega);have am:O ((if h.w=1 then 2*(j:Int) else 2*(j:Int)+1)=(r:Int)):=Hi (by rw[A];split<;>simp);have HR:=Hi hr;have q1:((k:Int)<(b.length:Int)):=by omega
   clear hh hr hj A hX B;go_wp2_with fail;rw[al.o];go_fit T.o;rintro e w2 ⟨rfl,d⟩;rw[am.o];have m:=W.o.below d W.o.lt;have Z:=m.boolAt r;have f0:=m.free r;rw[List.getElem?_map,List.getElem?_range D.o,Option.map_some,Option.map_some] at Z;have q2:((r:Int)<(N:Int)):=by have:=D.o;omega
   obtain⟨an,ao⟩:=Ia m (U.o.trans (d.mono U.o.size));clear m d T d0 d1 d2;go_wp2;go_roundw
   case rel=>
    refine⟨k+1,by omega,by go_num,?_,Only.fresh ao.o ((Only.refl G w2).setCell r _) aj.o⟩;have E:=an.o.set r (.bool true);rw[List.setIfInBounds_toArray] at E;have e:(boolsV ((List.range N).map (fun x=>(vh.take k).contains x))).set r (.bool true)=boolsV ((List.range N).map (fun x=>(vh.take (k+1)).contains x)):=by
     rw[<-Qpq HR.o D.o];unfold boolsV;rw[List.map_set]
    rw[e] at E;exact E
   case measure=>simp[intOf];omega
  .
   have e:k=b.length:=by omega
   have a:=z.o;rw[e,<-HL.o,List.take_length] at a;have ap:=Hi a;clear a e;go_wp2_with fail;go_loopw [6,25] (fun ov y wq=>∃i:Nat,i<=N/\y=.int .i64 i/\IG wq w.heap.size ov (Giv.frs (freeW vh) i)/\SB wq G 4 (boolsV ((List.range N).map (fun x=>vh.contains x))).toArray/\Below w.heap.size w wq) (fun _ y _=>N - (intOf y).toNat)
   case atStart=>exact⟨0,by omega,rfl,Grow.nil _ _ _ _ _,ap.o,J.o.trans (HB.o.mono J.o.size)⟩
   case round=>
    obtain⟨i,hi,rfl,F,a,S⟩:=hrel;obtain⟨n,p,s⟩:=Ib F a S;obtain⟨oa,oc,aq,_⟩:=F.slice;subst aq;clear F a S;by_cases aa:i<N
    .
     have Z:=p.o.boolAt i;rw[List.getElem?_map,List.getElem?_range aa,Option.map_some,Option.map_some] at Z;have q1:((i:Int)<(N:Int)):=by omega
     have ab:=Hi (Giv.frs_succ (freeW vh) i);cases hc:vh.contains i with
     |true=>
      rw[hc] at Z;have HE:O (Giv.frs (freeW vh) (i+1)=Giv.frs (freeW vh) i):=Hi (by rw[ab.o,if_neg (by unfold freeW;rw[hc];decide)]);clear hc;go_wp2;go_roundw
      case rel=>exact⟨i+1,by omega,by go_num,by rw[HE.o];exact n.o,p.o,s.o⟩
      case measure=>simp[intOf];omega
     |false=>
      rw[hc] at Z;have HE:O (Giv.frs (freeW vh) (i+1)=Giv.frs (freeW vh) i++ [i]):=Hi (by rw[ab.o,if_pos (by unfold freeW;rw[hc];decide)]);obtain⟨Y,hY⟩:=nm (wr.alloc (.cells #[.int .i64 i] 3));have f:Bl wr Y:=by rw[<-hY];exact(Below.refl _ _).alloc lZ _
      have ad:Y.cell? ⟨wr.heap.size,0,none⟩=some (.int .i64 i):=by rw[<-hY];exact Qbd wr _ _
      have H:=s.o.trans (f.mono s.o.size);obtain⟨v',w',ae,af,ag,ah⟩:=IG.app (Grow.below n.o f) (x:=i) (nb:=wr.heap.size) (c:=1) ad (Nat.le_trans (Giv.frs_len _ _) (by omega)) H.size 155;have ar:=Hi (by
       have E:=p.o.below f p.o.lt;exact Qpp E ah (fun e=>by
        obtain⟨C,h2,_⟩:=Grow.sb (Grow.below n.o f) e.symm;unfold SB at E h2;rw[E] at h2;have h3:=Option.some.inj h2;injection h3 with _ h4
        exact absurd h4 (by decide)))
      rw[<-hY] at ae;obtain⟨au,av⟩:=Ia af (H.trans ag);clear hc hY f ad af ag H ah;go_wp2;go_roundw
      case rel=>exact⟨i+1,by omega,by go_num,by rw[HE.o];exact au.o,ar.o,av.o⟩
      case measure=>simp[intOf];omega
    .
     obtain rfl:i=N:=by omega
     go_wp2;go_ret;exact⟨_,rfl,n.o,s.o⟩
def hldM(vh:Vy)(hb:Nat->Rat):Nat->Vec
 |0,_=>0
 |k+1,w=>if vh[k]?=some w then hb k else hldM vh hb k w
structure RB (w:Vz) (g n K:Nat) (x:Vec) (us:List FE):Prop where
 blk:QBlk w g us
 len:us.length=n
 val:∀(i:Nat) (t:FE),us[i]?=some t->t.q=x i/\t.k<=K
theorem RB.below{w w':Vz}{g n K:Nat}{x:Vec}{us:List FE}(h:RB w g n K x us)(a:Bl w w'):RB w' g n K x us:=⟨h.blk.below a,h.len,h.val⟩
theorem RB.new(w:Vz)(n K:Nat)(C:Vw)(hC:C=((List.replicate n FE.zero).flatMap FE.cells).toArray)(b:0<K):RB (w.alloc (.cells C 107)) w.heap.size n K (fun _=>0) (List.replicate n FE.zero):=
 ⟨QBlk.new w n C hC,List.length_replicate,fun i t a=>by
   rw[List.getElem?_replicate] at a
   split at a
   . cases a
     exact⟨rfl,b⟩
   . cases a⟩
theorem RB.set{w:Vz}{g n K k:Nat}{x:Vec}{us:List FE}{a b c:Value}{q:Rat}(h:RB w g n K x us)(hk:k<n)(f:FF q K (.agg #[a,b,c]) w)(y:Vec)(j:∀i,y i=if i=k then q else x i):
 RB (((w.setCell ⟨g,k*3,none⟩ a).setCell ⟨g,k*3+1,none⟩ b).setCell ⟨g,k*3+2,none⟩ c) g n K y (us.set k ⟨a,b,c,q,K⟩):=by
 refine⟨h.blk.set (e:=⟨a,b,c,q,K⟩) (by rw[h.len];exact hk) f,by rw[List.length_set,h.len],fun i t d=>?_⟩;rw[List.getElem?_set] at d;rw[j i]
 split at d
 .
  rename_i e;subst e
  split at d
  . cases d
    exact⟨by rw[if_pos rfl],Nat.le_refl _⟩
  . cases d
 .
  rename_i e;rw[if_neg (fun h=>e h.symm)];exact h.val i t d
theorem RB.at{w:Vz}{g n K k:Nat}{x:Vec}{us:List FE}(h:RB w g n K x us)(hk:k<n):∃a b c,w.cell? ⟨g,k*3,none⟩=some a/\w.cell? ⟨g,k*3+1,none⟩=some b/\w.cell? ⟨g,k*3+2,none⟩=some c/\FF (x k) K (.agg #[a,b,c]) w:=by
 obtain⟨t,d⟩:∃t,us[k]?=some t:=⟨us[k]'(by have:=h.len;omega),gE (by have:=h.len;omega)⟩;obtain⟨b,o,e,_,t0,t1,t2⟩:=h.blk.row.at d;cases e;simp only[Nat.zero_add] at t0 t1 t2;have f:=h.val k t d;refine⟨_,_,_,t0,t1,t2,?_⟩;rw[<-f.1];exact FF.mono (h.blk.row.get d) f.2
theorem RB.cells{w:Vz}{g n K k:Nat}{x:Vec}{us:List FE}{t:FE}(h:RB w g n K x us)(a:us[k]?=some t):w.cell? ⟨g,k*3,none⟩=some t.x/\w.cell? ⟨g,k*3+1,none⟩=some t.y/\w.cell? ⟨g,k*3+2,none⟩=some t.z:=by
 obtain⟨b,o,e,_,t0,t1,t2⟩:=h.blk.row.at a;cases e;simp only[Nat.zero_add] at t0 t1 t2;exact⟨t0,t1,t2⟩
theorem RB.fe{w:Vz}{g n K k:Nat}{x:Vec}{us:List FE}{t:FE}(h:RB w g n K x us)(a:us[k]?=some t):FF (x k) K (.agg #[t.x,t.y,t.z]) w:=by
 have b:=h.val k t a;rw[<-b.1];exact FF.mono (h.blk.row.get a) b.2
theorem RB.get{w:Vz}{g n K k:Nat}{x:Vec}{us:List FE}(h:RB w g n K x us)(hk:k<n):∃t,us[k]?=some t:=⟨us[k]'(by have:=h.len;omega),gE (by have:=h.len;omega)⟩
theorem RB.only{w w':Vz}{g n K a n' K':Nat}{x y:Vec}{us vs:List FE}(h:RB w g n K x us)(c:RB w a n' K' y vs)(d:Only a w w')(b:g≠a):RB w' g n K x us:=⟨h.blk.other c.blk d b,h.len,h.val⟩
theorem Qps(a1 a2 a3:Vx)(c1 c2 c3 nb N:Nat)(u:List S2)(a:List H3)(vh:Vy)(v:Nat->Rat)(w:Vz)(hg:Glob w)(hf:ARow H3.cells w a3 c3 a)(n1:u.length<=10)(n3:a.length<=20)(hl:vh.length=a.length)(hv:∀(i:Nat) (h:H3) (r:Nat),a[i]?=some h->vh[i]?=some r->HoldV u.length h r)(hq:∀(i:Nat) (h:H3),a[i]?=some h->QOf h.q.data.toList (v i)/\h.q.size<=1048576)(hN:2*u.length=N):
 Calls prog 110 #[.agg #[.slice a1 u.length c1,.slice a2 nb c2,.slice a3 a.length c3]] w fun e w'=>∃g us,e=.returned (.slice (some ⟨g,0,none⟩) N N)/\w.heap.size<=g/\RB w' g N 4194305 (hldM vh v a.length) us/\Below w.heap.size w w':=by
 obtain⟨V,hV⟩:=nm (w.alloc (.cells #[.slice a1 u.length c1,.slice a2 nb c2,.slice a3 a.length c3] 26));have m:Bl w V:=by rw[<-hV];exact(Below.refl _ _).alloc lZ _
 have L:=Uc hV;obtain⟨HF,HG,x,M,ae,HL,HN,HQ,P⟩:=Ih (hf.below m) (hg.below m) m hV hv hl hN hq (Qb6 a1 a2 a3 c1 c2 c3 u.length nb a.length V n1);have ao:N<=20:=by omega
 clear hf m hV hv hl hN hg hq;go_enter func110,ntmps110;go_wp2_with fail;rw[M.o];go_fit P.o;rintro e y ⟨rfl,n⟩;have eN:2*(u.length:Int)=(N:Int):=by have:=HN.o;omega
 rw[eN];have z:=Qa3 N (by omega) y;obtain⟨MC,A⟩:=nm (((List.replicate N FE.zero).flatMap FE.cells).toArray);rw[A] at z;obtain⟨V1,p⟩:=nm (y.alloc (.cells MC 107));have Q:Bl y V1:=by rw[<-p];exact(Below.refl _ _).alloc lZ _
 have R:O (RB V1 y.heap.size N 4194305 (fun _=>0) (List.replicate N FE.zero)):=Hi (by rw[<-p];exact RB.new y N 4194305 MC A.symm (by decide));have S:=Hi (n.trans (Q.mono n.size));have k2:=(L.o.below S.o L.o.lt).cell 2;simp only[List.getElem?_toArray,List.getElem?_cons_zero,List.getElem?_cons_succ] at k2;obtain⟨G,hG⟩:=nm y.heap.size;have T:O (V.heap.size<=G):=Hi (by rw[<-hG];exact n.size);rw[hG] at R z;rw[p] at z;clear n Q p P M hG eN A;go_wp2_with fail;go_loopw [12] (fun iv wr=>∃(k:Nat) (us:List FE),k<=a.length/\iv=.int .i64 k/\RB wr G N 4194305 (hldM vh v k) us/\Below V.heap.size V wr) (fun iv _=>a.length - (intOf iv).toNat)
 case atStart=>exact⟨0,_,by omega,rfl,R.o,S.o⟩
 case round=>
  obtain⟨k,us,hk,rfl,U,W⟩:=hrel;obtain⟨Y,HB⟩:=Ia U W;clear U W;by_cases af:k<a.length
  .
   obtain⟨h,hh⟩:∃h,a[k]?=some h:=⟨a[k],gE af⟩;obtain⟨r,hr⟩:∃r,vh[k]?=some r:=⟨vh[k]'(by have:=HL.o;omega),gE (by have:=HL.o;omega)⟩;obtain⟨j,hj,aq,B⟩:=(ae.o k h r hh hr).ex;obtain⟨ar,au,rfl,av,d0,d1,d2⟩:=(HF.o.below HB.o).hold hh;rw[hj] at d0;have Z:=Hi (HQ.o k h hh);obtain⟨X,hX⟩:=nm (wr.alloc (.cells #[.int .i64 j,.int .i64 h.w,.string h.q] 86));have C:Bl wr X:=by rw[<-hX];exact(Below.refl _ _).alloc lZ _
   have D:=Uc hX;have HJ:O (j<=10):=Hi (by omega);have aa:=Hi hX;have E:O (r<N):=Hi (by have:=HN.o;rw[B];split<;>omega);have ag:O ((if h.w=1 then 2*(j:Int) else 2*(j:Int)+1)=(r:Int)):=Hi (by rw[B];split<;>simp);have HR:=Hi hr;have ah:O (∀w,Calls prog 56 #[.agg #[.int .i64 j,.int .i64 h.w,.string h.q]] w (Makes w (Is (.int .i64 r)))):=Hi (fun w=>(Qe2 j h.w h.q w HJ.o).mono (fun e w' h=>⟨_,h.1,h.2,by rw[ag.o];rfl⟩));obtain⟨F,ab⟩:=Ia (HB.o.trans (C.mono HB.o.size)) (Y.o.below C);have q1:((k:Int)<(a.length:Int)):=by omega
   clear hh hr hj B hX C;go_wp2_with fail;rw[aa.o];have s:Bl X X.drew:=bR.drew;have d:=D.o.below s D.o.lt;obtain⟨H,I,J⟩:=Ib (d.cell 0) (d.cell 1) (d.cell 2);simp only[List.getElem?_toArray,List.getElem?_cons_zero,List.getElem?_cons_succ] at H I J;obtain⟨ad,t,ai⟩:=Ib d.lt (F.o.trans (s.mono F.o.size)) (ab.o.below s);clear s d aa D ab F d0 d1 d2;generalize hR0:wr.heap.size=R0 at*;have ap:=Hi hR0;clear hR0;have q2:((r:Int)<(N:Int)):=by have:=E.o;omega
   refine RegG.bg 7 (fun j=>some (16+j)) ?_;refine RegG.p0 [] ?_;refine RegG.pu (c:=?_) [] (fun w f=>?_) ?_;rotate_left
   .
    intro K l;obtain⟨e0,e1,e2⟩:=Jb f ad.o H.o I.o J.o;go_simp;exact l
   refine RegG.ca (φ:=Is (.int .i64 r)) [1] ((fun _ _ _ _ h=>h)) (fun w f=>?_) ?_
   .
    intro K l;go_simp;exact Makes.use (ah.o w) l
   refine RegG.p0 [] ?_;refine RegG.pu (c:=?_) [3] (fun w f=>?_) ?_;rotate_left
   .
    intro K l;obtain⟨e0,e1,e2⟩:=Jb f ad.o H.o I.o J.o;go_simp;exact l
   refine RegG.ca (φ:=FF (v k) 4194305) [4] (FF.stays _ _) (fun w f=>?_) ?_
   .
    intro K l;go_simp;exact Makes.use (FF.of (HG.o.below (t.o.trans (f.mono t.o.size))) Z.o.1 Z.o.2 (by decide) (by decide)) l
   refine RegG.p0 [0,2] ?_;refine RegG.last (by simp only[List.nil_append,List.cons_append,List.length_append,List.length_cons,List.length_nil,Nat.reduceAdd]) (by rfl) (by rfl) (by kernel_rfl) (fun x2 f=>?_);simp only[FinG,List.nil_append,List.cons_append,Qad,Act.put,List.setIfInBounds_toArray,List.set_cons_zero,List.set_cons_succ,Nat.reduceAdd,Nat.reduceBEq,cond_true,cond_false];intro v5 h5 K l;obtain⟨x',y',z',rfl⟩:=h5.parts;obtain⟨o1,o2,o3⟩:=h5.1.one;have aj:=Qaa prog o1;have ak:=Qaa prog o2;have al:=Qaa prog o3;have b:=ai.o.below f;obtain⟨y0,y1,y2,c0,c1,c2,_⟩:=b.at E.o;have f0:=b.blk.blk.free (r*3);have f1:=b.blk.blk.free (r*3+1);have f2:=b.blk.blk.free (r*3+2);have am:=Hi (b.set E.o h5 (hldM vh v (k+1)) (fun i=>by
    show (if vh[k]?=some i then v k else hldM vh v k i)=_
    rw[HR.o];by_cases e:i=r
    . rw[if_pos (by rw[e]),if_pos e]
    . rw[if_neg (fun h=>e (Option.some.inj h).symm),if_neg e]))
   have an:=Hi (t.o.trans (f.mono t.o.size));clear o1 o2 o3 b h5 f;go_simp;refine l _ _ ?_;clear l c0 c1 c2 f0 f1 f2 aj ak al;go_wp2;go_roundw
   case rel=>exact⟨k+1,_,by omega,by go_num,am.o,Only.fresh an.o ((((Only.refl G x2).setCell (r*3) x').setCell (r*3+1) y').setCell (r*3+2) z') T.o⟩
   case measure=>simp[intOf];omega
  .
   obtain rfl:k=a.length:=by omega
   go_wp2;go_ret;exact⟨G,us,rfl,Nat.le_trans x.o.size T.o,Y.o,x.o.trans (HB.o.mono x.o.size)⟩
def NewF(B:Nat):Fact:=fun v w=>∃b,v=.pointer (some ⟨b,0,none⟩)/\B<=b/\SB w b 107 #[.bool false,.slice none 0 0,.slice none 0 0]
theorem NewF.stays(B:Nat):Stays (NewF B):=fun _ _ _ c ⟨b,e,d,a⟩=>⟨b,e,d,a.below c a.lt⟩
def strq(p:Nat × Nat × Rat × Rat)(v:Vec):Rat:=p.2.2.1*(v (2*p.2.1) - v (2*p.1))+p.2.2.2*(v (2*p.2.1+1) - v (2*p.1+1))
def stretchV(vb:List (Nat × Nat × Rat × Rat))(x:Vec):Vec:=fun i=>strq (vb.getD i (0,0,0,0)) x
def firstV(x:Vec)(k:Nat):Vec:=fun i=>if i<k then x i else 0
theorem row_x(j r:Nat)(w:Vz)(a:j<=10)(b:2*j=r):Calls prog 108 #[.int .i64 j] w (Makes w (Is (.int .i64 r))):=
 (Qcu j w a).mono fun e w' ⟨c,d⟩=>⟨_,c,by rw[d];exact Below.refl _ _,by rw[<-b];simp[Is]⟩
theorem row_y(j r:Nat)(w:Vz)(a:j<=10)(b:2*j+1=r):Calls prog 109 #[.int .i64 j] w (Makes w (Is (.int .i64 r))):=
 (Qcv j w a).mono fun e w' ⟨c,d⟩=>⟨_,c,by rw[d];exact Below.refl _ _,by rw[<-b];simp[Is]⟩
theorem Qpt(a1 a2 a3:Vx)(c1 c2 c3 nh gm N y KS:Nat)(js:List S2)(z:List B6)(vb:List (Nat × Nat × Rat × Rat))(x:Vec)(ms:List FE)(w:Vz)(hg:Glob w)(hj:ARow S2.cells w a1 c1 js)(hf:ARow B6.cells w a2 c2 z)(n1:js.length<=10)(n2:z.length<=24)(hl:vb.length=z.length)(hv:∀(i:Nat) (b:B6) (p:Nat × Nat × Rat × Rat),z[i]?=some b->vb[i]?=some p->BarV 1048576 js b p)(hm:RB w gm N y x ms)(hN:2*js.length=N)(d:KS=2*(8388611+(2*y+1))+1)(dv:y<=1000000000):
 Calls prog 115 #[.agg #[.slice a1 js.length c1,.slice a2 z.length c2,.slice a3 nh c3],.slice (some ⟨gm,0,none⟩) N N] w fun e w'=>∃g us,e=.returned (.slice (some ⟨g,0,none⟩) z.length z.length)/\w.heap.size<=g/\RB w' g z.length KS (firstV (stretchV vb x) z.length) us/\Below w.heap.size w w':=by
 obtain⟨V,hV⟩:=nm (w.alloc (.cells #[.slice a1 js.length c1,.slice a2 z.length c2,.slice a3 nh c3] 26));have I:Bl w V:=by rw[<-hV];exact(Below.refl _ _).alloc lZ _
 have ah:=Qa3 z.length (by omega) V;obtain⟨MC,b1⟩:=nm (((List.replicate z.length FE.zero).flatMap FE.cells).toArray);rw[b1] at ah;obtain⟨V1,ai⟩:=nm (V.alloc (.cells MC 107));have b3:Bl V V1:=by rw[<-ai];exact(Below.refl _ _).alloc lZ _
 have b4:O (RB V1 V.heap.size z.length KS (fun _=>0) (List.replicate z.length FE.zero)):=Hi (by rw[<-ai];exact RB.new V z.length KS MC b1.symm (by omega));have cj:=Hi (I.trans (b3.mono I.size));have aj:SB V w.heap.size 26 #[.slice a1 js.length c1,.slice a2 z.length c2,.slice a3 nh c3]:=by rw[<-hV];exact SB.new w _ _
 have ck:=Hi (aj.below b3 aj.lt);have k1:=aj.cell 1;have dw:=ck.o.cell 1;simp only[List.getElem?_toArray,List.getElem?_cons_zero,List.getElem?_cons_succ] at k1 dw;obtain⟨HG,HJ,HF,HM,HV,HL,HN,HK,dz⟩:=Ih hg hj hf (hm.below cj.o) hv hl hN (And.intro d dv) n1;have ea:=Hi hm.blk.blk.lt;obtain⟨G,hG⟩:=nm V.heap.size;have a0:O (w.heap.size<G):=Hi (by rw[<-hG];exact aj.lt);have ep:O (G<V1.heap.size):=Hi (by rw[<-hG];exact b4.o.blk.blk.lt);rw[hG] at b4 ah;obtain⟨eq,eo⟩:=Ia hV ai;rw[ai] at ah;rw[<-hV] at ah k1;clear I hV b3 ai aj b1 hG hg hj hf hv hl hm hN d;go_enter func115,ntmps115;go_wp2_with fail;clear ah k1
 go_loopw [19] (fun iv wr=>∃(k:Nat) (us:List FE),k<=z.length/\iv=.int .i64 k/\RB wr G z.length KS (firstV (stretchV vb x) k) us/\SB wr w.heap.size 26 #[.slice a1 js.length c1,.slice a2 z.length c2,.slice a3 nh c3]/\RB wr gm N y x ms/\Below w.heap.size w wr) (fun iv _=>z.length - (intOf iv).toNat)
 case atStart=>
  refine⟨0,List.replicate z.length FE.zero,by omega,rfl,?_,ck.o,HM.o,cj.o⟩;have e:firstV (stretchV vb x) 0=fun _=>0:=funext fun i=>by unfold firstV;rw[if_neg (by omega)]
  rw[e];exact b4.o
 case round=>
  obtain⟨k,us,hk,rfl,cl,ak,cm,R⟩:=hrel;obtain⟨cn,a4,eb,HB⟩:=Ic cl ak cm R;clear cl ak cm R;by_cases b5:k<z.length
  .
   obtain⟨b,b6⟩:∃b,z[k]?=some b:=⟨z[k],gE b5⟩;obtain⟨p,hp⟩:∃p,vb[k]?=some p:=⟨vb[k]'(by have:=HL.o;omega),gE (by have:=HL.o;omega)⟩;have I:=HV.o k b p b6 hp;obtain⟨s,t,x1,y1,x2,y2,e1,e2,z1,z2,z3,z4,q1,q2,q3,q4,ex,ey⟩:=I.ex;obtain⟨bb,bo,rfl,er,d0,d1,d2,d3,d4,d5⟩:=(HF.o.below HB.o).bar b6;obtain⟨A,hA⟩:=nm p.1;obtain⟨B,hB⟩:=nm p.2.1;have a5:=I.a;have R:=I.b;rw[hA] at a5 e1;rw[hB] at R e2;have ec:=(gZ e1).1;have ed:=(gZ e2).1;have cp:O (A<=10):=Hi (by omega);have cq:O (B<=10):=Hi (by omega);obtain⟨X,hX⟩:=nm (wr.alloc (.cells #[.int .i64 b.a,.int .i64 b.b,.string b.c,.string b.e,.string b.l,.string b.m] 84));have a6:Bl wr X:=by rw[<-hX];exact(Below.refl _ _).alloc lZ _
   have cr:SB X wr.heap.size 84 #[.int .i64 b.a,.int .i64 b.b,.string b.c,.string b.e,.string b.l,.string b.m]:=by rw[<-hX];exact SB.new wr _ _
   have a7:=Hi (HB.o.trans (a6.mono HB.o.size));have b7:=Hi (Qhl a1 (some ⟨bb,bo,none⟩) a3 c1 c2 c3 z.length nh A B 1048576 js b s t X (HG.o.below a7.o) (HJ.o.below a7.o) a5 R e1 e2 dz.o z1 z2 z3 z4 (by decide) q1 q2 q3 q4);rw[<-ex,<-ey] at b7;have kf:=a4.o.below a6 a4.o.lt;have x0:=kf.cell 0;have b8:=kf.cell 1;have b9:=kf.cell 2;simp only[List.getElem?_toArray,List.getElem?_cons_zero,List.getElem?_cons_succ] at x0 b8 b9;rw[<-hX] at x0 b8 b9;obtain⟨cb,cs⟩:=Ia cr hX;have q5:((k:Int)<(z.length:Int)):=by omega
   obtain⟨ee,ct,a8⟩:=Ib hp a6 (And.intro hA (And.intro hB (And.intro a5 R)));have a9:O (2*A+1<N/\2*B+1<N):=Hi (by have:=HN.o;omega);clear b6 hp I e1 e2 z1 z2 z3 z4 q1 q2 q3 q4 ex ey hA hB a5 R hX a6 cr kf ec ed;go_wp2_with fail;rw[cs.o];go_fit b7.o;rintro e w1 ⟨v1,v2,v3,u1,u2,u3,rfl,W⟩;have cu:FF p.2.2.1 8388611 (.agg #[v1,v2,v3]) w1:=W.get (List.Mem.tail _ (List.Mem.head _));have cv:FF p.2.2.2 8388611 (.agg #[u1,u2,u3]) w1:=W.get (List.Mem.head _);obtain⟨HX,HY⟩:=Ia cu cv;obtain⟨⟨nx,ax,lx,cx,bx,mx,dx,ex,_⟩,_,_⟩:=cu;obtain⟨⟨ny,ay,ly,cy,b2,my,dy,ey,_⟩,_,_⟩:=cv;simp only[Value.agg.injEq,Array.mk.injEq,List.cons.injEq,and_true] at ex ey;obtain⟨rfl,rfl,rfl⟩:=ex;obtain⟨rfl,rfl,rfl⟩:=ey;have cw:=Hi W.base;clear W b7 x0 b8 b9
   obtain⟨V2,al⟩:=nm ((w1.alloc (.cells #[.bool nx,.slice ax lx cx,.slice bx mx dx] 107)).alloc (.cells #[.bool ny,.slice ay ly cy,.slice b2 my dy] 107));have ba:Bl w1 V2:=by rw[<-al];exact Below.new2 w1 _ _
   have cz:FB p.2.2.1 8388611 V2 w1.heap.size:=⟨_,_,_,by
    rw[<-al]
    exact(SB.new w1 _ _).below (bR.alloc lZ _) (by rw[World.size_alloc];omega),HX.o.below ba⟩
   have c4:FB p.2.2.2 8388611 V2 (w1.heap.size+1):=⟨_,_,_,by rw[<-al];exact SB.new2 w1 _ _ _ _,HY.o.below ba⟩;have bl:=Hi al;have bc:=cw.o.trans (ba.mono cw.o.size);obtain⟨bm,c5,c6,c7,am⟩:=Id (a7.o.trans (bc.mono a7.o.size)) (ct.o.trans (bc.mono ct.o.size)) cz c4 (cb.o.below bc cb.o.lt);clear al ba cz c4 bc HX HY;go_wp2_with fail;rw[bl.o];obtain⟨Y,hY⟩:=nm V2.drew;have ae:Bl V2 Y:=by rw[<-hY];exact(Below.refl _ _).drew
   obtain⟨S,c8,bd⟩:=Ib hY (bm.o.trans (ae.mono bm.o.size)) (c5.o.trans (ae.mono c5.o.size));have be:=am.o.below ae am.o.lt;obtain⟨D,E,F⟩:=Ib be.lt (be.cell 0) (be.cell 1);simp only[List.getElem?_toArray,List.getElem?_cons_zero,List.getElem?_cons_succ] at E F;rw[a8.o.2.2.1] at E;rw[a8.o.2.2.2] at F;obtain⟨n,bn,bp⟩:=Ib (eb.o.below bd.o) (c6.o.below ae) (c7.o.below ae);obtain⟨J,c9⟩:∃r,2*A=r:=⟨_,rfl⟩;obtain⟨L,da⟩:∃r,2*B=r:=⟨_,rfl⟩;obtain⟨M,db⟩:∃r,2*A+1=r:=⟨_,rfl⟩;obtain⟨P,dc⟩:∃r,2*B+1=r:=⟨_,rfl⟩;obtain⟨dd,bq,de,df⟩:=Ic c9 da db dc;have g1:((J:Int)<(N:Int)):=by have:=a9.o;omega
   have g2:((L:Int)<(N:Int)):=by have:=a9.o;omega
   have g3:((M:Int)<(N:Int)):=by have:=a9.o;omega
   have g4:((P:Int)<(N:Int)):=by have:=a9.o;omega
   obtain⟨ta,dg⟩:=n.o.get (k:=J) (by omega);obtain⟨tb,dh⟩:=n.o.get (k:=L) (by omega);obtain⟨sa,di⟩:=n.o.get (k:=M) (by omega);obtain⟨sb,ak⟩:=n.o.get (k:=P) (by omega);obtain⟨dj,br,af,ag⟩:=Ic di ak dg dh;have dk:O (y+y<68719476000):=Hi (by omega);have bf:=Hi (cn.o.below bd.o);clear hY ae be c9 da db dc dg dh di ak cb am cs bl c6 c7;generalize bh:wr.heap.size=R0 at*;have an:=Hi bh;generalize bi:w1.heap.size=W1 at*;have dl:=Hi bi;clear bh bi;refine RegG.bg 14 (fun j=>bif j == 13 then some 10 else some (30+j)) ?_;rw[S.o];refine RegG.p0 [] ?_;refine RegG.p0 [] ?_;refine RegG.pu (c:=?_) [1] (fun w f=>?_) ?_;rotate_left
   .
    intro K d;obtain⟨e0,e1⟩:=Ja f D.o E.o F.o;go_simp;exact d
   refine RegG.ca (φ:=Is (.int .i64 (L:Nat))) [2] ((fun _ _ _ _ h=>h)) (fun w f=>?_) ?_
   .
    intro K d;go_simp;exact Makes.use (row_x B L w cq.o bq.o) d
   refine RegG.p0 [0,3] ?_;refine RegG.pu (c:=?_) [4] (fun w f=>?_) ?_;rotate_left
   .
    intro K d;obtain⟨d0,d1,d2⟩:=(n.o.below f).cells ag.o;go_simp;exact d
   refine RegG.p0 [] ?_;refine RegG.p0 [] ?_;refine RegG.pu (c:=?_) [7] (fun w f=>?_) ?_;rotate_left
   .
    intro K d;obtain⟨e0,e1⟩:=Ja f D.o E.o F.o;go_simp;exact d
   refine RegG.ca (φ:=Is (.int .i64 (J:Nat))) [8] ((fun _ _ _ _ h=>h)) (fun w f=>?_) ?_
   .
    intro K d;go_simp;exact Makes.use (row_x A J w cp.o dd.o) d
   refine RegG.p0 [6,9] ?_;refine RegG.pu (c:=?_) [10] (fun w f=>?_) ?_;rotate_left
   .
    intro K d;obtain⟨d0,d1,d2⟩:=(n.o.below f).cells af.o;go_simp;exact d
   refine RegG.ca (φ:=FF (x L - x J) (y+y+1)) [5,11] (FF.stays _ _) (fun w f=>?_) ?_
   .
    intro K d;go_simp;exact Makes.use (FF.minus ((n.o.below f).fe ag.o) ((n.o.below f).fe af.o) dk.o) d
   refine RegG.ca (φ:=NewF Y.heap.size) [] (NewF.stays _) (fun w f=>?_) ?_
   .
    intro K d;go_simp;exact d _ _ (bR.alloc lZ _) ⟨_,rfl,f.size,SB.new w _ _⟩
   refine RegG.last (by simp only[List.nil_append,List.cons_append,List.length_append,List.length_cons,List.length_nil,Nat.reduceAdd]) (by rfl) (by rfl) (by kernel_rfl) (fun x2 f=>?_);simp only[FinG,List.nil_append,List.cons_append,Qad,Act.put,List.setIfInBounds_toArray,List.set_cons_zero,List.set_cons_succ,Nat.reduceAdd,Nat.reduceBEq,cond_true,cond_false];intro ef H eg cc K d;obtain⟨ao,rfl,T,u⟩:=cc;obtain⟨x',y',z',rfl⟩:=H.parts;obtain⟨o1,o2,o3⟩:=H.1.one;have ap:=Qaa prog o1;have aq:=Qaa prog o2;have ar:=Qaa prog o3;have f0:=u.free 0;have f1:=u.free 1;have f2:=u.free 2;have c0:=u.cell 0;have c1:=u.cell 1;have c2:=u.cell 2;simp only[List.getElem?_toArray,List.getElem?_cons_zero,List.getElem?_cons_succ] at c0 c1 c2;obtain⟨Z6,hZ⟩:∃Z,((x2.setCell ⟨ao,0,none⟩ x').setCell ⟨ao,1,none⟩ y').setCell ⟨ao,2,none⟩ z'=Z:=⟨_,rfl⟩
   have bj:O (FB (x L - x J) (y+y+1) Z6 ao):=Hi (by rw[<-hZ];exact FB.set ⟨_,_,_,u,FF.zero _⟩ H);have aa:O (Bl Y Z6):=Hi (by rw[<-hZ];exact Only.fresh f ((((Only.refl ao x2).setCell 0 x').setCell 1 y').setCell 2 z') T);obtain⟨au,dt⟩:=Ia hZ T;clear o1 o2 o3 u H f hZ T;go_simp;rw[au.o];refine d _ _ ?_;clear d c0 c1 c2 f0 f1 f2 ap aq ar au;go_wp2_with fail;obtain⟨Y7,cd⟩:=nm Z6.drew;have cf:Bl Z6 Y7:=by rw[<-cd];exact(Below.refl _ _).drew
   have C:=aa.o.trans (cf.mono aa.o.size);obtain⟨bt,dm,dn,dp,dq,bu,bv,dr,bw⟩:=Ih (bj.o.below cf) (ce C D.o E.o) (ce C D.o F.o) (Nat.lt_of_lt_of_le D.o C.size) (n.o.below C) (bn.o.below C) (bp.o.below C) (bf.o.below C) (c8.o.trans (C.mono c8.o.size));have av:=Hi ((a4.o.below (bd.o.trans (C.mono (by rw[<-an.o];exact bd.o.size))) (by rw[<-an.o];exact a4.o.lt)));clear S D E F n af ag bn bp bf;have S:=Hi cd;have D:=dp;have E:=dm;have F:=dn;have n:=dq;have af:=dj;have ag:=br;clear dp dm dn dq dj br cd cf C;refine RegG.bg 14 (fun j=>bif j == 13 then some 11 else some (43+j)) ?_;rw[S.o];refine RegG.p0 [] ?_
   refine RegG.p0 [] ?_;refine RegG.pu (c:=?_) [1] (fun w f=>?_) ?_;rotate_left
   .
    intro K d;obtain⟨e0,e1⟩:=Ja f D.o E.o F.o;go_simp;exact d
   refine RegG.ca (φ:=Is (.int .i64 (P:Nat))) [2] ((fun _ _ _ _ h=>h)) (fun w f=>?_) ?_
   .
    intro K d;go_simp;exact Makes.use (row_y B P w cq.o df.o) d
   refine RegG.p0 [0,3] ?_;refine RegG.pu (c:=?_) [4] (fun w f=>?_) ?_;rotate_left
   .
    intro K d;obtain⟨d0,d1,d2⟩:=(n.o.below f).cells ag.o;go_simp;exact d
   refine RegG.p0 [] ?_;refine RegG.p0 [] ?_;refine RegG.pu (c:=?_) [7] (fun w f=>?_) ?_;rotate_left
   .
    intro K d;obtain⟨e0,e1⟩:=Ja f D.o E.o F.o;go_simp;exact d
   refine RegG.ca (φ:=Is (.int .i64 (M:Nat))) [8] ((fun _ _ _ _ h=>h)) (fun w f=>?_) ?_
   .
    intro K d;go_simp;exact Makes.use (row_y A M w cp.o de.o) d
   refine RegG.p0 [6,9] ?_;refine RegG.pu (c:=?_) [10] (fun w f=>?_) ?_;rotate_left
   .
    intro K d;obtain⟨d0,d1,d2⟩:=(n.o.below f).cells af.o;go_simp;exact d
   refine RegG.ca (φ:=FF (x P - x M) (y+y+1)) [5,11] (FF.stays _ _) (fun w f=>?_) ?_
   .
    intro K d;go_simp;exact Makes.use (FF.minus ((n.o.below f).fe ag.o) ((n.o.below f).fe af.o) dk.o) d
   refine RegG.ca (φ:=NewF Y7.heap.size) [] (NewF.stays _) (fun w f=>?_) ?_
   .
    intro K d;go_simp;exact d _ _ (bR.alloc lZ _) ⟨_,rfl,f.size,SB.new w _ _⟩
   refine RegG.last (by simp only[List.nil_append,List.cons_append,List.length_append,List.length_cons,List.length_nil,Nat.reduceAdd]) (by rfl) (by rfl) (by kernel_rfl) (fun x2 f=>?_);simp only[FinG,List.nil_append,List.cons_append,Qad,Act.put,List.setIfInBounds_toArray,List.set_cons_zero,List.set_cons_succ,Nat.reduceAdd,Nat.reduceBEq,cond_true,cond_false];intro ef H eg cc K d;obtain⟨aw,rfl,T,u⟩:=cc;obtain⟨x',y',z',rfl⟩:=H.parts;obtain⟨o1,o2,o3⟩:=H.1.one;have ap:=Qaa prog o1;have aq:=Qaa prog o2;have ar:=Qaa prog o3;have f0:=u.free 0;have f1:=u.free 1;have f2:=u.free 2;have c0:=u.cell 0;have c1:=u.cell 1;have c2:=u.cell 2;simp only[List.getElem?_toArray,List.getElem?_cons_zero,List.getElem?_cons_succ] at c0 c1 c2;obtain⟨Z7,hZ⟩:∃Z,((x2.setCell ⟨aw,0,none⟩ x').setCell ⟨aw,1,none⟩ y').setCell ⟨aw,2,none⟩ z'=Z:=⟨_,rfl⟩
   have ab:O (FB (x P - x M) (y+y+1) Z7 aw):=Hi (by rw[<-hZ];exact FB.set ⟨_,_,_,u,FF.zero _⟩ H);have ad:O (Bl Y7 Z7):=Hi (by rw[<-hZ];exact Only.fresh f ((((Only.refl aw x2).setCell 0 x').setCell 1 y').setCell 2 z') T);obtain⟨au,du⟩:=Ia hZ T;clear o1 o2 o3 u H f hZ T;go_simp;rw[au.o];refine d _ _ ?_;clear d c0 c1 c2 f0 f1 f2 ap aq ar au;go_wp2_with fail;obtain⟨Y8,cg⟩:=nm Z7.drew;have ch:Bl Z7 Y8:=by rw[<-cg];exact(Below.refl _ _).drew
   have Q:=ad.o.trans (ch.mono ad.o.size);obtain⟨i1,i2,i3,ps,pf⟩:=ab.o.below ch;obtain⟨j1,j2,j3,rs,rf⟩:=bt.o.below Q;obtain⟨l1,l2,l3,ls,lf⟩:=bu.o.below Q;obtain⟨m1,m2,m3,az,mf⟩:=bv.o.below Q;obtain⟨P0,P1,P2,R1,R2,R3,L0,L1,L2⟩:=Ih (ps.cell 0) (ps.cell 1) (ps.cell 2) (rs.cell 0) (rs.cell 1) (rs.cell 2) (ls.cell 0) (ls.cell 1) (ls.cell 2);obtain⟨M0,M1,M2⟩:=Ib (az.cell 0) (az.cell 1) (az.cell 2);simp only[List.getElem?_toArray,List.getElem?_cons_zero,List.getElem?_cons_succ] at P0 P1 P2 R1 R2 R3 L0 L1 L2 M0 M1 M2;obtain⟨bk,PF⟩:=Ia (And.intro ps.lt (And.intro rs.lt (And.intro ls.lt az.lt))) pf;have eh:=Hi rf;obtain⟨LF,MF,bf,bz⟩:=Ic lf mf (dr.o.below Q) (bw.o.trans (Q.mono bw.o.size))
   obtain⟨b0,ds⟩:=Ia (av.o.below Q av.o.lt) (n.o.below Q);have ei:O (∀{q:Rat} {w:Vz} {e:Ending} {w':Vz},Makes w (FF q (8388611+(y+y+1)+(8388611+(y+y+1))+1)) e w'->Makes w (FF q KS) e w'):=Hi (fun ⟨v,h1,h2,h3⟩=>⟨v,h1,h2,h3.mono (by have:=HK.o.1;omega)⟩);have ci:O (8388611+(y+y+1)<68719476000/\8388611+(y+y+1)+(8388611+(y+y+1))<68719476000):=Hi (by omega);clear S;have S:=Hi cg;clear cg ch Q ps rs ls az pf rf lf mf ab bt bu bv dr av n;refine RegG.bg 10 (fun j=>some (56+j)) ?_;rw[S.o];refine RegG.p0 [] ?_;refine RegG.p0 [] ?_;refine RegG.pu (c:=?_) [] (fun w f=>?_) ?_;rotate_left
   .
    intro K d;obtain⟨e0,e1,e2⟩:=Jb f bk.o.2.2.1 L0.o L1.o L2.o;go_simp;exact d
   refine RegG.pu (c:=?_) [] (fun w f=>?_) ?_;rotate_left
   .
    intro K d;obtain⟨e0,e1,e2⟩:=Jb f bk.o.2.1 R1.o R2.o R3.o;go_simp;exact d
   refine RegG.ca (φ:=FF (p.2.2.1*(x L - x J)) (8388611+(y+y+1))) [2,3] (FF.stays _ _) (fun w f=>?_) ?_
   .
    intro K d;go_simp;exact Makes.use (FF.times (LF.o.below f) (eh.o.below f) ci.o.1) d
   refine RegG.pu (c:=?_) [] (fun w f=>?_) ?_;rotate_left
   .
    intro K d;obtain⟨e0,e1,e2⟩:=Jb f bk.o.2.2.2 M0.o M1.o M2.o;go_simp;exact d
   refine RegG.pu (c:=?_) [] (fun w f=>?_) ?_;rotate_left
   .
    intro K d;obtain⟨e0,e1,e2⟩:=Jb f bk.o.1 P0.o P1.o P2.o;go_simp;exact d
   refine RegG.ca (φ:=FF (p.2.2.2*(x P - x M)) (8388611+(y+y+1))) [5,6] (FF.stays _ _) (fun w f=>?_) ?_
   .
    intro K d;go_simp;exact Makes.use (FF.times (MF.o.below f) (PF.o.below f) ci.o.1) d
   refine RegG.ca (φ:=FF (p.2.2.1*(x L - x J)+p.2.2.2*(x P - x M)) KS) [4,7] (FF.stays _ _) (fun w f=>?_) ?_
   .
    intro v4 h4 v7 h7;intro K d;go_simp;exact Makes.use ((FF.plus h4 h7 ci.o.2).mono (fun e w' h=>ei.o h)) d
   refine RegG.p0 [0,1] ?_;refine RegG.last (by simp only[List.nil_append,List.cons_append,List.length_append,List.length_cons,List.length_nil,Nat.reduceAdd]) (by rfl) (by rfl) (by kernel_rfl) (fun x3 f=>?_);simp only[FinG,List.nil_append,List.cons_append,Qad,Act.put,List.setIfInBounds_toArray,List.set_cons_zero,List.set_cons_succ,Nat.reduceAdd,Nat.reduceBEq,cond_true,cond_false];intro v4 _ v7 _ v8 h8 K d;obtain⟨x',y',z',rfl⟩:=h8.parts;obtain⟨o1,o2,o3⟩:=h8.1.one;have ap:=Qaa prog o1;have aq:=Qaa prog o2;have ar:=Qaa prog o3;have U:=bf.o.below f;obtain⟨y0,y1,y2,c0,c1,c2,_⟩:=U.at b5;have f0:=U.blk.blk.free (k*3);have f1:=U.blk.blk.free (k*3+1);have f2:=U.blk.blk.free (k*3+2);have ho:=(((Only.refl G x3).setCell (k*3) x').setCell (k*3+1) y').setCell (k*3+2) z';have ej:=Hi (U.set b5 h8 (firstV (stretchV vb x) (k+1)) (fun i=>by
    unfold firstV;by_cases e:i=k
    .
     subst e;rw[if_pos (by omega),if_pos rfl];unfold stretchV strq;rw[show vb.getD i (0,0,0,0)=p by rw[List.getD_eq_getElem?_getD,ee.o];rfl,a8.o.1,a8.o.2.1,de.o,df.o,dd.o,bq.o]
    .
     rw[if_neg e];by_cases e2:i<k
     . rw[if_pos (by omega),if_pos e2]
     . rw[if_neg (by omega),if_neg e2]))
   obtain⟨ek,em,en,HO⟩:=Ic (bz.o.trans (f.mono bz.o.size)) ((ds.o.below f).only U ho (by have:=ea.o;have:=a0.o;omega)) ((b0.o.below f b0.o.lt).only ho (by have:=a0.o;omega)) ho;clear o1 o2 o3 U h8 f ho;go_simp;refine d _ _ ?_;clear d c0 c1 c2 f0 f1 f2 ap aq ar;have bh:=an.o;have bi:=dl.o;subst bh;subst bi;go_wp2;go_roundw
   case rel=>exact⟨k+1,_,by omega,by go_num,ej.o,en.o,em.o,Only.fresh ek.o HO.o (Nat.le_of_lt a0.o)⟩
   case measure=>simp[intOf];omega
  .
   obtain rfl:k=z.length:=by omega
   go_wp2;go_ret;exact⟨G,us,rfl,Nat.le_of_lt a0.o,cn.o,HB.o⟩
theorem RB.mono{w:Vz}{g n K K':Nat}{x:Vec}{us:List FE}(h:RB w g n K x us)(b:K<=K'):RB w g n K' x us:=⟨h.blk,h.len,fun i t a=>⟨(h.val i t a).1,Nat.le_trans (h.val i t a).2 b⟩⟩
theorem RB.eq{w:Vz}{g n K:Nat}{x y:Vec}{us:List FE}(h:RB w g n K x us)(e:∀i,i<n->x i=y i):RB w g n K y us:=⟨h.blk,h.len,fun i t a=>⟨(h.val i t a).1.trans (e i (by have:=(gZ a).1;have:=h.len;omega)),(h.val i t a).2⟩⟩
def pulV(c s e:Vec)(k:Nat):Vec:=fun i=>if i<k then c i*(s i - e i) else s i
theorem Qpu(U W a3:Vx)(c1 c2 c3 nh gm N Km C KP:Nat)(D:List S2)(d:List B6)(hs:List H3)(vb:List (Nat × Nat × Rat × Rat))(x cv E:Vec)(ms:List FE)(w:Vz)(hg:Glob w)(hj:ARow S2.cells w U c1 D)(hf:ARow B6.cells w W c2 d)(n1:D.length<=10)(n2:d.length<=24)(hl:vb.length=d.length)(hv:∀(i:Nat) (b:B6) (p:Nat × Nat × Rat × Rat),d[i]?=some b->vb[i]?=some p->BarV 1048576 D b p)
 (Y:∀(i:Nat) (b:B6),d[i]?=some b->QOf b.c.data.toList (cv i)/\QOf b.e.data.toList (E i)/\b.c.size<=1048576/\b.e.size<=1048576) (hm:RB w gm N Km x ms) (hN:2*D.length=N) (f:C=2*(8388611+(2*Km+1))+1) (Z:Km<=1000000000) (aa:KP=4194305+(C+4194305+1)):
 Calls prog 54 #[.agg #[.slice U D.length c1,.slice W d.length c2,.slice a3 nh c3],.slice (some ⟨gm,0,none⟩) N N] w fun e w'=>∃g us,e=.returned (.slice (some ⟨g,0,none⟩) d.length d.length)/\w.heap.size<=g/\RB w' g d.length KP (fun i=>cv i*(stretchV vb x i - E i)) us/\Below w.heap.size w w':=by
 obtain⟨V,hV⟩:=nm (w.alloc (.cells #[.slice U D.length c1,.slice W d.length c2,.slice a3 nh c3] 26));have h:Bl w V:=by rw[<-hV];exact(Below.refl _ _).alloc lZ _
 have ab:SB V w.heap.size 26 #[.slice U D.length c1,.slice W d.length c2,.slice a3 nh c3]:=by rw[<-hV];exact SB.new w _ _
 obtain⟨ad,ae,HG,HF,aq,F,af,HK⟩:=Ig (Qpt U W a3 c1 c2 c3 nh gm N Km C D d vb x ms V (hg.below h) (hj.below h) (hf.below h) n1 n2 hl hv (hm.below h) hN f Z) ab (hg.below h) (hf.below h) Y h hV (And.intro aa (And.intro f Z));clear h hV ab hg hj hf hl hv hm hN f Y aa;go_enter func54,ntmps54;go_wp2_with fail;rw[af.o];go_fit ad.o;rintro e w1 ⟨G,ar,rfl,ag,q,H⟩;have k1:=(ae.o.below H ae.o.lt).cell 1;simp only[List.getElem?_toArray,List.getElem?_cons_zero,List.getElem?_cons_succ] at k1;obtain⟨au,av,aw,ah⟩:=Ic (q.mono (K':=KP) (by have:=HK.o;omega)) (fun i t v=>(q.val i t v).2) H ag;clear ag q H ad af;go_wp2_with fail
 go_loopw [14] (fun iv wr=>∃(k:Nat) (us:List FE),k<=d.length/\iv=.int .i64 k/\RB wr G d.length KP (pulV cv (stretchV vb x) E k) us/\(∀(i:Nat) (t:FE),k<=i->us[i]?=some t->t.k<=C)/\Below V.heap.size V wr) (fun iv _=>d.length - (intOf iv).toNat)
 case atStart=>exact⟨0,ar,by omega,rfl,au.o.eq (fun i hi=>by unfold firstV pulV;rw[if_pos hi,if_neg (by omega)]),fun i t _ v=>av.o i t v,aw.o⟩
 case round=>
  obtain⟨k,us,hk,rfl,q,ai,aj⟩:=hrel;obtain⟨I,ak,HB⟩:=Ib q ai aj;clear q aj ai;by_cases J:k<d.length
  .
   obtain⟨b,L⟩:∃b,d[k]?=some b:=⟨d[k],gE J⟩;obtain⟨bb,bo,rfl,bd,d0,d1,d2,d3,d4,d5⟩:=(HF.o.below HB.o).bar L;have y:=Hi (aq.o k b L);obtain⟨X,hX⟩:=nm (wr.alloc (.cells #[.int .i64 b.a,.int .i64 b.b,.string b.c,.string b.e,.string b.l,.string b.m] 84));have M:Bl wr X:=by rw[<-hX];exact(Below.refl _ _).alloc lZ _
   have P:SB X wr.heap.size 84 #[.int .i64 b.a,.int .i64 b.b,.string b.c,.string b.e,.string b.l,.string b.m]:=by rw[<-hX];exact SB.new wr _ _
   have ax:=Hi hX;have Q:Bl X X.drew:=bR.drew;have z:=P.below Q P.lt;obtain⟨R,S⟩:=Ia (z.cell 2) (z.cell 3);simp only[List.getElem?_toArray,List.getElem?_cons_zero,List.getElem?_cons_succ] at R S;have al:=Hi z.lt;have T:=M.trans (Q.mono M.size);obtain⟨r,A⟩:=Ia (HB.o.trans (T.mono HB.o.size)) (I.o.below T);obtain⟨t,v⟩:=I.o.get J;have am:=Hi v;have ay:=Hi (by
    have h1:=A.o.val k t v;have h2:=h1.1.trans (by unfold pulV;rw[if_neg (by omega)]);have h3:=FF.mono (A.o.blk.row.get v) (ak.o k t lZ v);rw[h2] at h3
    exact h3)
   have an:O (C+4194305<68719476000/\4194305+(C+4194305+1)<68719476000):=Hi (by have:=HK.o;omega);have az:=Hi HK.o.1.symm;have q5:((k:Int)<(d.length:Int)):=by omega
   clear L hX M P Q z T v;go_wp2_with fail;rw[ax.o];clear d0 d1 d2 d3 d4 d5;generalize B:wr.heap.size=R0 at*;have ao:=Hi B;clear B;refine RegG.bg 15 (fun j=>some (19+j)) ?_;refine RegG.p0 [] ?_;refine RegG.p0 [] ?_;refine RegG.p0 [] ?_;refine RegG.pu (c:=?_) [2] (fun w n=>?_) ?_;rotate_left
   .
    intro K f;obtain⟨e0,e1⟩:=Ja n al.o R.o S.o;go_simp;exact f
   refine RegG.ca (φ:=FF (cv k) 4194305) [3] (FF.stays _ _) (fun w n=>?_) ?_
   .
    intro K f;go_simp;exact Makes.use (FF.of (HG.o.below (r.o.trans (n.mono r.o.size))) y.o.1 y.o.2.2.1 (by decide) (by decide)) f
   refine RegG.p0 [] ?_;refine RegG.p0 [] ?_;refine RegG.p0 [5,6] ?_;refine RegG.pu (c:=?_) [7] (fun w n=>?_) ?_;rotate_left
   .
    intro K f;obtain⟨d0,d1,d2⟩:=(A.o.below n).cells am.o;go_simp;exact f
   refine RegG.p0 [] ?_;refine RegG.pu (c:=?_) [9] (fun w n=>?_) ?_;rotate_left
   .
    intro K f;obtain⟨e0,e1⟩:=Ja n al.o R.o S.o;go_simp;exact f
   refine RegG.ca (φ:=FF (E k) 4194305) [10] (FF.stays _ _) (fun w n=>?_) ?_
   .
    intro K f;go_simp;exact Makes.use (FF.of (HG.o.below (r.o.trans (n.mono r.o.size))) y.o.2.1 y.o.2.2.2 (by decide) (by decide)) f
   refine RegG.ca (φ:=FF (stretchV vb x k - E k) (C+4194305+1)) [8,11] (FF.stays _ _) (fun w n=>?_) ?_
   .
    intro a0 a4;intro K f;go_simp;exact Makes.use ((ay.o.below n).minus a4 an.o.1) f
   refine RegG.ca (φ:=FF (cv k*(stretchV vb x k - E k)) (4194305+(C+4194305+1))) [4,12] (FF.stays _ _) (fun w n=>?_) ?_
   .
    intro v4 h4 a5 a6;intro K f;go_simp;exact Makes.use (h4.times a6 an.o.2) f
   refine RegG.p0 [0,1] ?_;refine RegG.last (by simp only[List.nil_append,List.cons_append,List.length_append,List.length_cons,List.length_nil,Nat.reduceAdd]) (by rfl) (by rfl) (by kernel_rfl) (fun x3 n=>?_);simp only[FinG,List.nil_append,List.cons_append,Qad,Act.put,List.setIfInBounds_toArray,List.set_cons_zero,List.set_cons_succ,Nat.reduceAdd,Nat.reduceBEq,cond_true,cond_false];intro v4 _ a0 _ a5 _ be u K f;rw[az.o] at u;obtain⟨x',y',z',rfl⟩:=u.parts;obtain⟨o1,o2,o3⟩:=u.1.one;have a7:=Qaa prog o1;have a8:=Qaa prog o2;have a9:=Qaa prog o3;have s:=A.o.below n;obtain⟨c0,c1,c2⟩:=s.cells am.o;have f0:=s.blk.blk.free (k*3);have f1:=s.blk.blk.free (k*3+1);have f2:=s.blk.blk.free (k*3+2);have ho:=(((Only.refl G x3).setCell (k*3) x').setCell (k*3+1) y').setCell (k*3+2) z';have ba:=Hi (s.set J u (pulV cv (stretchV vb x) E (k+1)) (fun i=>by
    unfold pulV;by_cases e:i=k
    . subst e
      rw[if_pos (by omega),if_pos rfl]
    .
     rw[if_neg e];by_cases e2:i<k
     . rw[if_pos (by omega),if_pos e2]
     . rw[if_neg (by omega),if_neg e2]))
   obtain⟨bc,HO⟩:=Ia (r.o.trans (n.mono r.o.size)) ho;clear o1 o2 o3 s u n ho;go_simp;refine f _ _ ?_;clear f c0 c1 c2 f0 f1 f2 a7 a8 a9;have B:=ao.o;subst B;go_wp2;go_roundw
   case rel=>
    refine⟨k+1,_,by omega,by go_num,ba.o,fun i t' hi ap=>?_,Only.fresh bc.o HO.o ah.o⟩;rw[List.getElem?_set_ne (by omega)] at ap;exact ak.o i t' (by omega) ap
   case measure=>simp[intOf];omega
  .
   obtain rfl:k=d.length:=by omega
   go_wp2;go_ret;exact⟨G,us,rfl,Nat.le_trans F.o.size ah.o,I.o.eq (fun i hi=>by unfold pulV;rw[if_pos hi]),F.o.trans (HB.o.mono F.o.size)⟩
theorem Qpv(a:List FE)(n i:Nat)(h:i<n):qAt (a.take n) i=qAt a i:=by
 unfold qAt;simp only[List.getD_eq_getElem?_getD,List.getElem?_map,List.getElem?_take_of_lt h]
theorem RB.qAt{w:Vz}{g n K:Nat}{x:Vec}{us:List FE}(h:RB w g n K x us){i:Nat}(b:i<n):qAt us i=x i:=by
 obtain⟨t,a⟩:=h.get b;rw[Qbc a];exact(h.val i t a).1
theorem GM.away{w u b:Vz}{B G W K g n K':Nat}{c:Vy}{M:Nat->Nat->Rat}{x:Vec}{us:List FE}(h:GM w u B G W K c M)(f:RB u g n K' x us)(d:Only g u b)(k:g<B):GM b b B G W K c M:=by
 refine⟨Below.refl _ _,h.o.only d (by have:=h.lo;omega),fun r e a=>?_,h.nd,h.ne,h.lo,h.los⟩;obtain⟨vs,i,j⟩:=h.row r e a;exact⟨vs,i.other f.blk d (by have:=h.los r e a;omega),j⟩
theorem GM.on{w u a:Vz}{B G W K:Nat}{b:Vy}{M:Nat->Nat->Rat}(h:GM w u B G W K b M)(c:Bl u a):GM a a B G W K b M:=by
 have:=h.below c;exact⟨Below.refl _ _,this.o,this.row,this.nd,this.ne,this.lo,this.los⟩
theorem Qpw(Q R S:Vx)(c1 c2 c3 gb N p T:Nat)(q:List S2)(a:List B6)(C:List H3)(vb:List (Nat × Nat × Rat × Rat))(vh:Vy)(t:Vec)(us:List FE)(w:Vz)(hg:Glob w)(hf:FrRow w Q R S c1 c2 c3 q a C)(d:FrV 1048576 q a C vb vh)(r:RB w gb a.length p t us)(hN:2*q.length=N)(hK:T=24*(8388611+p+1)+1)(aq:p<=2500000000):
 Calls prog 55 #[.agg #[.slice Q q.length c1,.slice R a.length c2,.slice S C.length c3],.slice (some ⟨gb,0,none⟩) a.length a.length] w fun e w'=>∃g ar,e=.returned (.slice (some ⟨g,0,none⟩) N N)/\w.heap.size<=g/\RB w' g N T (Giv.putF a.length (balM vb a.length vh) t) ar/\Below w.heap.size w w':=by
 obtain⟨V,hV⟩:=nm (w.alloc (.cells #[.slice Q q.length c1,.slice R a.length c2,.slice S C.length c3] 26));have l:Bl w V:=by rw[<-hV];exact(Below.refl _ _).alloc lZ _
 have U:SB V w.heap.size 26 #[.slice Q q.length c1,.slice R a.length c2,.slice S C.length c3]:=by rw[<-hV];exact SB.new w _ _
 obtain⟨W,X,HG,HF,HR,au,HV,D,Y⟩:=Ih (Qb6 Q R S c1 c2 c3 q.length a.length C.length V d.j) U (hg.below l) (hf.below l) (r.below l) (Nat.lt_of_lt_of_le r.blk.blk.lt l.size) d l hV;obtain⟨HN,HK⟩:=Ia hN (And.intro hK aq);have n1:=d.j;have n2:=d.b;have n3:=d.h;have ba:N<=20:=by omega
 clear l hV U hg hf r d hK;go_enter func55,ntmps55;go_wp2_with fail;rw[Y.o];go_fit W.o;rintro e E ⟨rfl,s⟩;have eN:2*(q.length:Int)=(N:Int):=by have:=HN.o;omega
 rw[eN];have F:=Qa3 N (by omega) E;obtain⟨MC,H⟩:=nm (((List.replicate N FE.zero).flatMap FE.cells).toArray);rw[H] at F;obtain⟨V1,v⟩:=nm (E.alloc (.cells MC 107));have Z:Bl E V1:=by rw[<-v];exact(Below.refl _ _).alloc lZ _
 have I:O (RB V1 E.heap.size N T (fun _=>0) (List.replicate N FE.zero)):=Hi (by rw[<-v];exact RB.new E N T MC H.symm (by have:=HK.o;omega));have f:=Hi (s.trans (Z.mono s.size));have kf:=X.o.below f.o X.o.lt;have k0:=kf.cell 0;have k1:=kf.cell 1;have k2:=kf.cell 2;simp only[List.getElem?_toArray,List.getElem?_cons_zero,List.getElem?_cons_succ] at k0 k1 k2;obtain⟨G,hG⟩:=nm E.heap.size;have J:O (V.heap.size<=G):=Hi (by rw[<-hG];exact s.size);rw[hG] at I F;rw[v] at F;have d:=HV.o;obtain⟨aa,av⟩:=Ia (Qe8 Q R S c1 c2 c3 1048576 8388611 q a C vb vh V1 (HG.o.below f.o) (HF.o.below f.o) d.j d.b d.h d.lb d.lh d.vb d.vh d.n (by decide)) I.o.blk.blk.lt;clear s Z v W Y hG eN H kf d;go_wp2_with fail;go_fit aa.o;rintro e w2 ⟨A,Wd,GR,gs,aw,ab,rfl,ad,ae⟩
 obtain rfl:A=N:=by have:=HN.o;omega
 obtain⟨Bd,af⟩:=nm (V1.heap.size+1);have x:=ae.toGM;rw[af] at x;have y:=x.base;obtain⟨ax,ag,ay⟩:=Ib (x.on bR) ad ab;have ah:O (G<Bd):=Hi (by have:=av.o;omega);obtain⟨az,a0,a4⟩:=Ib (HR.o.below (f.o.trans (y.mono f.o.size))) (I.o.below y) (f.o.trans (y.mono f.o.size));clear x ad ae y aw ab af aa k0 k1 k2;go_wp2_with fail;go_loopw [14] (fun iv wr=>∃(k:Nat) (vs:List FE),k<=A/\iv=.int .i64 k/\RB wr G A T (firstV (Giv.putF a.length (balM vb a.length vh) t) k) vs/\GM wr wr Bd GR Wd 8388611 gs (balM vb a.length vh)/\RB wr gb a.length p t us/\Below V.heap.size V wr) (fun iv _=>A - (intOf iv).toNat)
 case atStart=>
  refine⟨0,List.replicate A FE.zero,by omega,rfl,?_,ax.o,az.o,a4.o⟩;have e:firstV (Giv.putF a.length (balM vb a.length vh) t) 0=fun _=>0:=funext fun i=>by unfold firstV;rw[if_neg (by omega)]
  rw[e];exact a0.o
 case round=>
  obtain⟨k,vs,hk,rfl,ai,aj,ak,al⟩:=hrel;obtain⟨am,HQ,m,HB⟩:=Ic ai aj ak al;clear ai aj ak al;by_cases an:k<A
  .
   obtain⟨gr,hr⟩:∃g,gs[k]?=some g:=⟨gs[k]'(by have:=ag.o;omega),gE (by have:=ag.o;omega)⟩;have c0:=HQ.o.o.cell k;rw[List.getElem?_toArray,List.getElem?_map,hr,Option.map_some,slRow] at c0;obtain⟨rs,ao,K,L⟩:=HQ.o.row k gr hr;have hW:=ay.o;have M:=ao.row;rw[K] at M;have P:=Qpk (some ⟨gr,0,none⟩) (some ⟨gb,0,none⟩) Wd a.length a.length a.length 8388611 p (rs.take a.length) us wr (M.take a.length) (by have:=m.o.blk.row;rw[m.o.len] at this;exact this) (by rw[List.length_take,K];omega) m.o.len lZ (by omega) (fun t ht=>by obtain⟨i,B⟩:=List.getElem?_of_mem (List.mem_of_mem_take ht);exact(L i t B).2) (fun u hu=>by obtain⟨i,B⟩:=List.getElem?_of_mem hu;exact(m.o.val i u B).2) (by have:=HK.o;have h2:a.length*(8388611+p+1)<=24*(8388611+p+1):=Nat.mul_le_mul_right _ (by omega);omega)
   have e:dot a.length (qAt (rs.take a.length)) (qAt us)=Giv.putF a.length (balM vb a.length vh) t k:=by
    unfold Giv.putF;refine Qac _ _ _ _ _ (fun i B=>?_);obtain⟨t',ap⟩:∃t',rs[i]?=some t':=⟨rs[i]'(by omega),gE (by omega)⟩;rw[Qpv _ _ _ B,Qbc ap,(L i t' ap).1,m.o.qAt B]
   rw[e] at P;have a5:=Hi P;have q1:((k:Int)<(A:Int)):=by omega
   have q2:((a.length:Int)<=(Wd:Int)):=by omega
   clear hr M ao K L P e hW;go_wp2_with fail;refine Makes.use a5.o ?_;intro v5 w5 r h5;have z:=h5.mono (k':=T) (by
    have h1:=HK.o.1;have h2:a.length*(8388611+p+1)<=24*(8388611+p+1):=Nat.mul_le_mul_right _ n2
    omega)
   obtain⟨x',y',z',rfl⟩:=z.parts;obtain⟨o1,o2,o3⟩:=z.1.one;have bb:=Qaa prog o1;have bc:=Qaa prog o2;have bd:=Qaa prog o3;have c:=am.o.below r;obtain⟨y0,y1,y2,d0,d1,d2,_⟩:=c.at an;have f0:=c.blk.blk.free (k*3);have f1:=c.blk.blk.free (k*3+1);have f2:=c.blk.blk.free (k*3+2);have ho:=(((Only.refl G w5).setCell (k*3) x').setCell (k*3+1) y').setCell (k*3+2) z';have a6:=Hi (c.set an z (firstV (Giv.putF a.length (balM vb a.length vh) t) (k+1)) (fun i=>by
    unfold firstV;by_cases e:i=k
    . subst e
      rw[if_pos (by omega),if_pos rfl]
    .
     rw[if_neg e];by_cases e2:i<k
     . rw[if_pos (by omega),if_pos e2]
     . rw[if_neg (by omega),if_neg e2]))
   obtain⟨a7,a8,a9,HO⟩:=Ic (HB.o.trans (r.mono HB.o.size)) ((m.o.below r).only c ho (by have:=au.o;have:=J.o;omega)) ((HQ.o.on r).away c ho ah.o) ho;clear o1 o2 o3 c h5 z r ho c0;go_wp2;go_roundw
   case rel=>exact⟨k+1,_,by omega,by go_num,a6.o,a9.o,a8.o,Only.fresh a7.o HO.o J.o⟩
   case measure=>simp[intOf];omega
  .
   obtain rfl:k=A:=by omega
   go_wp2;go_ret;exact⟨G,vs,rfl,Nat.le_trans D.o.size J.o,am.o.eq (fun i B=>by unfold firstV;rw[if_pos B]),D.o.trans (HB.o.mono D.o.size)⟩
def turnV(V:Nat)(M:Nat->Nat->Rat)(k j:Nat):Nat->Nat->Rat:=fun c i=>if c<V/\(i<k∨(i=k/\c<j)) then M i c else 0
structure GA (u:Vz) (B G W K:Nat) (gs:Vy) (M:Nat->Nat->Rat):Prop where
 gm:GM u u B G W K gs M
 hi:G<u.heap.size
theorem GM.ga{w u:Vz}{B G W K:Nat}{a:Vy}{M:Nat->Nat->Rat}(h:GM w u B G W K a M):GA u B G W K a M:=⟨h.on bR,h.o.lt⟩
theorem GA.below{u a:Vz}{B G W K:Nat}{b:Vy}{M:Nat->Nat->Rat}(h:GA u B G W K b M)(c:Bl u a):GA a B G W K b M:=⟨h.gm.on c,Nat.lt_of_lt_of_le h.hi c.size⟩
theorem Qpx(Z B0 W V K n:Nat)(I:Vy)(M:Nat->Nat->Rat)(w:Vz)(h:GA w B0 Z W K I M)(hn:I.length=n)(hl:n<=1000)(hW:W<=1000)(hV:V<=W)(L:0<K):
 Calls prog 168 #[.slice (some ⟨Z,0,none⟩) n n,.int .i64 V] w fun e w'=>∃(G:Nat) (b:Vy),e=.returned (.slice (some ⟨G,0,none⟩) V V)/\b.length=V/\GM w w' w.heap.size G n K b (turnV V M n 0):=by
 obtain⟨HQ,u,HN⟩:=Ib h (Qdp V n w (by omega) (by omega)) hn;clear h hn;go_enter func168,ntmps168;go_wp2_with fail;go_fit u.o;rintro e v ⟨⟨G,b,rfl,A,m,p,a,B⟩,hb⟩;have N:O (GM w v w.heap.size G n K b (turnV V M 0 0)):=Hi (by
  refine⟨hb,p,fun r g f=>⟨_,(a r g f).1,by simp,fun c t ht=>?_⟩,B,fun r g f=>by have:=(a r g f).2;omega,m,fun r g f=>by have:=(a r g f).2;omega⟩;obtain⟨_,rfl⟩:=List.mem_replicate.1 (mO ht)
  exact⟨by simp[turnV,FE.zero],by simp[FE.zero];omega⟩)
 have C:=Hi A;clear A m p a B hb u;go_wp2_with fail;go_loopw [15] (fun P wr=>∃k:Nat,k<=n/\P=.int .i64 k/\GM w wr w.heap.size G n K b (turnV V M k 0)) (fun P _=>n - (intOf P).toNat)
 case atStart=>exact⟨0,Nat.zero_le _,rfl,N.o⟩
 case round=>
  obtain⟨k,hk,rfl,d⟩:=hrel;have Q:=Hi d;clear d;by_cases D:k<n
  .
   obtain⟨gr,f⟩:∃r,I[k]?=some r:=⟨I[k]'(by have:=HN.o;omega),gE _⟩;have d0:=(HQ.o.below Q.o.base).gm.cell f;have q1:((k:Int)<(n:Int)):=by omega
   have HR:=Hi f;clear f;go_wp2_with fail;clear d0;go_loopw [21] (fun R wi=>∃j:Nat,j<=V/\R=.int .i64 j/\GM w wi w.heap.size G n K b (turnV V M k j)) (fun R _=>V - (intOf R).toNat)
   case atStart=>exact⟨0,Nat.zero_le _,rfl,Q.o⟩
   case round=>
    obtain⟨j,hj,rfl,d⟩:=hrel;have E:=Hi d;clear d;by_cases S:j<V
    .
     obtain⟨g,T⟩:∃g,b[j]?=some g:=⟨b[j]'(by have:=C.o;omega),gE _⟩;obtain⟨us,q,U,F⟩:=(HQ.o.below E.o.base).gm.row k gr HR.o;obtain⟨e,J⟩:∃e,us[j]?=some e:=⟨us[j]'(by omega),gE _⟩;obtain⟨rb,ro,X,aa,d0,d1,d2⟩:=q.row.at J;cases X;simp only[Nat.zero_add] at d0 d1 d2;have l:=q.row.get J;have s:=F j e J;have s0:=E.o.cell T;obtain⟨x,y,z,c0,c1,c2,f0,f1,f2⟩:=E.o.at T D;have Y:O (GM w (set3 wr g k e.x e.y e.z) w.heap.size G n K b (turnV V M k (j+1))):=Hi (by
      refine(E.o.put lZ T D l.1 (l.2.1.mono s.2) L).congr (fun c i=>?_);simp only[updM,turnV];by_cases h1:c=j/\i=k
      . obtain⟨rfl,rfl⟩:=h1
        rw[if_pos ⟨rfl,rfl⟩,if_pos ⟨S,.inr ⟨rfl,by omega⟩⟩,s.1]
      .
       rw[if_neg h1];by_cases H:c<V/\(i<k∨(i=k/\c<j))
       . rw[if_pos H,if_pos (by omega)]
       . rw[if_neg H,if_neg (by omega)])
     obtain⟨o1,o2,o3⟩:=l.1.one;have ab:=Qaa prog o1;have ad:=Qaa prog o2;have ae:=Qaa prog o3;have q2:((j:Int)<(V:Int)):=by omega
     have q3:((j:Int)<(W:Int)):=by omega
     clear q U F J l s o1 o2 o3;go_wp2_with fail;go_region;go_wp2;go_roundw
     case rel=>exact⟨j+1,by omega,by go_num,Y.o.below bR.drew⟩
     case measure=>simp[intOf];omega
    .
     obtain rfl:j=V:=by omega
     have HE:O (GM w wr w.heap.size G n K b (turnV j M (k+1) 0)):=Hi (by
      refine E.o.congr (fun c i=>?_);simp only[turnV];by_cases H:c<j/\(i<k∨(i=k/\c<j))
      . rw[if_pos H,if_pos (by omega)]
      . rw[if_neg H,if_neg (by omega)])
     go_wp2;go_roundw
     case rel=>exact⟨k+1,by omega,by go_num,HE.o⟩
     case measure=>simp[intOf];omega
  .
   obtain rfl:k=n:=by omega
   go_wp2;go_ret;exact⟨G,b,rfl,C.o,Q.o⟩
def partV(at_:Vy)(n:Nat)(M:Nat->Nat->Rat)(i0 k0:Nat):Nat->Nat->Rat:=fun i k=>if k<n/\(i<i0∨(i=i0/\k<k0)) then M (at_.getD i 0) (at_.getD k 0) else 0
theorem Qd6{w:Vz}{a:Vx}{l:Vy}{i x:Nat}(h:CRow w a (l.map (fun n:Nat=>Value.int .i64 n)))(d:l[i]?=some x):∃b c,a=some ⟨b,c,none⟩/\b<w.heap.size/\w.cell? ⟨b,c+i,none⟩=some (.int .i64 x):=h.cell i _ (by rw[List.getElem?_map,d];rfl)
theorem Qpy(GI B0 W K n m:Nat)(T:Vy)(M:Nat->Nat->Rat)(ai:Vx)(ca:Nat)(at_:Vy)(w:Vz)(h:GA w B0 GI W K T M)(hm:T.length=m)(ha:CRow w ai (at_.map (fun n:Nat=>Value.int .i64 n)))(hn:at_.length=n)(D:∀r,r∈ at_->r<m/\r<W)(hl:n<=1000)(X:0<K):
 Calls prog 113 #[.slice (some ⟨GI,0,none⟩) m m,.slice ai n ca] w fun e w'=>∃(G:Nat) (b:Vy),e=.returned (.slice (some ⟨G,0,none⟩) n n)/\b.length=n/\GM w w' w.heap.size G n K b (partV at_ n M n 0):=by
 obtain⟨HQ,HA,E,F,HN,HM⟩:=Ie h ha D (Qdp n n w hl hl) hn hm;clear h hn ha D hm;go_enter func113,ntmps113;go_wp2_with fail;go_fit F.o;rintro e v ⟨⟨G,b,rfl,H,p,q,a,I⟩,hb⟩;have Y:O (GM w v w.heap.size G n K b (partV at_ n M 0 0)):=Hi (by
  refine⟨hb,q,fun r g f=>⟨_,(a r g f).1,by simp,fun c t ht=>?_⟩,I,fun r g f=>by have:=(a r g f).2;omega,p,fun r g f=>by have:=(a r g f).2;omega⟩;obtain⟨_,rfl⟩:=List.mem_replicate.1 (mO ht)
  exact⟨by simp[partV,FE.zero],by simp[FE.zero];omega⟩)
 have J:=Hi H;clear H p q a I hb F;go_wp2_with fail;go_loopw [17] (fun Z wr=>∃k:Nat,k<=n/\Z=.int .i64 k/\GM w wr w.heap.size G n K b (partV at_ n M k 0)) (fun Z _=>n - (intOf Z).toNat)
 case atStart=>exact⟨0,Nat.zero_le _,rfl,Y.o⟩
 case round=>
  obtain⟨k,hk,rfl,d⟩:=hrel;have HG:=Hi d;clear d;by_cases ah:k<n
  .
   obtain⟨L,f⟩:∃r,at_[k]?=some r:=⟨at_[k]'(by have:=HN.o;omega),gE _⟩;obtain⟨ab,ao,rfl,N,d0⟩:=Qd6 (HA.o.below HG.o.base) f;have q1:((k:Int)<(n:Int)):=by omega
   obtain⟨HR,P⟩:=Ia f (E.o L (mO f));clear f;go_wp2_with fail;clear d0 N;go_loopw [24] (fun jv wi=>∃j:Nat,j<=n/\jv=.int .i64 j/\GM w wi w.heap.size G n K b (partV at_ n M k j)) (fun jv _=>n - (intOf jv).toNat)
   case atStart=>exact⟨0,Nat.zero_le _,rfl,HG.o⟩
   case round=>
    obtain⟨j,hj,rfl,d⟩:=hrel;have s:=Hi d;clear d;by_cases u:j<n
    .
     obtain⟨g,hg⟩:∃g,b[k]?=some g:=⟨b[k]'(by have:=J.o;omega),gE _⟩;obtain⟨Q,U⟩:∃r,at_[j]?=some r:=⟨at_[j]'(by have:=HN.o;omega),gE _⟩;obtain⟨aj,ak,aa,N,t0⟩:=Qd6 (HA.o.below s.o.base) U;cases aa;have ad:=E.o Q (mO U);obtain⟨gr,A⟩:∃r,T[L]?=some r:=⟨T[L]'(by have:=HM.o;have:=P.o;omega),gE _⟩;have r0:=(HQ.o.below s.o.base).gm.cell A;obtain⟨us,B,ae,R⟩:=(HQ.o.below s.o.base).gm.row L gr A;obtain⟨e,V⟩:∃e,us[Q]?=some e:=⟨us[Q]'(by omega),gE _⟩;obtain⟨rb,ro,af,al,d0,d1,d2⟩:=B.row.at V;cases af;simp only[Nat.zero_add] at d0 d1 d2;have l:=B.row.get V;have C:=R Q e V;have s0:=s.o.cell hg;obtain⟨x,y,z,c0,c1,c2,f0,f1,f2⟩:=s.o.at hg u
     have ag:O (GM w (set3 wr g j e.x e.y e.z) w.heap.size G n K b (partV at_ n M k (j+1))):=Hi (by
      refine(s.o.put lZ hg u l.1 (l.2.1.mono C.2) X).congr (fun c i=>?_);simp only[updM,partV];by_cases h1:c=k/\i=j
      .
       obtain⟨rfl,rfl⟩:=h1;rw[if_pos ⟨rfl,rfl⟩,if_pos ⟨u,.inr ⟨rfl,by omega⟩⟩,C.1];simp only[List.getD_eq_getElem?_getD,HR.o,U,Option.getD_some]
      .
       rw[if_neg h1];by_cases S:i<n/\(c<k∨(c=k/\i<j))
       . rw[if_pos S,if_pos (by omega)]
       . rw[if_neg S,if_neg (by omega)])
     obtain⟨o1,o2,o3⟩:=l.1.one;have am:=Qaa prog o1;have an:=Qaa prog o2;have ap:=Qaa prog o3;have q2:((j:Int)<(n:Int)):=by omega
     have q3:((Q:Int)<(W:Int)):=by omega
     have q4:((L:Int)<(m:Int)):=by have:=P.o;omega
     clear B ae R V l C o1 o2 o3 U ad A;go_wp2_with fail;go_region;go_wp2;go_roundw
     case rel=>exact⟨j+1,by omega,by go_num,ag.o.below bR.drew⟩
     case measure=>simp[intOf];omega
    .
     obtain rfl:j=n:=by omega
     have HE:O (GM w wr w.heap.size G j K b (partV at_ j M (k+1) 0)):=Hi (by
      refine s.o.congr (fun c i=>?_);simp only[partV];by_cases S:i<j/\(c<k∨(c=k/\i<j))
      . rw[if_pos S,if_pos (by omega)]
      . rw[if_neg S,if_neg (by omega)])
     go_wp2;go_roundw
     case rel=>exact⟨k+1,by omega,by go_num,HE.o⟩
     case measure=>simp[intOf];omega
  .
   obtain rfl:k=n:=by omega
   go_wp2;go_ret;exact⟨G,b,rfl,J.o,HG.o⟩
theorem FF.neg{u:Value}{p:Rat}{j:Nat}{w:Vz}(h:FF p j u w):Calls prog 117 #[u] w (Makes w (FF (-p) j)):=
 (Qci h.1).mono fun e w' a=>a.makes h.2.1.neg h.2.2
structure GK (u:Vz) (B G W:Nat) (gs:Vy) (kf:Nat->Nat) (M:Nat->Nat->Rat):Prop where
 o:SB u G 98 (gs.map (slRow W)).toArray
 row:∀(r g:Nat),gs[r]?=some g->∃us,QBlk u g us/\us.length=W/\∀(c:Nat) (t:FE),us[c]?=some t->t.q=M r c/\t.k<=kf r
 nd:∀(r r' g:Nat),gs[r]?=some g->gs[r']?=some g->r=r'
 ne:∀(r g:Nat),gs[r]?=some g->g≠G
 lo:B<=G
 los:∀(r g:Nat),gs[r]?=some g->B<=g
section
variable {u u':Vz} {B G W:Nat} {gs:Vy} {kf:Nat->Nat} {M:Nat->Nat->Rat}
theorem GK.below(h:GK u B G W gs kf M)(a:Bl u u'):GK u' B G W gs kf M:=by
 refine⟨h.o.below a h.o.lt,fun r g b=>?_,h.nd,h.ne,h.lo,h.los⟩;obtain⟨us,c,d⟩:=h.row r g b;exact⟨us,c.below a,d⟩
theorem GK.cell{r g:Nat}(h:GK u B G W gs kf M)(a:gs[r]?=some g):u.cell? ⟨G,r,none⟩=some (.slice (some ⟨g,0,none⟩) W W):=by
 rw[h.o.cell];simp[a,slRow]
theorem GK.mono{a:Nat->Nat}{d:Nat->Nat->Rat}(h:GK u B G W gs kf M)(hk:∀r,kf r<=a r)(i:∀r c,r<gs.length->c<W->M r c=d r c):GK u B G W gs a d:=by
 refine⟨h.o,fun r g e=>?_,h.nd,h.ne,h.lo,h.los⟩;obtain⟨us,j,k,f⟩:=h.row r g e;exact⟨us,j,k,fun c t b=>⟨(f c t b).1.trans (i r c (gZ e).1 (by have:=(gZ b).1;omega)),Nat.le_trans (f c t b).2 (hk r)⟩⟩
theorem GK.repl{r l:Nat}{us:List FE}{y:Vec}{x:Nat}(h:GK u B G W gs kf M)(K:r<gs.length)(z:∀(i g:Nat),gs[i]?=some g->g≠l)(hG:l≠G)(hB:B<=l)(s:QBlk u l us)(hl:us.length=W)(D:∀(c:Nat) (t:FE),us[c]?=some t->t.q=y c/\t.k<=x):
 GK (u.setCell ⟨G,r,none⟩ (slRow W l)) B G W (gs.set r l) (fun i=>if i=r then x else kf i) (fun i c=>if i=r then y c else M i c):=by
 have w:NoU64 (gs.map (slRow W)).toArray:=fun i n=>by
  rw[List.getElem?_toArray,List.getElem?_map];cases gs[i]?<;>simp[slRow]
 have A:Only G u (u.setCell ⟨G,r,none⟩ (slRow W l)):=(Only.refl G u).setCell r _;have m:∀{g:Nat} {vs:List FE},QBlk u g vs->g≠G->QBlk (u.setCell ⟨G,r,none⟩ (slRow W l)) g vs:=fun s d=>⟨s.blk.only A d,fun t p=>⟨(s.ts t p).1.only A h.o w,(s.ts t p).2⟩⟩
 have b:∀(i g:Nat),(gs.set r l)[i]?=some g->(i=r/\g=l)∨(i≠r/\gs[i]?=some g):=fun i g f=>by
  rw[List.getElem?_set] at f
  split at f
  . rename_i e
    exact .inl ⟨e.symm,(Option.some.inj f).symm⟩
  . rename_i e
    exact .inr ⟨fun E=>e E.symm,f⟩
 refine⟨?_,fun i g f=>?_,fun i j g f F=>?_,fun i g f=>?_,h.lo,fun i g f=>?_⟩
 .
  have:=h.o.set r (slRow W l);rw[List.setIfInBounds_toArray] at this;rw[List.map_set];exact this
 .
  rcases b i g f with ⟨rfl,rfl⟩|⟨d,a⟩
  . exact⟨us,m s hG,hl,fun c t p=>by simpa using D c t p⟩
  . obtain⟨vs,H,I,J⟩:=h.row i g a
    exact⟨vs,m H (h.ne i g a),I,fun c t p=>by rw[if_neg d,if_neg d];exact J c t p⟩
 .
  rcases b i g f with ⟨rfl,rfl⟩|⟨d,a⟩<;>rcases b j _ F with ⟨rfl,e⟩|⟨C,v⟩
  . rfl
  . exact absurd rfl (z j _ v)
  . subst e
    exact absurd rfl (z i _ a)
  . exact h.nd i j g a v
 .
  rcases b i g f with ⟨rfl,rfl⟩|⟨d,a⟩
  . exact hG
  . exact h.ne i g a
 .
  rcases b i g f with ⟨rfl,rfl⟩|⟨d,a⟩
  . exact hB
  . exact h.los i g a
end
def stfTo(Bm:Nat->Nat->Rat)(c:Vec)(i j:Nat):Nat->Nat->Rat:=fun w v=>dot i (Bm w) (fun a=>c a*Bm v a)+if w<j then Bm w i*(c i*Bm v i) else 0
def LessF(B W kr:Nat)(y:Vec):Fact:=fun v w=>∃(g:Nat) (us:List FE),v=slRow W g/\B<=g/\QBlk w g us/\us.length=W/\∀(c:Nat) (t:FE),us[c]?=some t->t.q=y c/\t.k<=kr
theorem LessF.stays(B W a:Nat)(y:Vec):Stays (LessF B W a y):=fun _ _ _ b ⟨g,us,e,c,d,f⟩=>⟨g,us,e,c,d.below b,f⟩
theorem Qpz{m n W j k1 k2 d:Nat}{a b:List FE}{v:Value}{q:Rat}{x:Vec}{w:Vz}(F:QBlk w m a)(f:a.length=W)(y:∀(c:Nat) (t:FE),a[c]?=some t->t.q=x c/\t.k<=k1)(H:QBlk w n b)(I:b.length=W)(J:∀t,t∈ b->t.k<=k2)(h:FF q j v w)(hW:W<=1000)(hk:k1+k2+j+1=d)(o:d<68719476000):
 Calls prog 169 #[.slice (some ⟨m,0,none⟩) W W,.slice (some ⟨n,0,none⟩) W W,v] w (Makes w (LessF w.heap.size W d (fun c=>x c - qAt b c*q))):=by
 obtain⟨K,L,N,rfl⟩:=h.parts;have z:=F.row;have A:=H.row;rw[f] at z;rw[I] at A;have:=Qey (some ⟨m,0,none⟩) (some ⟨n,0,none⟩) W W d j a b K L N q w z A (by omega) (by omega) h.1 h.2.1 h.2.2 (fun t l s O=>by
  obtain⟨i,P⟩:=List.getElem?_of_mem l;have:=(y i t P).2;have:=J s O
  omega) o
 rw[f] at this;refine this.mono ?_;rintro e w' ⟨⟨g,us,rfl,Q,p,r⟩,R⟩;refine⟨_,rfl,R,g,us,rfl,Q,p,r.1.trans f,fun c t l=>?_⟩;have C:=(gZ l).1;rw[r.1,f] at C;obtain⟨e,D⟩:∃e,a[c]?=some e:=⟨a[c]'(by omega),gE _⟩;obtain⟨u,E,S,T⟩:=r.2 c e C D;rw[l] at E;cases E;exact⟨by rw[S,(y c e D).1],T⟩
end Go.Proofs.YtkkadnoecklepaaGreatDoor
