import Derived.Test.YtppkmifkpjkgpaaGreatDoorC28RowsK
namespace Go.Proofs.YtppkmifkpjkgpaaGreatDoor
open Go.RowKit
open Go.Proofs.Tryz
set_option linter.unusedSimpArgs false
set_option linter.unusedVariables false
set_option maxHeartbeats 8000000
set_option maxRecDepth 1000000
theorem Quu(a:Vx)(cap c:Nat)(f:Vy)(w:Vz)(h:CRow w a (headsV f))(hl:f.length<=1000):
 Calls prog 137 #[.slice a f.length cap,.int .i64 c] w fun e w'=>(∃v:Int,e=.returned (.int .i64 v)/\(0<=v↔c∈ f))/\w'=w:=by
 have u:=Hi h;clear h;go_enter func137,ntmps137;go_wp2_with fail;go_loopw [8] (fun i wr=>∃k:Nat,k<=f.length/\i=.int .i64 k/\(∀j,j<k->f[j]?≠some c)/\wr=w) (fun i _=>f.length - (intOf i).toNat)
 case atStart=>exact⟨0,Nat.zero_le _,rfl,fun j l=>by omega,rfl⟩
 case round=>
  obtain⟨k,hk,rfl,g,rfl⟩:=hrel;have q:=Hi g;clear g;by_cases m:k<f.length
  .
   obtain⟨x,n⟩:∃x,f[k]?=some x:=⟨f[k],gE m⟩;obtain⟨b,y,rfl,A,d⟩:=u.o.cell k (.int .i64 (x:Nat)) (by simp[headsV,n]);have r:=Hi n;have B:((k:Int)<(f.length:Int)):=by omega
   clear n;by_cases s:c=x
   .
    subst s;have z:((c:Int) == (c:Int))=true:=by simp
    go_wp2;go_ret;exact⟨⟨k,rfl,⟨fun _=>mO r.o,fun _=>by omega⟩⟩,rfl⟩
   .
    have z:((c:Int) == (x:Int))=false:=by rw[beq_eq_false_iff_ne];omega
    go_wp2;go_roundw
    case rel=>
     refine⟨k+1,by omega,by go_num,fun j l=>?_,by first|rfl|trivial⟩;rcases Nat.lt_or_ge j k with t|t
     . exact q.o j t
     .
      obtain rfl:j=k:=by omega
      rw[r.o];intro e;injection e with e
      exact s e.symm
    case measure=>simp[intOf];omega
  .
   have p:k=f.length:=by omega
   subst p;go_wp2;go_ret;refine⟨⟨-1,rfl,⟨fun h=>by omega,fun h=>?_⟩⟩,rfl⟩;obtain⟨j,l⟩:=List.mem_iff_getElem?.1 h;exact absurd l (q.o j (gZ l).1)
theorem Quv(a:Vx)(cap c:Nat)(b:Vy)(w:Vz)(h:CRow w a (headsV b))(hl:b.length<=1000):
 Calls prog 85 #[.slice a b.length cap,.int .i64 c] w fun e w'=>e=.returned (.bool (decide (c∈ b)))/\w'=w:=by
 have i:=Hi h;clear h;go_enter func85,ntmps85;go_wp2_with fail;go_fit (Quu a cap c b w i.o hl);rintro e w1 ⟨⟨v,rfl,f⟩,rfl⟩;by_cases d:c∈ b
 .
  have q:(0:Int)<=v:=f.2 d;have g:=Hi d;clear f d;go_wp2;go_ret;exact⟨by rw[decide_eq_true g.o];rfl,rfl⟩
 .
  have q:decide ((0:Int)<=v)=false:=decide_eq_false fun h=>d (f.1 h)
  have g:=Hi d;clear f d;go_wp2;go_ret;exact⟨by rw[decide_eq_false g.o];rfl,rfl⟩
theorem Qla:∀u:Value,u∈ (Value.agg #[.bool false,.slice none 0 0,.slice none 0 0]).cells.toList->True:=fun _ _=>trivial
theorem QRow.one{w:Vz}{a:Vx}{cap:Nat}{ts:List FE}(h:QRow w a cap ts):∀u,u∈ ts.flatMap FE.cells->u.oneCell'=true:=fun u b=>by
 obtain⟨t,c,b⟩:=List.mem_flatMap.1 b;obtain⟨d,e,f⟩:=(h.ts t c).1.one;simp[FE.cells] at b;rcases b with rfl|rfl|rfl
 . exact d
 . exact e
 . exact f
theorem Quw(a:Vx)(cap:Nat)(ts:List FE)(w:Vz)(h:QRow w a cap ts)(hl:ts.length<=1000):
 Calls prog 145 #[.slice a ts.length cap] w fun e w'=>(∃v,e=.returned v/\Grow w' w.heap.size 141 3 (fun _=>True) v ts.length (ts.flatMap FE.cells))/\Below w.heap.size w w':=by
 obtain⟨K,t,C⟩:=Option.map_eq_some_iff.1 Qep;simp only[Prod.mk.injEq] at C;obtain⟨f,g,hz2⟩:=C;have L:∀(w:Vz) (a:Vx) (n c n' x:Nat),(binOp .eql 93 (.slice a n c) (.slice none n' x)).run prog w=.ok (.bool a.isNone) w:=fun w a n c n' x=>Lib.run_eql_slice_nil w _ _ a n c n' x underlying93
 have H:=Hi h;clear h;cases a with
 |none=>
  have y:ts= []:=by
   cases ts with
   |nil=>rfl
   |cons r l=>
    obtain⟨b,z,e,_⟩:=H.o.at (i:=0) (e:=r) rfl;cases e
  subst y;clear t f g hz2;go_enter func145,ntmps145;go_wp2;go_ret;exact⟨⟨_,rfl,Grow.nil _ _ _ _ _⟩,Below.refl _ _⟩
 |some ad=>
  obtain⟨W,s⟩:=nm (w.alloc (.cells #[] 141));have d:Below w.heap.size w W:=by rw[<-s];exact(Below.refl _ _).alloc lZ _
  have m:Grow W w.heap.size 141 3 (fun _=>True) (.slice (some ⟨w.heap.size,0,none⟩) 0 0) 0 []:=by rw[<-s];exact Grow.made w _ _ _
  obtain⟨M,w',A,p,q,B⟩:=m.app (P:=prog) (ty:=93) underlying93 t f g hz2 rfl (by decide) Qla ad ts.length cap (ts.flatMap FE.cells) (Qbb (c:=FE.cells) (sz:=3) (fun _=>rfl) ts) (fun j u D=>by
   obtain⟨b,z,e,E,F⟩:=H.o.row.row.cell j u D;cases e;rw[Qaq]
   exact ce d E F) H.o.one (fun _ _=>trivial) (by omega) (by decide) d.size
  rw[<-s] at A;obtain⟨G,I,J⟩:=Ib A p (d.grown q d.size (fun k hk=>by simp[Value.ownBlock] at hk;omega));clear A p q B m d s t f g hz2;go_enter func145,ntmps145;go_wp2_with (at_builtin;refine Qdg _ rfl _ _ 93 93 rfl (.slice (some ⟨w.heap.size,0,none⟩) 0 0) (.slice (some ad) ts.length cap) _ _ rfl rfl G.o ?_);go_wp2;go_ret;refine⟨⟨_,rfl,?_⟩,J.o⟩;have:=I.o;rw[Nat.zero_add,List.nil_append] at this;exact this
theorem Qux{u:Vz}{B:Nat}{v:Value}{r:MR}{s:FE}{W K:Nat}(j:Grow u B 141 3 (fun _=>True) v (W+1) (r.ts.flatMap FE.cells++FE.cells s))(l:∀t,t∈ r.ts->FracV u (.agg #[t.x,t.y,t.z]) t.q/\Fits t.q t.k/\0<t.k)(hl:r.ts.length=W)(hk:∀t,t∈ r.ts->t.k<=K)(m:FracV u (.agg #[s.x,s.y,s.z]) s.q/\Fits s.q s.k/\0<s.k)(f:s.k<=K):
 ∃d:MR,v=.slice d.a d.ts.length d.cap/\MOk u (W+1) K d/\d.q=wider W r.q s.q:=by
 obtain⟨a,cap,rfl,n,g,_⟩:=j.slice;have c:(r.ts++ [s]).length=W+1:=by simp[hl]
 have h:(r.ts++ [s]).flatMap FE.cells=r.ts.flatMap FE.cells++FE.cells s:=by simp
 refine⟨⟨a,cap,r.ts++ [s]⟩,by simp[hl],⟨⟨⟨by rw[c];exact n,by rw[h];exact g⟩,fun t b=>?_⟩,c,fun t b=>?_⟩,?_⟩
 .
  rcases List.mem_append.1 b with b|b
  . exact l t b
  . obtain rfl:t=s:=by simpa using b
    exact m
 .
  rcases List.mem_append.1 b with b|b
  . exact hk t b
  . obtain rfl:t=s:=by simpa using b
    exact f
 .
  funext i;unfold wider;by_cases e:i=W
  .
   rw[if_pos e,MR.q_at (e:=s)];subst e;rw[<-hl];simp
  .
   rw[if_neg e];rcases Nat.lt_or_ge i W with o|o
   . obtain⟨t,b⟩:∃t,r.ts[i]?=some t:=⟨r.ts[i]'(by omega),gE (by omega)⟩
     rw[MR.q_at b,MR.q_at (e:=t) (by rw[List.getElem?_append_left (by omega)];exact b)]
   . rw[MR.q_beyond (by rw[c];omega),MR.q_beyond (by omega)]
theorem Quy{P:Program}{p:Array Oper}{o:Oper}{a:Act}{u:Vz}{K':Act->World->Prop}{Q:Exit->Act->World->Prop}{E:Prop}(G:o.guard=none)(q x:Operand){t e:Vr}(r:o.op=Op.call { callee:=Callee.builtin Builtin.append,args:=#[q,x],argTypes:=#[t,t] })
 {B:Nat} {i:TypeInfo} {z:Value} {sz bytes:Nat} {K:Value->Prop} {v:Value} {n:Nat} {xs:Vv} {s:Addr} {m c:Nat} (H:a.eval q=v) (I:a.eval x=.slice (some s) m c) (h:Grow u B e sz K v n xs)
 (J:P.underlying t=some (.slice e)) (L:P.info? e=some i) (M:i.zero=some z) (b:i.size=sz) (y:i.bytes=bytes) (A:z.cells.size=sz) (C:0<sz) (D:∀u,u∈ z.cells.toList->K u)
 (news:Vv) (hl:news.length=m*sz) (d:∀j w,news[j]?=some w->u.cell? (s.add j)=some w) (N:∀u,u∈ news->u.oneCell'=true) (O:∀u,u∈ news->K u)
 (F:n+m<=1048576) (k:bytes<=1000) (f:B<=u.heap.size)
 (R:∀g l,Grow l B e sz K g (n+m) (xs++news)->u.grownBy l v.ownBlock->(g.ownBlock=v.ownBlock∨g.ownBlock=some u.heap.size)->K' (a.put o.dst g) l):
 if Region.wanted o (yielded p a.tmps)=true then Oper.wp P o a u K' Q else E:=by
 obtain⟨g,l,S,T,U,V⟩:=h.app (P:=P) (ty:=o.type) J L M b y A C D s m c news hl d N O F k f;exact Qa6 G q x r H I S (R g l T U V)
theorem Quz{w:Vz}{b:Nat}{t:Vr}{x y z:Value}(h:SB w b t #[x,y,z]):∀(j:Nat) (u:Value),[x,y,z][j]?=some u->w.cell? ((⟨b,0,none⟩:Addr).add j)=some u:=fun j u a=>by
 rw[Qaq,h.cell,Nat.zero_add,<-a];simp
theorem Qu0{w:Vz}{g k:Nat}{t:Vr}{c:List MR}{b:MR}(h:SB w g t (c.flatMap MR.cells).toArray)(hk:c[k]?=some b):w.cell? ⟨g,k,none⟩=some (.slice b.a b.ts.length b.cap):=by
 rw[h.cell,Qeq];simp[hk,MR.val]
theorem Qu1{w:Vz}{g b i:Nat}{t:Vr}{e:List MR}{x y z:Value}{q:Rat}(h:SB w g t (e.flatMap MR.cells).toArray)(f:w.cell? ⟨b,i,none⟩=some x)(n:FracV w (.agg #[x,y,z]) q):b≠g:=by
 rintro rfl;rw[h.cell] at f;obtain⟨_,_,_,j⟩:=mr_sl e x (mO (by simpa using f));obtain⟨neg,a,m,c,b,k,d,l,_⟩:=n;simp at l;rw[l.1] at j;cases j
theorem Qav{w u:Vz}(h:Below w.heap.size w u)(o:Obj):Below w.heap.size w (u.alloc o):=h.alloc h.size o
theorem Qaw{w u:Vz}(h:Below w.heap.size w u):Below w.heap.size w u.drew:=h.drew
theorem Qu2{w:Vz}{B:Nat}{e:Vr}{sz:Nat}{K:Value->Prop}{v:Value}{n:Nat}{xs:Vv}(h:Grow w B e sz K v n xs)(o:Obj):Grow (w.alloc o) B e sz K v n xs:=h.below (bR.alloc lZ _)
theorem Qu3{w:Vz}{B:Nat}{e:Vr}{sz:Nat}{K:Value->Prop}{v:Value}{n:Nat}{xs:Vv}(h:Grow w B e sz K v n xs):Grow w.drew B e sz K v n xs:=h.below bR.drew
theorem Qu4{w u:Vz}{a:Vx}{cap:Nat}{ts:List FE}(h:QRow w a cap ts)(hl:ts.length<=1000)(c:Below w.heap.size w u):
 Calls prog 145 #[.slice a ts.length cap] u fun e d=>(∃v,e=.returned v/\Grow d w.heap.size 141 3 (fun _=>True) v ts.length (ts.flatMap FE.cells))/\Below w.heap.size w d/\∀b t C,SB u b t C->SB d b t C:=by
 refine(Quw a cap ts u (h.below c) hl).mono ?_;rintro e d ⟨⟨v,rfl,i⟩,f⟩;exact⟨⟨v,rfl,i.mono c.size⟩,c.trans (f.mono c.size),fun b t C g=>g.below f g.lt⟩
theorem Qu5{h:Array Oper}{o:Oper}{a:Act}{u:Vz}{K':Act->World->Prop}{Q:Exit->Act->World->Prop}{E:Prop}(J:o.guard=none)(i x:Operand)(j:o.op=Op.call { callee:=Callee.builtin Builtin.append,args:=#[i,x],argTypes:=#[93,93] })
 {w:Vz} {v:Value} {r:MR} {s:FE} {W K nb c:Nat} (L:a.eval i=v) (M:a.eval x=.slice (some ⟨nb,0,none⟩) 1 c) (hG:Grow u w.heap.size 141 3 (fun _=>True) v W (r.ts.flatMap FE.cells)) (hB:Below w.heap.size w u) (hC:SB u nb 141 #[s.x,s.y,s.z])
 (D:QRow w r.a r.cap r.ts) (hl:r.ts.length=W) (U:W<=1000) (hk:∀t,t∈ r.ts->t.k<=K) (l:FracV w (.agg #[s.x,s.y,s.z]) s.q/\Fits s.q s.k/\0<s.k) (m:s.k<=K)
 (N:∀b n,MOk n (W+1) K b->b.q=wider W r.q s.q->Below w.heap.size w n->K' (a.put o.dst (.slice b.a b.ts.length b.cap)) n):
 if Region.wanted o (yielded h a.tmps)=true then Oper.wp prog o a u K' Q else E:=by
 obtain⟨V,O,F⟩:=Option.map_eq_some_iff.1 Qep;simp only[Prod.mk.injEq] at F;obtain⟨p,A,hz2⟩:=F;obtain⟨R,S,T⟩:=l.1.one;refine Quy (P:=prog) J i x j L M hG underlying93 O p A hz2 rfl (by decide) Qla [s.x,s.y,s.z] rfl (Quz hC) (fun u G=>by
  simp at G;rcases G with rfl|rfl|rfl
  . exact R
  . exact S
  . exact T) (fun _ _=>trivial) (by omega) (by decide) hB.size ?_
 intro X B e f H;have d:Below w.heap.size w B:=hB.grown f hB.size (fun k hk=>(hG.lt hk).1);obtain⟨b,rfl,g,C⟩:=Qux (u:=B) (r:=r) (s:=s) (W:=W) (K:=K) e (fun t I=>⟨(D.ts t I).1.below d,(D.ts t I).2⟩) hl hk ⟨l.1.below d,l.2⟩ m;exact N b B g C d
theorem Qu6(a a':Vx)(cap cap' W K:Nat)(rs:List MR)(E:List FE)(w:Vz)(h:QMat w a cap W rs)(hk:∀r,r∈ rs->∀t,t∈ r.ts->t.k<=K)(h':QRow w a' cap' E)(n:∀t,t∈ E->t.k<=K)(Q:E.length=rs.length)(hl:rs.length<=1000)(hW:W<=1000):
 Calls prog 100 #[.slice a rs.length cap,.slice a' rs.length cap'] w fun e w'=>(∃(g:Nat) (A:List MR),e=.returned (.slice (some ⟨g,0,none⟩) rs.length rs.length)/\A.length=rs.length/\SB w' g 93 (A.flatMap MR.cells).toArray/\Oks w' (W+1) K A/\∀(i:Nat) (r:MR) (s:FE),rs[i]?=some r->E[i]?=some s->∃b,A[i]?=some b/\b.q=wider W r.q s.q)/\Below w.heap.size w w':=by
 obtain⟨HH,HK⟩:=Ia h hk;have R:=Hi h';have aj:=Hi n;have B:=Hi Q;clear Q;have S:=fun w=>Qk4 rs.length (by omega) w
 obtain⟨MC,I⟩:=nm (((List.replicate rs.length MR.none).flatMap MR.cells).toArray);rw[I] at S;have ak:=Hi I;clear h hk h' n I;obtain⟨i0,J,hz⟩:=Option.map_eq_some_iff.1 Qep;simp only[Prod.mk.injEq] at hz;obtain⟨T,U,hz2⟩:=hz;obtain⟨HI,a2,a3,a4⟩:=Ic J T U hz2;clear J T U hz2;go_enter func100,ntmps100;go_wp2_with fail;clear S;obtain⟨g,X⟩:=nm w.heap.size;obtain⟨V,hV⟩:=nm (w.alloc (.cells MC 93));have al:O (Below g w V):=Hi (by rw[<-hV,<-X];exact(Below.refl _ _).alloc lZ _);have am:O (SB V g 93 ((List.replicate rs.length MR.none).flatMap MR.cells).toArray):=Hi (by rw[<-hV,<-X,ak.o];exact SB.new w _ _)
 try rw[hV]
 try rw[X]
 clear hV;go_loopw [13] (fun i wr=>∃(k:Nat) (l:List MR),k<=rs.length/\i=.int .i64 k/\l.length=rs.length/\SB wr g 93 (l.flatMap MR.cells).toArray/\(∀(i:Nat) (r:MR) (s:FE),i<k->rs[i]?=some r->E[i]?=some s->∃b,l[i]?=some b/\MOk wr (W+1) K b/\b.q=wider W r.q s.q)/\Below g w wr) (fun i _=>rs.length - (intOf i).toNat)
 case atStart=>exact⟨0,_,by omega,rfl,by simp,am.o,fun i r s J=>by omega,al.o⟩
 case round=>
  obtain⟨k,l,hk,rfl,Y,L,F,hb⟩:=hrel;obtain⟨HB,C,HA⟩:=Ib hb L F;have an:=L.lt;clear hb L F;by_cases ao:k<rs.length
  .
   obtain⟨r,m⟩:∃r,rs[k]?=some r:=⟨rs[k],gE ao⟩;obtain⟨s,M⟩:∃s,E[k]?=some s:=⟨E[k]'(by have:=B.o;omega),gE (by have:=B.o;omega)⟩;have f:Below w.heap.size w wr:=by rw[X];exact HB.o
   obtain⟨fb,a5,rfl,a6,d⟩:=(HH.o.below f).at m;obtain⟨hq,Z⟩:=(HH.o.below f).get m;obtain⟨sb,so,rfl,G,d0,d1,d2⟩:=(R.o.below f).at M;obtain⟨N,HQ,HR,ap,aq,ar⟩:=Ie ((R.o.below f).get M) hq m M (HK.o r (mO m)) (aj.o s (mO M));obtain⟨o1,o2,o3⟩:=N.o.1.one;have a7:O (∀u,u∈ [s.x,s.y,s.z]->u.oneCell'=true):=Hi (fun u hu=>by
    simp at hu;rcases hu with rfl|rfl|rfl
    . exact o1
    . exact o2
    . exact o3)
   have q1:((k:Int)<(rs.length:Int)):=by omega
   clear m M hq f o1 o2 o3;have D:r.ts.length<=1000:=by omega
   have aa:=Hi (fun u=>Qu4 (u:=u) HQ.o D);rw[Z] at aa;have a0:O (SB wr g 93 (l.flatMap MR.cells).toArray):=C;obtain⟨r0,ab⟩:∃r0,l[k]?=some r0:=⟨l[k]'(by omega),gE (by omega)⟩;obtain⟨au,D0,D1,D2⟩:=Ic ab d0 d1 d2;clear ab;go_wp2_with fail;go_region_held3 (fun v=>v.cell? ⟨sb,so+k*3,none⟩=some s.x/\v.cell? ⟨sb,so+k*3+1,none⟩=some s.y/\v.cell? ⟨sb,so+k*3+2,none⟩=some s.z) ((first|(simp [*];done)|go_keep)) (first
    |(
     go_at_call 145;apply cM;apply aa.o;(focus(repeat(first|exact Below.refl _ _|apply Qav|apply Qaw)));rintro e1 w1 ⟨⟨v1,rfl,ad⟩,ae,af⟩;obtain⟨P,av,aw⟩:=Ib ae ad af;clear ad ae af;obtain⟨d0,d1,d2⟩:=Jb P.o G D0.o D1.o D2.o;have a8:=P.o.size
     skip)
    |(
     refine Qu5 rfl (.tmp 21) (.tmp 26) rfl (w:=wr) (v:=v1) (r:=r) (s:=s) (W:=W) (K:=K) rfl rfl ?hG ?hB ?hC HQ.o Z hW aq.o N.o ar.o ?_
     case hG=>(focus(repeat(first|exact av.o|apply Qu2|apply Qu3)))
     case hB=>(focus(repeat(first|exact P.o|apply Qav|apply Qaw)))
     case hC=>(first|exact SB.new _ _ _|exact aw.o _ _ _ (SB.new _ _ _))
     intro b w2 H ag ah;obtain⟨j,ax⟩:=Ia ah H;have ay:=Hi ag;clear H ag ah;have c:=Hi (C.o.below j.o C.o.lt);obtain⟨d0,d1,d2⟩:=Jb j.o G D0.o D1.o D2.o;have f0:=c.o.free k;have t0:=Qu0 c.o au.o;have az:=Qu1 c.o d0 (N.o.1.below j.o);have a1:=az.symm
     skip)
    |fail)
   all_goals
    go_wp2_with fail;have ho:Only g w2 (w2.setCell ⟨g,k,none⟩ (.slice b.a b.ts.length b.cap)):=(Only.refl _ _).setCell _ _;have ai:Fr w2 (w2.setCell ⟨g,k,none⟩ (.slice b.a b.ts.length b.cap)):=Fr.of_only ho c.o (IsSl.plain fun u hu=>mr_sl l u (by simpa using hu));refine⟨⟨k+1,l.set k b,by omega,by go_num,by rw[List.length_set];exact Y,?_,?_,(HB.o.trans (j.o.mono (Nat.le_of_lt an))).setCell (p:=⟨g,k,none⟩) lZ _⟩,?_⟩
    .
     have:=c.o.set k (.slice b.a b.ts.length b.cap);rw[Qk3]
     simpa using this
    .
     intro i x y J hx hy;rcases Nat.lt_or_ge i k with h1|h1
     . obtain⟨z,z1,z2,z3⟩:=HA.o i x y h1 hx hy
       exact⟨z,by rw[List.getElem?_set_ne (by omega)];exact z1,(z2.fr (Fr.of_below j.o)).fr ai,z3⟩
     .
      obtain rfl:i=k:=by omega
      obtain rfl:=Option.some.inj (HR.o.symm.trans hx);obtain rfl:=Option.some.inj (ap.o.symm.trans hy);exact⟨b,by rw[List.getElem?_set_self (by omega)],ax.o.fr ai,ay.o⟩
    . simp[intOf]
      omega
  .
   have n:k=rs.length:=by omega
   subst n;go_wp2;go_ret;rw[X];refine⟨⟨g,l,rfl,Y,C.o,fun r m=>?_,fun i r s m M=>?_⟩,HB.o⟩
   .
    obtain⟨i,J⟩:=List.mem_iff_getElem?.1 m;have a9:=(gZ J).1;obtain⟨z,z1,z2,_⟩:=HA.o i (rs[i]'(by omega)) (E[i]'(by have:=B.o;omega)) (by omega) (gE (by omega)) (gE (by have:=B.o;omega));obtain rfl:=Option.some.inj (J.symm.trans z1);exact z2
   . obtain⟨z,z1,_,z3⟩:=HA.o i r s (gZ m).1 m M
     exact⟨z,z1,z3⟩
def redFits(K:Nat)(r:Vec):List Vec->List Nat->Prop
 |t :: T,h :: hs=>(∀i,Fits (r i) K)/\redFits K (fun i=>r i - t i*r h) T hs
 |_,_=>∀i,Fits (r i) K
def clnFits(K:Nat):List Vec->List Nat->Prop
 |r :: S,h :: hs=>clnFits K S hs/\redFits K (fun i=>r i / r h) (cln S hs) hs
 |_,_=>True
theorem redFits.here{K:Nat}{r:Vec}:∀{T:List Vec} {hs:Vy},redFits K r T hs->∀i,Fits (r i) K
 |_ :: _,_ :: _,h=>h.1
 | [],_,h=>by unfold redFits at h;exact h
 |_ :: _,[],h=>by unfold redFits at h;exact h
theorem clnFits.drop{K:Nat}:∀{S:List Vec} {hs:Vy} (i:Nat),clnFits K S hs->clnFits K (S.drop i) (hs.drop i)
 |_,_,0,h=>h
 |r :: S,h :: hs,i+1,k=>clnFits.drop i k.1
 | [],_,i+1,h=>by rw[List.drop_nil];trivial
 |r :: S,[],i+1,h=>by
  rw[List.drop_nil];generalize List.drop (i+1) (r :: S)=T;cases T<;>simp[clnFits]
structure CW (w u:Vz) (B W K:Nat) (S:List MR) (hs:Vy) (wd sv hv:Value):Prop where
 box:SB u w.heap.size 135 #[wd,sv,hv]
 rows:Grow u B 93 1 IsSl sv S.length (S.map MR.val)
 heads:Grow u B 3 1 IsI hv hs.length (headsV hs)
 ok:Oks u W K S
 base:∀k,k<w.heap.size->sv.ownBlock≠some k->u.heap[k]?=w.heap[k]?
 o:u.os=w.os/\u.tape=w.tape/\u.output=w.output/\w.heap.size<=u.heap.size
section
variable {w u:Vz} {B W K:Nat} {S:List MR} {hs:Vy} {wd sv hv:Value}
theorem CW.below{c:Vz}(h:CW w u B W K S hs wd sv hv)(a:Below u.heap.size u c):CW w c B W K S hs wd sv hv:=
 ⟨h.box.below a h.box.lt,h.rows.below a,h.heads.below a,h.ok.fr (Fr.of_below a),fun k hk b=>(a.block k (Nat.lt_of_lt_of_le hk h.o.2.2.2)).trans (h.base k hk b),⟨a.os.trans h.o.1,a.tape.trans h.o.2.1,a.output.trans h.o.2.2.1,Nat.le_trans h.o.2.2.2 a.size⟩⟩
theorem CW.set{g cap m n:Nat}{r:MR}(h:CW w u B W K S hs wd (.slice (some ⟨g,0,none⟩) n cap) hv)(f:n=S.length)(i:m<S.length)(j:MOk u W K r):CW w (u.setCell ⟨g,m,none⟩ r.val) B W K (S.set m r) hs wd (.slice (some ⟨g,0,none⟩) n cap) hv:=by
 subst f;have a:Only g u (u.setCell ⟨g,m,none⟩ r.val):=(Only.refl _ _).setCell _ _;obtain⟨C,c1,c2⟩:=h.rows.sb (g:=g) rfl;have b:=Fr.of_only a c1 (IsSl.plain c2);refine⟨h.box.only a (h.box.unlike c1 row_stairs.symm),?_,h.heads.keep fun k hk=>a.block k (h.heads.lt hk).2 ?_,fun x d=>?_,fun k hk c=>?_,⟨a.os.trans h.o.1,a.tape.trans h.o.2.1,a.output.trans h.o.2.2.1,Nat.le_trans h.o.2.2.2 a.size⟩⟩
 . rw[List.length_set,List.map_set]
   exact h.rows.set i ⟨_,_,_,rfl⟩
 . obtain⟨D,d1,_⟩:=h.heads.sb hk
   exact d1.unlike c1 int_row
 .
  rcases List.mem_or_eq_of_mem_set d with d|rfl
  . exact(h.ok x d).fr b
  . exact j.fr b
 .
  refine(a.block k (Nat.lt_of_lt_of_le hk h.o.2.2.2) (fun e=>c ?_)).trans (h.base k hk c);subst e;rfl
end
theorem Qu7(x:Rat):(0:Rat) / x=0:=by grind
theorem Qu8(x:Rat):(0:Rat) - 0*x=0:=by grind
theorem Grow.crow{w:Vz}{B sz l cap:Nat}{e:Vr}{K:Value->Prop}{a:Vx}{n:Nat}{xs:Vv}(h:Grow w B e sz K (.slice a l cap) n xs):CRow w a xs:=by
 obtain⟨d,cap',e,_,b,_⟩:=h.slice;injection e with c _ _
 rw[c];exact b
theorem Qu9{r t:Vec}{h:Nat}{T:List Vec}{hs:Vy}(a:r h=0):red r (t :: T) (h :: hs)=red r T hs:=by
 have e:(fun i=>r i - t i*r h)=r:=by funext i;rw[a];grind
 simp only[red];rw[e]
theorem redFits.next{K:Nat}{r t:Vec}{h:Nat}{T:List Vec}{hs:Vy}(k:redFits K r (t :: T) (h :: hs)):redFits K (fun i=>r i - t i*r h) T hs:=k.2
theorem redFits.skip{K:Nat}{r t:Vec}{h:Nat}{T:List Vec}{hs:Vy}(k:redFits K r (t :: T) (h :: hs))(a:r h=0):redFits K r T hs:=by
 have e:(fun i=>r i - t i*r h)=r:=by funext i;rw[a];grind
 have:=k.2;rw[e] at this;exact this
theorem Qde{α:Type}{l:List α}{i:Nat}{x:α}(h:l[i]?=some x):l.drop i=x :: l.drop (i+1):=by
 obtain⟨a,b⟩:=gZ h;rw[List.drop_eq_getElem_cons a,b]
theorem Qva{K:Nat}{S a:List MR}{hs:Vy}{j h:Nat}{r:MR}(hl:S.length=hs.length)(e:S[j]?=some r)(f:hs[j]?=some h)(g:(a.drop (j+1)).map MR.q=cln ((S.map MR.q).drop (j+1)) (hs.drop (j+1)))(k:clnFits K (S.map MR.q) hs):
 cln ((S.map MR.q).drop j) (hs.drop j)=red (fun i=>r.q i / r.q h) ((a.drop (j+1)).map MR.q) (hs.drop (j+1)) :: (a.drop (j+1)).map MR.q/\redFits K (fun i=>r.q i / r.q h) ((a.drop (j+1)).map MR.q) (hs.drop (j+1)):=by
 have b:(S.map MR.q).drop j=r.q :: (S.map MR.q).drop (j+1):=Qde (by rw[List.getElem?_map,e];rfl);have c:=Qde f;have d:=k.drop j;rw[b,c] at d;rw[b,c,g];exact⟨rfl,d.2⟩
end Go.Proofs.YtppkmifkpjkgpaaGreatDoor
namespace Go.Proofs.YtppkmifkpjkgpaaGreatDoor
open Go.Proofs.Tryz
set_option linter.unusedSimpArgs false
set_option linter.unusedVariables false
set_option maxHeartbeats 8000000
set_option maxRecDepth 1000000
theorem Qfz:∀(W:Nat) (r s x:Vec),dot W (fun i=>r i+s i) x=dot W r x+dot W s x
 |0,_,_,_=>by simp only[dot];grind
 |W+1,r,s,x=>by simp only[dot,Qfz W r s x];grind
theorem Qd7:∀(W:Nat) (r x:Vec) (q:Rat),dot W (fun i=>r i*q) x=dot W r x*q
 |0,_,_,_=>by simp[dot]
 |W+1,r,x,q=>by simp only[dot,Qd7 W r x q];grind
def Span(k:Nat)(R:Nat->Vec)(v:Vec):Prop:=∃l:Vec,∀j,v j=dot k l (fun i=>R i j)
def MI(W N:Nat)(M:List Vec)(c:Nat)(L S:List Vec)(hs:Vy):Prop:=
 hs.length<=c/\(hs.length+L.length<=N∨hs.length<=N/\W<=N)/\(∀v,v∈ L->∀i,W<=i->v i=0)/\
 ∃R:Nat->Vec,(∀i,i<hs.length->R i∈ M)/\
  (∀m:Vec,(∀h,h∈ hs->dot hs.length m (fun i=>R i h)=0)->∀i,i<hs.length->m i=0)/\
  (∀v,v∈ L->∃r,r∈ M/\∃l:Vec,(∀j,v j=r j - dot hs.length l (fun i=>R i j))/\∀h,h∈ hs->v h=0)/\∀s,s∈ S->Span hs.length R s
theorem MI.start(W N:Nat)(M:List Vec)(b:∀v,v∈ M->∀i,W<=i->v i=0)(f:M.length<=N∨W<=N):MI W N M 0 M [] []:=
 ⟨Nat.le_refl _,by simp only[List.length_nil];omega,b,fun _ _=>0,fun i a=>absurd a (by simp),fun m _ i a=>absurd a (by simp),fun v c=>⟨v,c,fun _=>0,fun j=>by simp[dot,Rat.sub_eq_add_neg,Rat.add_zero],fun h d=>by cases d⟩,fun s e=>by cases e⟩
theorem MI.skip{W N:Nat}{M:List Vec}{c:Nat}{L S:List Vec}{a:Vy}(h:MI W N M c L S a):MI W N M (c+1) L S a:=by
 obtain⟨f,b,d,e⟩:=h;exact⟨by omega,b,d,e⟩
theorem MI.step{W N:Nat}{M:List Vec}{c j:Nat}{L S:List Vec}{a:Vy}{s:Vec}(h:MI W N M c L S a)(F:L[j]?=some s)(y:s c≠0):
 MI W N M (c+1) ((L.eraseIdx j).map (lessBy c s)) (S++ [s]) (a++ [c]):=by
 obtain⟨h1,h2,z,R,P,Q,G,T⟩:=h;have n:s∈ L:=mO F;have A:j<L.length:=(gZ F).1;have B:((L.eraseIdx j).map (lessBy c s)).length=L.length - 1:=by rw[List.length_map,List.length_eraseIdx_of_lt A]
 obtain⟨r,U,l,hl,H⟩:=G s n;have b:(a++ [c]).length=a.length+1:=by simp
 have V:c<W:=bC fun hn=>y (z s n c (by omega))
 have d:∀(m:Vec) (i:Nat),dot (a.length+1) m (fun t=>(if t=a.length then r else R t) i)=dot a.length m (fun t=>R t i)+m a.length*r i:=fun m i=>by
  simp only[dot];rw[Qau a.length m _ m (fun t=>R t i) (fun t p=>by rw[if_neg (by omega)])];simp
 refine⟨by rw[b];omega,by rw[b,B];omega,?_,fun t=>if t=a.length then r else R t,?_,?_,?_,?_⟩
 .
  intro v f i q;obtain⟨u,C,rfl⟩:=List.mem_map.1 f;have o:=List.mem_of_mem_eraseIdx C;simp only[lessBy];rw[z u o i q,z s n i q];grind
 .
  intro i q;rw[b] at q;by_cases x:i=a.length
  . show (if i=a.length then r else R i)∈ M
    rw[if_pos x];exact U
  . show (if i=a.length then r else R i)∈ M
    rw[if_neg x];exact P i (by omega)
 .
  intro m I;rw[b] at I ⊢;have w:∀h,h∈ a++ [c]->dot a.length m (fun t=>R t h)+m a.length*r h=0:=fun h e=>by rw[<-d];exact I h e
  have g:∀i,r i=s i+dot a.length l (fun t=>R t i):=fun i=>by rw[hl i];grind
  have k:∀h,dot a.length (fun t=>m t+l t*m a.length) (fun t=>R t h)=dot a.length m (fun t=>R t h)+dot a.length l (fun t=>R t h)*m a.length:=fun h=>by rw[Qfz,Qd7]
  have hk:=Q (fun t=>m t+l t*m a.length) (fun h e=>by
   rw[k];have X:=w h (by simp[e]);rw[g h,H h e] at X
   grind)
  have Y:=w c (by simp);rw[g c] at Y;have Z:dot a.length (fun t=>m t+l t*m a.length) (fun t=>R t c)=0:=Qbq _ _ _ (fun t p=>by rw[hk t p];grind);rw[k] at Z;have e4:m a.length*s c=0:=by grind
  have J:m a.length=0:=by
   rcases Rat.mul_eq_zero.1 e4 with h|h
   . exact h
   . exact absurd h y
  intro i q;by_cases x:i=a.length
  . rw[x];exact J
  .
   have:=hk i (by omega);simp only[J] at this;grind
 .
  intro v f;obtain⟨u,C,rfl⟩:=List.mem_map.1 f;have o:=List.mem_of_mem_eraseIdx C;obtain⟨r',D,K,E,g⟩:=G u o;refine⟨r',D,fun t=>if t=a.length then u c / s c else K t - l t*(u c / s c),fun i=>?_,fun h e=>?_⟩
  .
   rw[b,d];rw[Qau a.length _ _ (fun t=>K t - l t*(u c / s c)) (fun t=>R t i) (fun t p=>by rw[if_neg (by omega)]),Qbr];simp only[lessBy,if_true];rw[E i,hl i];grind
  .
   simp only[lessBy];rcases List.mem_append.1 e with e|e
   . rw[g h e,H h e];grind
   .
    simp only[List.mem_singleton] at e;subst e;rw[Rat.div_def,Rat.mul_comm (u h),<-Rat.mul_assoc,Rat.mul_inv_cancel _ y];grind
 .
  intro v f;rw[b];rcases List.mem_append.1 f with f|f
  .
   obtain⟨O,e0⟩:=T v f;refine⟨fun t=>if t=a.length then 0 else O t,fun i=>?_⟩;rw[d,Qau a.length _ _ O (fun t=>R t i) (fun t p=>by rw[if_neg (by omega)]),e0 i];simp only[if_true];grind
  .
   simp only[List.mem_singleton] at f;subst f;refine⟨fun t=>if t=a.length then 1 else l t*(-1),fun i=>?_⟩;rw[d,Qau a.length _ _ (fun t=>l t*(-1)) (fun t=>R t i) (fun t p=>by rw[if_neg (by omega)]),Qd7,hl i];simp only[if_true];grind
theorem Qf0:∀(n:Nat) (u x:Nat->Int),((Sg.isum n (fun j=>u j*x j):Int):Rat)=dot n (fun j=>(x j:Rat)) (fun j=>(u j:Rat))
 |0,_,_=>by simp[Sg.isum,dot]
 |n+1,u,x=>by
  simp only[Sg.isum,dot];rw[Rat.intCast_add,Rat.intCast_mul,Qf0 n u x];grind
theorem Qf1:∀(W:Nat) (r x:Vec) (q:Rat),dot W r (fun i=>x i*q)=dot W r x*q
 |0,_,_,_=>by simp[dot]
 |W+1,r,x,q=>by simp only[dot,Qf1 W r x q];grind
theorem Qf2{v:Rat}{Z y:Int}{d K:Nat}(c:y≠0)(f:0<d)(e:v*((y:Rat)*(d:Rat))=(Z:Rat))(q:Z.natAbs<2 ^ K)(g:y.natAbs*d<2 ^ K)(i:0<K):Fits v K:=by
 have j:(y:Rat)≠0:=by
  intro h;exact c (Rat.intCast_inj.1 (by rw[h];rfl))
 have k:(d:Rat)≠0:=by
  intro h;have:d=0:=Rat.natCast_inj.1 (by rw[h];rfl);omega
 have l:∃a:Int,a.natAbs=Z.natAbs/\v*((y.natAbs*d:Nat):Rat)=(a:Rat):=by
  rw[Rat.natCast_mul];rcases Int.natAbs_eq y with b|b
  .
   refine⟨Z,rfl,?_⟩;rw[<-e];have:(y:Rat)=((y.natAbs:Nat):Rat):=by
    rw[<-Rat.intCast_natCast,<-b]
   rw[this]
  .
   refine⟨-Z,Int.natAbs_neg Z,?_⟩;have:(y:Rat)= -((y.natAbs:Nat):Rat):=by
    rw[<-Rat.intCast_natCast,<-Rat.intCast_neg,<-b]
   rw[Rat.intCast_neg,<-e,this];grind
 obtain⟨a,r,m⟩:=l;have n:0<y.natAbs*d:=Nat.mul_pos (by omega) f;have o:((y.natAbs*d:Nat):Rat)≠0:=by
  intro h;have:y.natAbs*d=0:=Rat.natCast_inj.1 (by rw[h];rfl);omega
 have p:v=mkRat a (y.natAbs*d):=by
  rw[Rat.mkRat_eq_div,<-m,Rat.div_def,Rat.mul_assoc,Rat.mul_inv_cancel _ o,Rat.mul_one]
 rw[p];exact Fits.mk (by omega) g i
theorem MI.fit{W0 W a K:Nat}{M:List Vec}{D:Nat->Nat}(V:0<a)(E:∀j,0<D j/\D j<=a)(hM:∀r,r∈ M->∀j,∃z:Int,r j*(D j:Rat)=(z:Rat)/\z.natAbs<=a)
 (hK:(W+1)*(a*(2*((W+1)*a)) ^ W)<2 ^ K) (F:0<K) {c:Nat} {L S:List Vec} {o:Vy} (h:MI W0 W M c L S o):∀v,v∈ L->∀j,Fits (v j) K:=by
 obtain⟨_,G,_,R,X,H,hL,_⟩:=h;intro v hv j;obtain⟨r,hr,l,hl,I⟩:=hL v hv;obtain⟨k,hk⟩:=nm o.length;rw[hk] at G X H hl;replace G:k<=W:=by omega
 have J:∀t,t<k+1->(if t=k then r else R t)∈ M:=fun t b=>by
  by_cases B:t=k
  . rw[if_pos B];exact hr
  . rw[if_neg B];exact X t (by omega)
 have d:∀t,t<k+1->∀i,(if t=k then r else R t) i*(D i:Rat)=((((if t=k then r else R t) i*(D i:Rat)).num:Int):Rat)/\(((if t=k then r else R t) i*(D i:Rat)).num).natAbs<=a:=fun t b i=>by
  obtain⟨z,e,I⟩:=hM _ (J t b) i;rw[e,Rat.num_intCast];exact⟨rfl,I⟩
 obtain⟨y,⟨Z,aa,p⟩,hy,u⟩:=Sg.siegel k a V (fun t i=>((if i=k then r else R i) (o.getD t 0)*(D (o.getD t 0):Rat)).num) (fun t i b hi=>by
  have:=(d i hi (o.getD t 0)).2
  omega)
 have w:∀i,dot (k+1) (fun t=>(y t:Rat)) (fun t=>(if t=k then r else R t) i)=dot k (fun t=>(y t:Rat)) (fun t=>R t i)+(y k:Rat)*r i:=fun i=>by
  simp only[dot];rw[Qau k _ _ (fun t=>(y t:Rat)) (fun t=>R t i) (fun t b=>by rw[if_neg (by omega)])];simp
 have m:∀i,((Sg.isum (k+1) (fun t=>((if t=k then r else R t) i*(D i:Rat)).num*y t):Int):Rat)=(dot k (fun t=>(y t:Rat)) (fun t=>R t i)+(y k:Rat)*r i)*(D i:Rat):=fun i=>by
  rw[Qf0,<-w,<-Qf1];exact Qau _ _ _ _ _ (fun t b=>by rw[<-(d t b i).1])
 have N:∀i,(D i:Rat)≠0:=fun i h=>by
  have q:D i=0:=Rat.natCast_inj.1 (by rw[h];rfl);have:=(E i).1;omega
 have f:∀h,h∈ o->dot k (fun t=>(y t:Rat)) (fun t=>R t h)+(y k:Rat)*r h=0:=fun h s=>by
  obtain⟨t,b,e⟩:=List.mem_iff_getElem.1 s;have q:=hy t (by omega);have O:o.getD t 0=h:=by rw[List.getD_eq_getElem?_getD,gE b,e];rfl
  simp only[O] at q;have C:=m h;rw[q] at C;rcases Rat.mul_eq_zero.1 C.symm with P|P
  . exact P
  . exact absurd P (N h)
 have Q:y k≠0:=by
  intro h0;have x:=H (fun t=>(y t:Rat)) (fun h s=>by
   have:=f h s;rw[h0,show ((0:Int):Rat)=0 from rfl] at this
   grind)
  by_cases B:Z=k
  . rw[B] at p;exact p h0
  . have:=x Z (by omega)
    exact p (Rat.intCast_inj.1 (by rw[this];rfl))
 have n:∀i,dot k (fun t=>(y t:Rat)+l t*(y k:Rat)) (fun t=>R t i)=dot k (fun t=>(y t:Rat)) (fun t=>R t i)+dot k l (fun t=>R t i)*(y k:Rat):=fun i=>by rw[Qfz,Qd7]
 have A:=H (fun t=>(y t:Rat)+l t*(y k:Rat)) (fun h s=>by
  rw[n];have e1:=f h s;have O:=hl h;rw[I h s] at O
  grind)
 have T:dot k (fun t=>(y t:Rat)+l t*(y k:Rat)) (fun t=>R t j)=0:=Qbq _ _ _ (fun t b=>by rw[A t b];grind);rw[n] at T;have U:v j*((y k:Rat)*(D j:Rat))=((Sg.isum (k+1) (fun t=>((if t=k then r else R t) j*(D j:Rat)).num*y t):Int):Rat):=by
  rw[m,hl j];grind
 have g:(2*((k+1)*a)) ^ k<=(2*((W+1)*a)) ^ W:=
  Nat.le_trans (Nat.pow_le_pow_left (Nat.mul_le_mul_left _ (Nat.mul_le_mul_right _ (by omega))) k) (Nat.pow_le_pow_right (Nat.mul_pos (by omega) (Nat.mul_pos (by omega) V)) G)
 obtain⟨Y,hY⟩:=nm ((2*((W+1)*a)) ^ W);rw[hY] at g hK;have hb:=Sg.isum_le (k+1) (fun t=>((if t=k then r else R t) j*(D j:Rat)).num*y t) (-((a*Y:Nat):Int)) ((a*Y:Nat):Int) (fun t b=>by
  have q:=(d t b j).2;have C:(((if t=k then r else R t) j*(D j:Rat)).num*y t).natAbs<=a*Y:=by
   rw[Int.natAbs_mul];exact Nat.mul_le_mul q (Nat.le_trans (u t) g)
  omega)
 have ab:(k+1)*(a*Y)<=(W+1)*(a*Y):=Nat.mul_le_mul_right _ (by omega);refine Qf2 Q (E j).1 U ?_ ?_ F
 . rw[Int.mul_neg,<-Int.natCast_mul] at hb
   omega
 .
  have q:(y k).natAbs*D j<=Y*a:=Nat.mul_le_mul (Nat.le_trans (u k) g) (E j).2;have C:a*Y<=(W+1)*(a*Y):=Nat.le_mul_of_pos_left _ (by omega);rw[Nat.mul_comm Y a] at q;omega
theorem Span.less{k:Nat}{R:Nat->Vec}{v u:Vec}(h:Span k R v)(a:Span k R u)(q:Rat):Span k R (fun i=>v i - u i*q):=by
 obtain⟨l,e⟩:=h;obtain⟨b,c⟩:=a;refine⟨fun t=>l t - b t*q,fun j=>?_⟩
 show v j - u j*q=_
 rw[Qbr,e j,c j];grind
theorem Span.over{k:Nat}{R:Nat->Vec}{v:Vec}(h:Span k R v)(q:Rat):Span k R (fun i=>v i / q):=by
 obtain⟨l,e⟩:=h;refine⟨fun t=>l t / q,fun j=>?_⟩
 show v j / q=_
 rw[Qc1,e j]
theorem Qf3{k:Nat}{R:Nat->Vec}:∀(T:List Vec) (a:Vy) (r:Vec),Span k R r->(∀t,t∈ T->Span k R t)->Span k R (red r T a)
 |t :: T,h :: a,r,hr,hT=>by
  simp only[red];exact Qf3 T a _ (hr.less (hT t (by simp)) _) (fun t b=>hT t (by simp[b]))
 | [],_,r,hr,hT=>by unfold red;exact hr
 |_ :: _,[],r,hr,hT=>by unfold red;exact hr
theorem Qjd{k:Nat}{R:Nat->Vec}:∀(S:List Vec) (b:Vy),(∀s,s∈ S->Span k R s)->∀v,v∈ cln S b->Span k R v
 |r :: S,h :: b,hS,v,a=>by
  have c:=Qjd S b (fun s b=>hS s (by simp[b]));simp only[cln,List.mem_cons] at a;rcases a with rfl|a
  . exact Qf3 _ _ _ ((hS r (by simp)).over _) c
  . exact c v a
 | [],_,_,v,a=>by unfold cln at a;cases a
 |_ :: _,[],_,v,a=>by unfold cln at a;cases a
theorem Qf4{W a K k:Nat}{M:List Vec}{D:Nat->Nat}{R:Nat->Vec}{H:Vy}(ha:0<a)(N:∀j,0<D j/\D j<=a)(hM:∀r,r∈ M->∀j,∃z:Int,r j*(D j:Rat)=(z:Rat)/\z.natAbs<=a)
 (hK:(W+1)*(a*(2*((W+1)*a)) ^ W)*a<2 ^ K) (P:0<K) (Q:H.length=k) (hW:k<=W) (hR:∀i,i<k->R i∈ M)
 (hI:∀m:Vec,(∀h,h∈ H->dot k m (fun i=>R i h)=0)->∀i,i<k->m i=0) {v:Vec} (hv:Span k R v) {h:Nat} (hh:h∈ H) (A:v h=1) (h0:∀x,x∈ H->x≠h->v x=0) (j:Nat):Fits (v j) K:=by
 obtain⟨B,C,hH⟩:=List.append_of_mem hh;obtain⟨n,hn⟩:=nm ((B++C).length);have S:k=n+1:=by rw[<-Q,hH,<-hn];simp;omega
 subst S;obtain⟨l,hl⟩:=hv;have c:∀t,t<n+1->∀i,R t i*(D i:Rat)=(((R t i*(D i:Rat)).num:Int):Rat)/\((R t i*(D i:Rat)).num).natAbs<=a:=fun t p i=>by
  obtain⟨z,e,hz⟩:=hM _ (hR t p) i;rw[e,Rat.num_intCast];exact⟨rfl,hz⟩
 obtain⟨y,⟨j0,T,U⟩,hy,V⟩:=Sg.siegel n a ha (fun t i=>(R i ((B++C).getD t 0)*(D ((B++C).getD t 0):Rat)).num) (fun t i p hi=>by
  have:=(c i hi ((B++C).getD t 0)).2
  omega)
 have f:∀i,((Sg.isum (n+1) (fun t=>(R t i*(D i:Rat)).num*y t):Int):Rat)=dot (n+1) (fun t=>(y t:Rat)) (fun t=>R t i)*(D i:Rat):=fun i=>by
  rw[Qf0,<-Qf1];exact Qau _ _ _ _ _ (fun t p=>by rw[<-(c t p i).1])
 have F:∀i,(D i:Rat)≠0:=fun i h=>by
  have A:D i=0:=Rat.natCast_inj.1 (by rw[h];rfl);have:=(N i).1;omega
 have o:∀x,x∈ B++C->dot (n+1) (fun t=>(y t:Rat)) (fun t=>R t x)=0:=fun x b=>by
  obtain⟨t,p,e⟩:=List.mem_iff_getElem.1 b;have A:=hy t (by omega);have e2:(B++C).getD t 0=x:=by rw[List.getD_eq_getElem?_getD,gE p,e];rfl
  simp only[e2] at A;have X:=f x;rw[A] at X;rcases Rat.mul_eq_zero.1 X.symm with q|q
  . exact q
  . exact absurd q (F x)
 have s:∀x,x∈ H->x=h∨x∈ B++C:=fun x b=>by
  rw[hH] at b;simp only[List.mem_append,List.mem_cons] at b ⊢;rcases b with b|b|b
  . exact .inr (.inl b)
  . exact .inl b
  . exact .inr (.inr b)
 obtain⟨g,G⟩:∃g:Vec,∀i,g i=dot (n+1) (fun t=>(y t:Rat)) (fun t=>R t i):=⟨fun i=>dot (n+1) (fun t=>(y t:Rat)) (fun t=>R t i),fun _=>rfl⟩;have aa:g h≠0:=by
  intro e;have:=hI (fun t=>(y t:Rat)) (fun x b=>by
   rcases s x b with rfl|b
   . rw[<-G];exact e
   . exact o x b) j0 T
  exact U (Rat.intCast_inj.1 (by rw[this];rfl))
 have I:=hI (fun t=>(y t:Rat) - l t*g h) (fun x b=>by
  rw[Qbr,<-G,<-hl];by_cases he:x=h
  . rw[he,A];grind
  .
   rcases s x b with E|E
   . exact absurd E he
   . rw[G,o x E,h0 x b he];grind)
 have ab:g j=v j*g h:=by
  have q:dot (n+1) (fun t=>(y t:Rat) - l t*g h) (fun t=>R t j)=0:=Qbq _ _ _ (fun t p=>by rw[I t p];grind);rw[Qbr,<-G,<-hl] at q;grind
 have u:(2*((n+1)*a)) ^ n<=(2*((W+1)*a)) ^ W:=
  Nat.le_trans (Nat.pow_le_pow_left (Nat.mul_le_mul_left _ (Nat.mul_le_mul_right _ (by omega))) n) (Nat.pow_le_pow_right (Nat.mul_pos (by omega) (Nat.mul_pos (by omega) ha)) (by omega))
 obtain⟨Y,hY⟩:=nm ((2*((W+1)*a)) ^ W);rw[hY] at u hK;have O:∀i,(Sg.isum (n+1) (fun t=>(R t i*(D i:Rat)).num*y t)).natAbs<=(W+1)*(a*Y):=fun i=>by
  have O:=Sg.isum_le (n+1) (fun t=>(R t i*(D i:Rat)).num*y t) (-((a*Y:Nat):Int)) ((a*Y:Nat):Int) (fun t p=>by
   have A:=(c t p i).2;have X:((R t i*(D i:Rat)).num*y t).natAbs<=a*Y:=by
    rw[Int.natAbs_mul];exact Nat.mul_le_mul A (Nat.le_trans (V t) u)
   omega)
  have af:(n+1)*(a*Y)<=(W+1)*(a*Y):=Nat.mul_le_mul_right _ (by omega);rw[Int.mul_neg,<-Int.natCast_mul] at O;omega
 have ej:=f j;have J:=f h;rw[<-G] at ej J;have bj:=O j;have bh:=O h;obtain⟨Gj,ad⟩:∃z,Sg.isum (n+1) (fun t=>(R t j*(D j:Rat)).num*y t)=z:=⟨_,rfl⟩;obtain⟨Gh,ae⟩:∃z,Sg.isum (n+1) (fun t=>(R t h*(D h:Rat)).num*y t)=z:=⟨_,rfl⟩;rw[ad] at ej bj;rw[ae] at J bh;have L:Gh≠0:=by
  intro e;rw[e] at J;rcases Rat.mul_eq_zero.1 J.symm with q|q
  . exact aa q
  . exact F h q
 have w:∀x d:Nat,x<=(W+1)*(a*Y)->d<=a->x*d<2 ^ K:=fun x d b hd=>Nat.lt_of_le_of_lt (Nat.mul_le_mul b hd) hK
 refine Qf2 (Z:=Gj*(D h:Int)) L (N j).1 ?_ ?_ ?_ P
 . rw[Rat.intCast_mul,Rat.intCast_natCast,ej,J,ab]
   grind
 . rw[Int.natAbs_mul,Int.natAbs_natCast]
   exact w _ _ bj (N h).2
 . exact w _ _ bh (N j).2
theorem Qje{K B j:Nat}(hB:0<B):∀{T:List Vec} {a:Vy} {J lo b:Nat} {r:Vec},Cln lo b T a->(∀t,t∈ T->∀i,Fits (t i) B)->(∀i,Fits (r i) J)->(∀h,h∈ a->Fits (r h) j)->J+T.length*(B+j+1)<=K->redFits K r T a/\∀i,Fits (red r T a i) (J+T.length*(B+j+1))
 | [],[],J,lo,b,r,hc,hT,hr,hh,hK=>by
   simp only[List.length_nil,Nat.zero_mul,Nat.add_zero] at hK ⊢;unfold redFits red;exact⟨fun i=>(hr i).mono hK,hr⟩
 |t :: T,h :: a,J,lo,b,r,⟨c1,c2,c3,c4,c5⟩,hT,hr,hh,hK=>by
  have e:(t :: T).length*(B+j+1)=T.length*(B+j+1)+(B+j+1):=by rw[List.length_cons,Nat.succ_mul]
  rw[e] at hK ⊢;have f:∀i,Fits (r i - t i*r h) (J+(B+j)+1):=fun i=>(hr i).sub ((hT t (by simp) i).mul (hh h (by simp)) hB)
  have c:=Qje (K:=K) (j:=j) hB (J:=J+(B+j)+1) (r:=fun i=>r i - t i*r h) c5 (fun t g=>hT t (by simp[g])) f (fun x d=>by
   have:r x - t x*r h=r x:=by rw[c4 x d];grind
   rw[this]
   exact hh x (by simp[d])) (by omega)
  refine⟨⟨fun i=>(hr i).mono (by omega),c.1⟩,fun i=>?_⟩;have:=c.2 i;rw[show J+(B+j)+1+T.length*(B+j+1)=J+(T.length*(B+j+1)+(B+j+1)) by omega] at this;exact this
 | [],_ :: _,_,_,_,_,hc,_,_,_,_=>absurd hc (by simp[Cln])
 |_ :: _,[],_,_,_,_,hc,_,_,_,_=>absurd hc (by simp[Cln])
theorem Qjf{K a k n:Nat}{R:Nat->Vec}{H:Vy}(y:0<a)(B:a+n*(a+a+1)<=K)
 (d:∀(v:Vec) (h:Nat),Span k R v->h∈ H->v h=1->(∀x,x∈ H->x≠h->v x=0)->∀j,Fits (v j) a):
 ∀{S:List Vec} {b:Vy} {lo m:Nat} {P:Vy},H=P++b->(∀p,p∈ P->p<lo)->Ech lo m S b->S.length<=n->(∀s,s∈ S->Span k R s)->(∀(t:Nat) (s:Vec) (h:Nat),S[t]?=some s->b[t]?=some h->∀i,Fits (s i / s h) a)->
  clnFits K S b/\∀v,v∈ cln S b->∀i,Fits (v i) a
 | [],[],lo,m,P,hH,hP,he,hn,hS,hf=>by
   unfold clnFits cln;exact⟨trivial,fun v f=>by cases f⟩
 |r :: S,h :: b,lo,m,P,hH,hP,he,hn,hS,hf=>by
  have o:=he;obtain⟨M,N,O,q⟩:=o;have C:S.length+1<=n:=by simpa using hn
  have u:=Qjf y B d (P:=P++ [h]) (by rw[hH];simp) (fun p g=>by
   rcases List.mem_append.1 g with g|g
   . have:=hP p g;omega
   . simp only[List.mem_singleton] at g;omega) q (by omega) (fun s b=>hS s (by simp[b])) (fun t s x e D=>hf (t+1) s x (by simpa using e) (by simpa using D))
  have E:=(Qd4 0 q).1;have l:=(Qd4 0 he).1;have z:∀i,Fits (r i / r h) a:=hf 0 r h rfl rfl;have A:=Qfv S b q.len;have Q:(cln S b).length*(a+a+1)<=n*(a+a+1):=Nat.mul_le_mul_right _ (by omega);have F:=Qje (K:=K) (j:=a) y (J:=a) (r:=fun i=>r i / r h) E u.2 z (fun x _=>z x) (by omega);refine⟨?_,fun v f=>?_⟩
  . unfold clnFits
    exact⟨u.1,F.1⟩
  .
   simp only[cln] at l f;obtain⟨T,G,I,L,U⟩:=l;rcases List.mem_cons.1 f with f|f
   .
    subst f;refine d _ h (Qf3 _ _ _ ((hS r (by simp)).over _) (Qjd S b (fun s b=>hS s (by simp[b])))) (by rw[hH];simp) G (fun x c w=>?_);rw[hH] at c;rcases List.mem_append.1 c with c|c
    . exact I x (by have:=hP x c;omega)
    .
     rcases List.mem_cons.1 c with c|c
     . exact absurd c w
     . exact L x c
   . exact u.2 v f
 | [],_ :: _,_,_,_,_,_,he,_,_,_=>absurd he (by simp[Ech])
 |_ :: _,[],_,_,_,_,_,he,_,_,_=>absurd he (by simp[Ech])
def MJ(W N K2:Nat)(M:List Vec)(c:Nat)(L S:List Vec)(hs:Vy):Prop:=
 Elim W M c L S hs/\MI W N M c L S hs/\∀(t:Nat) (s:Vec) (h:Nat),S[t]?=some s->hs[t]?=some h->∀i,Fits (s i / s h) K2
theorem MJ.start(W N a:Nat)(M:List Vec)(b:∀v,v∈ M->∀i,W<=i->v i=0)(c:M.length<=N∨W<=N):MJ W N a M 0 M [] []:=
 ⟨Elim.start W M,MI.start W N M b c,fun t s h e=>by simp at e⟩
theorem MJ.going{w W a K k:Nat}{M:List Vec}{D:Nat->Nat}(p:0<a)(q:∀j,0<D j/\D j<=a)(v:∀r,r∈ M->∀j,∃z:Int,r j*(D j:Rat)=(z:Rat)/\z.natAbs<=a)
 (y:(W+1)*(a*(2*((W+1)*a)) ^ W)<2 ^ K) (l:0<K) (m:(W+1)*(a*(2*((W+1)*a)) ^ W)*a<2 ^ k) (A:0<k):Going K (MJ w W k M) where
 fit:=fun h=>MI.fit p q v y l h.2.1
 skip:=fun h b=>⟨h.1.skip b,h.2.1.skip,h.2.2⟩
 step:=fun {c j L S hs s} h g b=>by
  refine⟨h.1.step g b,h.2.1.step g b,fun t u x e d i=>?_⟩;have hl:=h.1.1.len;by_cases B:t<S.length
  .
   rw[List.getElem?_append_left B] at e;rw[List.getElem?_append_left (by omega)] at d;exact h.2.2 t u x e d i
  .
   have n:t=S.length:=by
    have:=(gZ e).1;simp at this;omega
   subst n;rw[List.getElem?_append_right (by omega)] at e;rw[List.getElem?_append_right (by omega)] at d;simp at e;rw[hl] at d;simp at d;subst e d;obtain⟨_,_,_,_,_,_,C,_⟩:=h.2.1;obtain⟨_,_,_,_,E⟩:=C s (mO g);obtain⟨_,J,_,R,F,G,_,I⟩:=h.2.1.step g b;refine Qf4 (H:=hs++ [c]) p q v m A rfl (by omega) F G ((I s (by simp)).over (s c)) (h:=c) (by simp) ?_ (fun x f o=>?_) i
   . rw[Rat.div_def,Rat.mul_inv_cancel _ b]
   .
    rcases List.mem_append.1 f with f|f
    .
     show s x / s c=0
     rw[E x f,Rat.div_def];grind
    . simp only[List.mem_singleton] at f
      exact absurd f o
theorem MJ.clean{o W a K b:Nat}{M:List Vec}{D:Nat->Nat}(q:0<a)(s:∀j,0<D j/\D j<=a)(t:∀r,r∈ M->∀j,∃z:Int,r j*(D j:Rat)=(z:Rat)/\z.natAbs<=a)
 (e:(W+1)*(a*(2*((W+1)*a)) ^ W)*a<2 ^ b) (l:0<b) (u:b+W*(b+b+1)<=K) {c:Nat} {L S:List Vec} {d:Vy} (h:MJ o W b M c L S d):clnFits K S d/\∀v,v∈ cln S d->∀i,Fits (v i) b:=by
 obtain⟨m,⟨_,G,_,R,w,y,_,A⟩,B⟩:=h;exact Qjf (H:=d) (R:=R) (k:=d.length) (n:=W) l u (fun v x C E f g j=>Qf4 q s t e l rfl (by omega) w y C E f g j) (P:=[]) rfl (fun p F=>by cases F) m.1 (by rw[m.1.len];omega) A B
end Go.Proofs.YtppkmifkpjkgpaaGreatDoor
