import Derived.Test.YtkkadnoecklepaaGreatDoorL06RowsK
namespace Go.Proofs.YtkkadnoecklepaaGreatDoor
open Go.RowKit
open Go.Proofs.Tryz
set_option linter.unusedSimpArgs false
set_option linter.unusedVariables false
set_option maxHeartbeats 8000000
set_option maxRecDepth 1000000
theorem Qwj(a:Vx)(m c:Nat)(f:Vy)(w:Vz)(h:CRow w a (headsV f))(hl:f.length<=1000):
 Calls prog 208 #[.slice a f.length m,.int .i64 c] w fun e w'=>(∃v:Int,e=.returned (.int .i64 v)/\(0<=v↔c∈ f))/\w'=w:=by
 have y:=Hi h;clear h;go_enter func208,ntmps208;go_wp2_with fail;go_loopw [8] (fun i wr=>∃k:Nat,k<=f.length/\i=.int .i64 k/\(∀j,j<k->f[j]?≠some c)/\wr=w) (fun i _=>f.length - (intOf i).toNat)
 case atStart=>exact⟨0,Nat.zero_le _,rfl,fun j l=>by omega,rfl⟩
 case round=>
  obtain⟨k,hk,rfl,g,rfl⟩:=hrel;have r:=Hi g;clear g;by_cases n:k<f.length
  .
   obtain⟨x,p⟩:∃x,f[k]?=some x:=⟨f[k],gE n⟩;obtain⟨b,z,rfl,B,d⟩:=y.o.cell k (.int .i64 (x:Nat)) (by simp[headsV,p]);have s:=Hi p;have C:((k:Int)<(f.length:Int)):=by omega
   clear p;by_cases t:c=x
   .
    subst t;have A:((c:Int) == (c:Int))=true:=by simp
    go_wp2;go_ret;exact⟨⟨k,rfl,⟨fun _=>mO s.o,fun _=>by omega⟩⟩,rfl⟩
   .
    have A:((c:Int) == (x:Int))=false:=by rw[beq_eq_false_iff_ne];omega
    go_wp2;go_roundw
    case rel=>
     refine⟨k+1,by omega,by go_num,fun j l=>?_,by first|rfl|trivial⟩;rcases Nat.lt_or_ge j k with u|u
     . exact r.o j u
     .
      obtain rfl:j=k:=by omega
      rw[s.o];intro e;injection e with e
      exact t e.symm
    case measure=>simp[intOf];omega
  .
   have q:k=f.length:=by omega
   subst q;go_wp2;go_ret;refine⟨⟨-1,rfl,⟨fun h=>by omega,fun h=>?_⟩⟩,rfl⟩;obtain⟨j,l⟩:=List.mem_iff_getElem?.1 h;exact absurd l (r.o j (gZ l).1)
theorem Qmg(a:Vx)(f c:Nat)(b:Vy)(w:Vz)(h:CRow w a (headsV b))(hl:b.length<=1000):
 Calls prog 158 #[.slice a b.length f,.int .i64 c] w fun e w'=>e=.returned (.bool (decide (c∈ b)))/\w'=w:=by
 have j:=Hi h;clear h;go_enter func158,ntmps158;go_wp2_with fail;go_fit (Qwj a f c b w j.o hl);rintro e k ⟨⟨v,rfl,g⟩,rfl⟩;by_cases d:c∈ b
 .
  have q:=g.2 d;have i:=Hi d;clear g d;go_wp2;go_ret;exact⟨by rw[decide_eq_true i.o];rfl,rfl⟩
 .
  have q:=decide_eq_false fun h=>d (g.1 h)
  have i:=Hi d;clear g d;go_wp2;go_ret;exact⟨by rw[decide_eq_false i.o];rfl,rfl⟩
theorem Qmh:∀u:Value,u∈ (Value.agg #[.bool false,.slice none 0 0,.slice none 0 0]).cells.toList->True:=fun _ _=>trivial
theorem QRow.one{w:Vz}{a:Vx}{c:Nat}{d:List FE}(h:QRow w a c d):∀u,u∈ d.flatMap FE.cells->u.oneCell'=true:=fun u b=>by
 obtain⟨t,e,b⟩:=List.mem_flatMap.1 b;obtain⟨f,g,i⟩:=(h.ts t e).1.one;simp[FE.cells] at b;rcases b with rfl|rfl|rfl
 . exact f
 . exact g
 . exact i
theorem Qwk(a:Vx)(g:Nat)(d:List FE)(w:Vz)(h:QRow w a g d)(hl:d.length<=1000):
 Calls prog 211 #[.slice a d.length g] w fun e w'=>(∃v,e=.returned v/\Grow w' w.heap.size 107 3 (fun _=>True) v d.length (d.flatMap FE.cells))/\Below w.heap.size w w':=by
 obtain⟨L,x,D⟩:=Option.map_eq_some_iff.1 Qex;simp only[Prod.mk.injEq] at D;obtain⟨m,p,hz2⟩:=D;have M:∀(w:Vz) (a:Vx) (n c n' y:Nat),(binOp .eql 98 (.slice a n c) (.slice none n' y)).run prog w=.ok (.bool a.isNone) w:=fun w a n c n' y=>Lib.run_eql_slice_nil w _ _ a n c n' y underlying98
 have H:=Hi h;clear h;cases a with
 |none=>
  have z:d= []:=by
   cases d with
   |nil=>rfl
   |cons r l=>
    obtain⟨b,A,e,_⟩:=H.o.at (i:=0) (e:=r) rfl;cases e
  subst z;clear x m p hz2;go_enter func211,ntmps211;go_wp2;go_ret;exact⟨⟨_,rfl,Grow.nil _ _ _ _ _⟩,Below.refl _ _⟩
 |some ad=>
  obtain⟨W,hW⟩:=nm (w.alloc (.cells #[] 107));have f:Below w.heap.size w W:=by rw[<-hW];exact(Below.refl _ _).alloc lZ _
  have q:Grow W w.heap.size 107 3 (fun _=>True) (.slice (some ⟨w.heap.size,0,none⟩) 0 0) 0 []:=by rw[<-hW];exact Grow.made w _ _ _
  obtain⟨N,w',B,s,t,C⟩:=q.app (P:=prog) (ty:=98) underlying98 x m p hz2 rfl (by decide) Qmh ad d.length g (d.flatMap FE.cells) (Qay (c:=FE.cells) (sz:=3) (fun _=>rfl) d) (fun j u E=>by
   obtain⟨b,A,e,F,G⟩:=H.o.row.row.cell j u E;cases e;rw[Qas]
   exact ce f F G) H.o.one (fun _ _=>trivial) (by omega) (by decide) f.size
  rw[<-hW] at B;obtain⟨I,J,K⟩:=Ib B s (f.grown t f.size (fun k hk=>by simp[Value.ownBlock] at hk;omega));clear B s t C q f hW x m p hz2;go_enter func211,ntmps211;go_wp2_with (at_builtin;refine Qb7 _ rfl _ _ 98 98 rfl (.slice (some ⟨w.heap.size,0,none⟩) 0 0) (.slice (some ad) d.length g) _ _ rfl rfl I.o ?_);go_wp2;go_ret;refine⟨⟨_,rfl,?_⟩,K.o⟩;have:=J.o;rw[Nat.zero_add,List.nil_append] at this;exact this
theorem Qwl{u:Vz}{B:Nat}{v:Value}{r:MR}{s:FE}{W K:Nat}(l:Grow u B 107 3 (fun _=>True) v (W+1) (r.ts.flatMap FE.cells++FE.cells s))(m:∀t,t∈ r.ts->FracV u (.agg #[t.x,t.y,t.z]) t.q/\Fits t.q t.k/\0<t.k)(hl:r.ts.length=W)(hk:∀t,t∈ r.ts->t.k<=K)(n:FracV u (.agg #[s.x,s.y,s.z]) s.q/\Fits s.q s.k/\0<s.k)(f:s.k<=K):
 ∃d:MR,v=.slice d.a d.ts.length d.cap/\MOk u (W+1) K d/\d.q=wider W r.q s.q:=by
 obtain⟨a,g,rfl,o,h,_⟩:=l.slice;have c:(r.ts++ [s]).length=W+1:=by simp[hl]
 have j:(r.ts++ [s]).flatMap FE.cells=r.ts.flatMap FE.cells++FE.cells s:=by simp
 refine⟨⟨a,g,r.ts++ [s]⟩,by simp[hl],⟨⟨⟨by rw[c];exact o,by rw[j];exact h⟩,fun t b=>?_⟩,c,fun t b=>?_⟩,?_⟩
 .
  rcases List.mem_append.1 b with b|b
  . exact m t b
  . obtain rfl:t=s:=by simpa using b
    exact n
 .
  rcases List.mem_append.1 b with b|b
  . exact hk t b
  . obtain rfl:t=s:=by simpa using b
    exact f
 .
  funext i;unfold wider;by_cases e:i=W
  .
   rw[if_pos e,MR.q_at (e:=s)];subst e;rw[<-hl];simp
  .
   rw[if_neg e];rcases Nat.lt_or_ge i W with p|p
   . obtain⟨t,b⟩:∃t,r.ts[i]?=some t:=⟨r.ts[i]'(by omega),gE (by omega)⟩
     rw[MR.q_at b,MR.q_at (e:=t) (by rw[List.getElem?_append_left (by omega)];exact b)]
   . rw[MR.q_beyond (by rw[c];omega),MR.q_beyond (by omega)]
theorem Qwm{P:Program}{ops:Array Oper}{o:Oper}{a:Act}{u:Vz}{K':Act->World->Prop}{Q:Exit->Act->World->Prop}{E:Prop}(G:o.guard=none)(q x:Operand){t e:Vr}(r:o.op=Op.call { callee:=Callee.builtin Builtin.append,args:=#[q,x],argTypes:=#[t,t] })
 {B:Nat} {i:TypeInfo} {z:Value} {sz bytes:Nat} {K:Value->Prop} {v:Value} {n:Nat} {xs:Vv} {s:Addr} {m c:Nat} (H:a.eval q=v) (I:a.eval x=.slice (some s) m c) (h:Grow u B e sz K v n xs)
 (J:P.underlying t=some (.slice e)) (L:P.info? e=some i) (M:i.zero=some z) (d:i.size=sz) (y:i.bytes=bytes) (A:z.cells.size=sz) (C:0<sz) (D:∀u,u∈ z.cells.toList->K u)
 (b:Vv) (hl:b.length=m*sz) (f:∀j w,b[j]?=some w->u.cell? (s.add j)=some w) (N:∀u,u∈ b->u.oneCell'=true) (O:∀u,u∈ b->K u)
 (F:n+m<=1048576) (l:bytes<=1000) (g:B<=u.heap.size)
 (R:∀k p,Grow p B e sz K k (n+m) (xs++b)->u.grownBy p v.ownBlock->(k.ownBlock=v.ownBlock∨k.ownBlock=some u.heap.size)->K' (a.put o.dst k) p):
 if Region.wanted o (yielded ops a.tmps)=true then Oper.wp P o a u K' Q else E:=by
 obtain⟨k,p,S,T,U,V⟩:=h.app (P:=P) (ty:=o.type) J L M d y A C D s m c b hl f N O F l g;exact Qb0 G q x r H I S (R k p T U V)
theorem Qwn{w:Vz}{b:Nat}{t:Vr}{x y z:Value}(h:SB w b t #[x,y,z]):∀(j:Nat) (u:Value),[x,y,z][j]?=some u->w.cell? ((⟨b,0,none⟩:Addr).add j)=some u:=fun j u a=>by
 rw[Qas,h.cell,Nat.zero_add,<-a];simp
theorem Qwo{w:Vz}{g k:Nat}{t:Vr}{c:List MR}{b:MR}(h:SB w g t (c.flatMap MR.cells).toArray)(hk:c[k]?=some b):w.cell? ⟨g,k,none⟩=some (.slice b.a b.ts.length b.cap):=by
 rw[h.cell,Qez];simp[hk,MR.val]
theorem Qwp{w:Vz}{g b i:Nat}{t:Vr}{e:List MR}{x y z:Value}{q:Rat}(h:SB w g t (e.flatMap MR.cells).toArray)(f:w.cell? ⟨b,i,none⟩=some x)(n:FracV w (.agg #[x,y,z]) q):b≠g:=by
 rintro rfl;rw[h.cell] at f;obtain⟨_,_,_,j⟩:=mr_sl e x (mO (by simpa using f));obtain⟨neg,a,m,c,b,k,d,l,_⟩:=n;simp at l;rw[l.1] at j;cases j
theorem Qbq{w u:Vz}(h:Below w.heap.size w u)(o:Obj):Below w.heap.size w (u.alloc o):=h.alloc h.size o
theorem Qbr{w u:Vz}(h:Below w.heap.size w u):Below w.heap.size w u.drew:=h.drew
theorem Qwq{w:Vz}{B:Nat}{e:Vr}{sz:Nat}{K:Value->Prop}{v:Value}{n:Nat}{xs:Vv}(h:Grow w B e sz K v n xs)(o:Obj):Grow (w.alloc o) B e sz K v n xs:=h.below (bR.alloc lZ _)
theorem Qwr{w:Vz}{B:Nat}{e:Vr}{sz:Nat}{K:Value->Prop}{v:Value}{n:Nat}{xs:Vv}(h:Grow w B e sz K v n xs):Grow w.drew B e sz K v n xs:=h.below bR.drew
theorem Qws{w u:Vz}{a:Vx}{c:Nat}{d:List FE}(h:QRow w a c d)(hl:d.length<=1000)(f:Below w.heap.size w u):
 Calls prog 211 #[.slice a d.length c] u fun e g=>(∃v,e=.returned v/\Grow g w.heap.size 107 3 (fun _=>True) v d.length (d.flatMap FE.cells))/\Below w.heap.size w g/\∀b t C,SB u b t C->SB g b t C:=by
 refine(Qwk a c d u (h.below f) hl).mono ?_;rintro e g ⟨⟨v,rfl,k⟩,i⟩;exact⟨⟨v,rfl,k.mono f.size⟩,f.trans (i.mono f.size),fun b t C j=>j.below i j.lt⟩
theorem Qwt{ops:Array Oper}{o:Oper}{a:Act}{u:Vz}{K':Act->World->Prop}{Q:Exit->Act->World->Prop}{E:Prop}(I:o.guard=none)(h x:Operand)(i:o.op=Op.call { callee:=Callee.builtin Builtin.append,args:=#[h,x],argTypes:=#[98,98] })
 {w:Vz} {v:Value} {r:MR} {s:FE} {W K nb c:Nat} (J:a.eval h=v) (L:a.eval x=.slice (some ⟨nb,0,none⟩) 1 c) (hG:Grow u w.heap.size 107 3 (fun _=>True) v W (r.ts.flatMap FE.cells)) (hB:Below w.heap.size w u) (hC:SB u nb 107 #[s.x,s.y,s.z])
 (B:QRow w r.a r.cap r.ts) (hl:r.ts.length=W) (hW:W<=1000) (hk:∀t,t∈ r.ts->t.k<=K) (j:FracV w (.agg #[s.x,s.y,s.z]) s.q/\Fits s.q s.k/\0<s.k) (l:s.k<=K)
 (M:∀b m,MOk m (W+1) K b->b.q=wider W r.q s.q->Below w.heap.size w m->K' (a.put o.dst (.slice b.a b.ts.length b.cap)) m):
 if Region.wanted o (yielded ops a.tmps)=true then Oper.wp prog o a u K' Q else E:=by
 obtain⟨T,N,C⟩:=Option.map_eq_some_iff.1 Qex;simp only[Prod.mk.injEq] at C;obtain⟨n,p,hz2⟩:=C;obtain⟨O,R,S⟩:=j.1.one;refine Qwm (P:=prog) I h x i J L hG underlying98 N n p hz2 rfl (by decide) Qmh [s.x,s.y,s.z] rfl (Qwn hC) (fun u D=>by
  simp at D;rcases D with rfl|rfl|rfl
  . exact O
  . exact R
  . exact S) (fun _ _=>trivial) (by omega) (by decide) hB.size ?_
 intro U F e f G;have d:=hB.grown f hB.size (fun k hk=>(hG.lt hk).1);obtain⟨b,rfl,g,A⟩:=Qwl (u:=F) (r:=r) (s:=s) (W:=W) (K:=K) e (fun t H=>⟨(B.ts t H).1.below d,(B.ts t H).2⟩) hl hk ⟨j.1.below d,j.2⟩ l;exact M b F g A d
theorem Qwu(a a':Vx)(Q cap' W K:Nat)(rs:List MR)(E:List FE)(w:Vz)(h:QMat w a Q W rs)(hk:∀r,r∈ rs->∀t,t∈ r.ts->t.k<=K)(h':QRow w a' cap' E)(m:∀t,t∈ E->t.k<=K)(R:E.length=rs.length)(hl:rs.length<=1000)(hW:W<=1000):
 Calls prog 167 #[.slice a rs.length Q,.slice a' rs.length cap'] w fun e w'=>(∃(g:Nat) (n:List MR),e=.returned (.slice (some ⟨g,0,none⟩) rs.length rs.length)/\n.length=rs.length/\SB w' g 98 (n.flatMap MR.cells).toArray/\Oks w' (W+1) K n/\∀(i:Nat) (r:MR) (s:FE),rs[i]?=some r->E[i]?=some s->∃c,n[i]?=some c/\c.q=wider W r.q s.q)/\Below w.heap.size w w':=by
 obtain⟨HH,HK⟩:=Ia h hk;have S:=Hi h';have ak:=Hi m;have A:=Hi R;clear R;have T:=fun w=>Qmd rs.length (by omega) w
 obtain⟨MC,I⟩:=nm (((List.replicate rs.length MR.none).flatMap MR.cells).toArray);rw[I] at T;have al:=Hi I;clear h hk h' m I;obtain⟨i0,J,hz⟩:=Option.map_eq_some_iff.1 Qex;simp only[Prod.mk.injEq] at hz;obtain⟨U,X,hz2⟩:=hz;obtain⟨HI,a3,a4,a5⟩:=Ic J U X hz2;clear J U X hz2;go_enter func167,ntmps167;go_wp2_with fail;clear T;obtain⟨g,Y⟩:=nm w.heap.size;obtain⟨V,hV⟩:=nm (w.alloc (.cells MC 98));have am:O (Below g w V):=Hi (by rw[<-hV,<-Y];exact(Below.refl _ _).alloc lZ _);have an:O (SB V g 98 ((List.replicate rs.length MR.none).flatMap MR.cells).toArray):=Hi (by rw[<-hV,<-Y,al.o];exact SB.new w _ _)
 try rw[hV]
 try rw[Y]
 clear hV;go_loopw [13] (fun i wr=>∃(k:Nat) (B:List MR),k<=rs.length/\i=.int .i64 k/\B.length=rs.length/\SB wr g 98 (B.flatMap MR.cells).toArray/\(∀(i:Nat) (r:MR) (s:FE),i<k->rs[i]?=some r->E[i]?=some s->∃c,B[i]?=some c/\MOk wr (W+1) K c/\c.q=wider W r.q s.q)/\Below g w wr) (fun i _=>rs.length - (intOf i).toNat)
 case atStart=>exact⟨0,_,by omega,rfl,by simp,an.o,fun i r s J=>by omega,am.o⟩
 case round=>
  obtain⟨k,B,hk,rfl,Z,L,F,hb⟩:=hrel;obtain⟨HB,C,HA⟩:=Ib hb L F;have ao:=L.lt;clear hb L F;by_cases ap:k<rs.length
  .
   obtain⟨r,l⟩:∃r,rs[k]?=some r:=⟨rs[k],gE ap⟩;obtain⟨s,M⟩:∃s,E[k]?=some s:=⟨E[k]'(by have:=A.o;omega),gE (by have:=A.o;omega)⟩;have f:Below w.heap.size w wr:=by rw[Y];exact HB.o
   obtain⟨fb,a6,rfl,a7,d⟩:=(HH.o.below f).at l;obtain⟨hq,aa⟩:=(HH.o.below f).get l;obtain⟨sb,so,rfl,G,d0,d1,d2⟩:=(S.o.below f).at M;obtain⟨N,HQ,HR,aq,ar,au⟩:=Ie ((S.o.below f).get M) hq l M (HK.o r (mO l)) (ak.o s (mO M));obtain⟨o1,o2,o3⟩:=N.o.1.one;have a8:O (∀u,u∈ [s.x,s.y,s.z]->u.oneCell'=true):=Hi (fun u hu=>by
    simp at hu;rcases hu with rfl|rfl|rfl
    . exact o1
    . exact o2
    . exact o3)
   have q1:((k:Int)<(rs.length:Int)):=by omega
   clear l M hq f o1 o2 o3;have D:r.ts.length<=1000:=by omega
   have ab:=Hi (fun u=>Qws (u:=u) HQ.o D);rw[aa] at ab;have a1:=C;obtain⟨r0,ad⟩:∃r0,B[k]?=some r0:=⟨B[k]'(by omega),gE (by omega)⟩;obtain⟨av,D0,D1,D2⟩:=Ic ad d0 d1 d2;clear ad;go_wp2_with fail;go_region_held3 (fun v=>v.cell? ⟨sb,so+k*3,none⟩=some s.x/\v.cell? ⟨sb,so+k*3+1,none⟩=some s.y/\v.cell? ⟨sb,so+k*3+2,none⟩=some s.z) ((first|(simp [*];done)|go_keep)) (first
    |(
     go_at_call 211;apply cM;apply ab.o;(focus(repeat(first|exact Below.refl _ _|apply Qbq|apply Qbr)));rintro e1 w1 ⟨⟨v1,rfl,ae⟩,af,ag⟩;obtain⟨P,aw,ax⟩:=Ib af ae ag;clear ae af ag;obtain⟨d0,d1,d2⟩:=Jb P.o G D0.o D1.o D2.o;have a9:=P.o.size
     skip)
    |(
     refine Qwt rfl (.tmp 21) (.tmp 26) rfl (w:=wr) (v:=v1) (r:=r) (s:=s) (W:=W) (K:=K) rfl rfl ?hG ?hB ?hC HQ.o aa hW ar.o N.o au.o ?_
     case hG=>(focus(repeat(first|exact aw.o|apply Qwq|apply Qwr)))
     case hB=>(focus(repeat(first|exact P.o|apply Qbq|apply Qbr)))
     case hC=>(first|exact SB.new _ _ _|exact ax.o _ _ _ (SB.new _ _ _))
     intro c w2 H ah ai;obtain⟨j,ay⟩:=Ia ai H;have az:=Hi ah;clear H ah ai;have b:=Hi (C.o.below j.o C.o.lt);obtain⟨d0,d1,d2⟩:=Jb j.o G D0.o D1.o D2.o;have f0:=b.o.free k;have t0:=Qwo b.o av.o;have a0:=Qwp b.o d0 (N.o.1.below j.o);have a2:=a0.symm
     skip)
    |fail)
   all_goals
    go_wp2_with fail;have ho:Only g w2 (w2.setCell ⟨g,k,none⟩ (.slice c.a c.ts.length c.cap)):=(Only.refl _ _).setCell _ _;have aj:=Fr.of_only ho b.o (IsSl.plain fun u hu=>mr_sl B u (by simpa using hu));refine⟨⟨k+1,B.set k c,by omega,by go_num,by rw[List.length_set];exact Z,?_,?_,(HB.o.trans (j.o.mono (Nat.le_of_lt ao))).setCell (p:=⟨g,k,none⟩) lZ _⟩,?_⟩
    .
     have:=b.o.set k (.slice c.a c.ts.length c.cap);rw[Qmc]
     simpa using this
    .
     intro i x y J hx hy;rcases Nat.lt_or_ge i k with h1|h1
     . obtain⟨z,z1,z2,z3⟩:=HA.o i x y h1 hx hy
       exact⟨z,by rw[List.getElem?_set_ne (by omega)];exact z1,(z2.fr (Fr.of_below j.o)).fr aj,z3⟩
     .
      obtain rfl:i=k:=by omega
      obtain rfl:=Option.some.inj (HR.o.symm.trans hx);obtain rfl:=Option.some.inj (aq.o.symm.trans hy);exact⟨c,by rw[List.getElem?_set_self (by omega)],ay.o.fr aj,az.o⟩
    . simp[intOf]
      omega
  .
   have m:k=rs.length:=by omega
   subst m;go_wp2;go_ret;rw[Y];refine⟨⟨g,B,rfl,Z,C.o,fun r l=>?_,fun i r s l M=>?_⟩,HB.o⟩
   .
    obtain⟨i,J⟩:=List.mem_iff_getElem?.1 l;have ba:=(gZ J).1;obtain⟨z,z1,z2,_⟩:=HA.o i (rs[i]'(by omega)) (E[i]'(by have:=A.o;omega)) (by omega) (gE (by omega)) (gE (by have:=A.o;omega));obtain rfl:=Option.some.inj (J.symm.trans z1);exact z2
   . obtain⟨z,z1,_,z3⟩:=HA.o i r s (gZ l).1 l M
     exact⟨z,z1,z3⟩
def redFits(K:Nat)(r:Vec):List Vec->List Nat->Prop
 |t :: T,h :: hs=>(∀i,Fits (r i) K)/\redFits K (fun i=>r i - t i*r h) T hs
 |_,_=>∀i,Fits (r i) K
def clnFits(K:Nat):List Vec->List Nat->Prop
 |r :: S,h :: hs=>clnFits K S hs/\redFits K (fun i=>r i / r h) (cln S hs) hs
 |_,_=>True
theorem redFits.here{K:Nat}{r:Vec}:∀{T:List Vec} {hs:Vy},redFits K r T hs->∀i,Fits (r i) K
 |_ :: _,_ :: _,h=>h.1
 | [],_,h=>by unfold redFits at h;exact h
 |_ :: _,[],h=>by unfold redFits at h;exact h
theorem clnFits.drop{K:Nat}:∀{S:List Vec} {hs:Vy} (i:Nat),clnFits K S hs->clnFits K (S.drop i) (hs.drop i)
 |_,_,0,h=>h
 |r :: S,h :: hs,i+1,k=>clnFits.drop i k.1
 | [],_,i+1,h=>by rw[List.drop_nil];trivial
 |r :: S,[],i+1,h=>by
  rw[List.drop_nil];generalize List.drop (i+1) (r :: S)=T;cases T<;>simp[clnFits]
structure CW (w u:Vz) (B W K:Nat) (S:List MR) (hs:Vy) (wd sv hv:Value):Prop where
 box:SB u w.heap.size 195 #[wd,sv,hv]
 rows:Grow u B 98 1 IsSl sv S.length (S.map MR.val)
 heads:Grow u B 3 1 IsI hv hs.length (headsV hs)
 ok:Oks u W K S
 base:∀k,k<w.heap.size->sv.ownBlock≠some k->u.heap[k]?=w.heap[k]?
 o:u.os=w.os/\u.tape=w.tape/\u.output=w.output/\w.heap.size<=u.heap.size
section
variable {w u:Vz} {B W K:Nat} {S:List MR} {hs:Vy} {wd sv hv:Value}
theorem CW.below{c:Vz}(h:CW w u B W K S hs wd sv hv)(a:Bl u c):CW w c B W K S hs wd sv hv:=
 ⟨h.box.below a h.box.lt,h.rows.below a,h.heads.below a,h.ok.fr (Fr.of_below a),fun k hk b=>(a.block k (Nat.lt_of_lt_of_le hk h.o.2.2.2)).trans (h.base k hk b),⟨a.os.trans h.o.1,a.tape.trans h.o.2.1,a.output.trans h.o.2.2.1,Nat.le_trans h.o.2.2.2 a.size⟩⟩
theorem CW.set{g b m n:Nat}{r:MR}(h:CW w u B W K S hs wd (.slice (some ⟨g,0,none⟩) n b) hv)(i:n=S.length)(j:m<S.length)(l:MOk u W K r):CW w (u.setCell ⟨g,m,none⟩ r.val) B W K (S.set m r) hs wd (.slice (some ⟨g,0,none⟩) n b) hv:=by
 subst i;have a:Only g u (u.setCell ⟨g,m,none⟩ r.val):=(Only.refl _ _).setCell _ _;obtain⟨C,c1,c2⟩:=h.rows.sb (g:=g) rfl;have c:=Fr.of_only a c1 (IsSl.plain c2);refine⟨h.box.only a (h.box.unlike c1 row_stairs.symm),?_,h.heads.keep fun k hk=>a.block k (h.heads.lt hk).2 ?_,fun x f=>?_,fun k hk d=>?_,⟨a.os.trans h.o.1,a.tape.trans h.o.2.1,a.output.trans h.o.2.2.1,Nat.le_trans h.o.2.2.2 a.size⟩⟩
 . rw[List.length_set,List.map_set]
   exact h.rows.set j ⟨_,_,_,rfl⟩
 . obtain⟨D,d1,_⟩:=h.heads.sb hk
   exact d1.unlike c1 int_row
 .
  rcases List.mem_or_eq_of_mem_set f with f|rfl
  . exact(h.ok x f).fr c
  . exact l.fr c
 .
  refine(a.block k (Nat.lt_of_lt_of_le hk h.o.2.2.2) (fun e=>d ?_)).trans (h.base k hk d);subst e;rfl
end
theorem Qwv(x:Rat):(0:Rat) / x=0:=by grind
theorem Qww(x:Rat):(0:Rat) - 0*x=0:=by grind
theorem Grow.crow{w:Vz}{B sz l b:Nat}{e:Vr}{K:Value->Prop}{a:Vx}{n:Nat}{xs:Vv}(h:Grow w B e sz K (.slice a l b) n xs):CRow w a xs:=by
 obtain⟨f,cap',e,_,c,_⟩:=h.slice;injection e with d _ _
 rw[d];exact c
theorem Qwx{r t:Vec}{h:Nat}{T:List Vec}{hs:Vy}(a:r h=0):red r (t :: T) (h :: hs)=red r T hs:=by
 have e:(fun i=>r i - t i*r h)=r:=by funext i;rw[a];grind
 simp only[red];rw[e]
theorem redFits.next{K:Nat}{r t:Vec}{h:Nat}{T:List Vec}{hs:Vy}(k:redFits K r (t :: T) (h :: hs)):redFits K (fun i=>r i - t i*r h) T hs:=k.2
theorem redFits.skip{K:Nat}{r t:Vec}{h:Nat}{T:List Vec}{hs:Vy}(k:redFits K r (t :: T) (h :: hs))(a:r h=0):redFits K r T hs:=by
 have e:(fun i=>r i - t i*r h)=r:=by funext i;rw[a];grind
 have:=k.2;rw[e] at this;exact this
theorem Qdl{α:Type}{l:List α}{i:Nat}{x:α}(h:l[i]?=some x):l.drop i=x :: l.drop (i+1):=by
 obtain⟨a,b⟩:=gZ h;rw[List.drop_eq_getElem_cons a,b]
theorem Qwy{K:Nat}{S a:List MR}{hs:Vy}{j h:Nat}{r:MR}(hl:S.length=hs.length)(e:S[j]?=some r)(f:hs[j]?=some h)(g:(a.drop (j+1)).map MR.q=cln ((S.map MR.q).drop (j+1)) (hs.drop (j+1)))(k:clnFits K (S.map MR.q) hs):
 cln ((S.map MR.q).drop j) (hs.drop j)=red (fun i=>r.q i / r.q h) ((a.drop (j+1)).map MR.q) (hs.drop (j+1)) :: (a.drop (j+1)).map MR.q/\redFits K (fun i=>r.q i / r.q h) ((a.drop (j+1)).map MR.q) (hs.drop (j+1)):=by
 have b:(S.map MR.q).drop j=r.q :: (S.map MR.q).drop (j+1):=Qdl (by rw[List.getElem?_map,e];rfl);have c:=Qdl f;have d:=k.drop j;rw[b,c] at d;rw[b,c,g];exact⟨rfl,d.2⟩
theorem Qc6:∀(W:Nat) (r s x:Vec),dot W (fun i=>r i+s i) x=dot W r x+dot W s x
 |0,_,_,_=>by simp only[dot];grind
 |W+1,r,s,x=>by simp only[dot,Qc6 W r s x];grind
theorem Qej:∀(W:Nat) (r x:Vec) (q:Rat),dot W (fun i=>r i*q) x=dot W r x*q
 |0,_,_,_=>by simp[dot]
 |W+1,r,x,q=>by simp only[dot,Qej W r x q];grind
def Span(k:Nat)(R:Nat->Vec)(v:Vec):Prop:=∃l:Vec,∀j,v j=dot k l (fun i=>R i j)
def MI(W N:Nat)(M:List Vec)(c:Nat)(L S:List Vec)(hs:Vy):Prop:=
 hs.length<=c/\(hs.length+L.length<=N∨hs.length<=N/\W<=N)/\(∀v,v∈ L->∀i,W<=i->v i=0)/\
 ∃R:Nat->Vec,(∀i,i<hs.length->R i∈ M)/\
  (∀m:Vec,(∀h,h∈ hs->dot hs.length m (fun i=>R i h)=0)->∀i,i<hs.length->m i=0)/\
  (∀v,v∈ L->∃r,r∈ M/\∃l:Vec,(∀j,v j=r j - dot hs.length l (fun i=>R i j))/\∀h,h∈ hs->v h=0)/\∀s,s∈ S->Span hs.length R s
theorem MI.start(W N:Nat)(M:List Vec)(b:∀v,v∈ M->∀i,W<=i->v i=0)(f:M.length<=N∨W<=N):MI W N M 0 M [] []:=
 ⟨Nat.le_refl _,by simp only[List.length_nil];omega,b,fun _ _=>0,fun i a=>absurd a (by simp),fun m _ i a=>absurd a (by simp),fun v c=>⟨v,c,fun _=>0,fun j=>by simp[dot,Rat.sub_eq_add_neg,Rat.add_zero],fun h d=>by cases d⟩,fun s e=>by cases e⟩
theorem MI.skip{W N:Nat}{M:List Vec}{c:Nat}{L S:List Vec}{a:Vy}(h:MI W N M c L S a):MI W N M (c+1) L S a:=by
 obtain⟨f,b,d,e⟩:=h;exact⟨by omega,b,d,e⟩
theorem MI.step{W N:Nat}{M:List Vec}{c j:Nat}{L S:List Vec}{a:Vy}{s:Vec}(h:MI W N M c L S a)(F:L[j]?=some s)(y:s c≠0):
 MI W N M (c+1) ((L.eraseIdx j).map (lessBy c s)) (S++ [s]) (a++ [c]):=by
 obtain⟨h1,h2,z,R,P,Q,G,T⟩:=h;have n:=mO F;have A:=(gZ F).1;have B:((L.eraseIdx j).map (lessBy c s)).length=L.length - 1:=by rw[List.length_map,List.length_eraseIdx_of_lt A]
 obtain⟨r,U,l,hl,H⟩:=G s n;have b:(a++ [c]).length=a.length+1:=by simp
 have V:c<W:=bC fun hn=>y (z s n c (by omega))
 have d:∀(m:Vec) (i:Nat),dot (a.length+1) m (fun t=>(if t=a.length then r else R t) i)=dot a.length m (fun t=>R t i)+m a.length*r i:=fun m i=>by
  simp only[dot];rw[Qac a.length m _ m (fun t=>R t i) (fun t p=>by rw[if_neg (by omega)])];simp
 refine⟨by rw[b];omega,by rw[b,B];omega,?_,fun t=>if t=a.length then r else R t,?_,?_,?_,?_⟩
 .
  intro v f i q;obtain⟨u,C,rfl⟩:=List.mem_map.1 f;have o:=List.mem_of_mem_eraseIdx C;simp only[lessBy];rw[z u o i q,z s n i q];grind
 .
  intro i q;rw[b] at q;by_cases x:i=a.length
  . show (if i=a.length then r else R i)∈ M
    rw[if_pos x];exact U
  . show (if i=a.length then r else R i)∈ M
    rw[if_neg x];exact P i (by omega)
 .
  intro m I;rw[b] at I ⊢;have w:∀h,h∈ a++ [c]->dot a.length m (fun t=>R t h)+m a.length*r h=0:=fun h e=>by rw[<-d];exact I h e
  have g:∀i,r i=s i+dot a.length l (fun t=>R t i):=fun i=>by rw[hl i];grind
  have k:∀h,dot a.length (fun t=>m t+l t*m a.length) (fun t=>R t h)=dot a.length m (fun t=>R t h)+dot a.length l (fun t=>R t h)*m a.length:=fun h=>by rw[Qc6,Qej]
  have hk:=Q (fun t=>m t+l t*m a.length) (fun h e=>by
   rw[k];have X:=w h (by simp[e]);rw[g h,H h e] at X
   grind)
  have Y:=w c (by simp);rw[g c] at Y;have Z:dot a.length (fun t=>m t+l t*m a.length) (fun t=>R t c)=0:=Qa2 _ _ _ (fun t p=>by rw[hk t p];grind);rw[k] at Z;have e4:m a.length*s c=0:=by grind
  have J:m a.length=0:=by
   rcases Rat.mul_eq_zero.1 e4 with h|h
   . exact h
   . exact absurd h y
  intro i q;by_cases x:i=a.length
  . rw[x];exact J
  .
   have:=hk i (by omega);simp only[J] at this;grind
 .
  intro v f;obtain⟨u,C,rfl⟩:=List.mem_map.1 f;have o:=List.mem_of_mem_eraseIdx C;obtain⟨r',D,K,E,g⟩:=G u o;refine⟨r',D,fun t=>if t=a.length then u c / s c else K t - l t*(u c / s c),fun i=>?_,fun h e=>?_⟩
  .
   rw[b,d];rw[Qac a.length _ _ (fun t=>K t - l t*(u c / s c)) (fun t=>R t i) (fun t p=>by rw[if_neg (by omega)]),Qb1];simp only[lessBy,if_true];rw[E i,hl i];grind
  .
   simp only[lessBy];rcases List.mem_append.1 e with e|e
   . rw[g h e,H h e];grind
   .
    simp only[List.mem_singleton] at e;subst e;rw[Rat.div_def,Rat.mul_comm (u h),<-Rat.mul_assoc,Rat.mul_inv_cancel _ y];grind
 .
  intro v f;rw[b];rcases List.mem_append.1 f with f|f
  .
   obtain⟨O,e0⟩:=T v f;refine⟨fun t=>if t=a.length then 0 else O t,fun i=>?_⟩;rw[d,Qac a.length _ _ O (fun t=>R t i) (fun t p=>by rw[if_neg (by omega)]),e0 i];simp only[if_true];grind
  .
   simp only[List.mem_singleton] at f;subst f;refine⟨fun t=>if t=a.length then 1 else l t*(-1),fun i=>?_⟩;rw[d,Qac a.length _ _ (fun t=>l t*(-1)) (fun t=>R t i) (fun t p=>by rw[if_neg (by omega)]),Qej,hl i];simp only[if_true];grind
theorem Qek:∀(n:Nat) (u x:Nat->Int),((Sg.isum n (fun j=>u j*x j):Int):Rat)=dot n (fun j=>(x j:Rat)) (fun j=>(u j:Rat))
 |0,_,_=>by simp[Sg.isum,dot]
 |n+1,u,x=>by
  simp only[Sg.isum,dot];rw[Rat.intCast_add,Rat.intCast_mul,Qek n u x];grind
theorem Qgh:∀(W:Nat) (r x:Vec) (q:Rat),dot W r (fun i=>x i*q)=dot W r x*q
 |0,_,_,_=>by simp[dot]
 |W+1,r,x,q=>by simp only[dot,Qgh W r x q];grind
theorem Qgi{v:Rat}{Z y:Int}{d K:Nat}(c:y≠0)(f:0<d)(e:v*((y:Rat)*(d:Rat))=(Z:Rat))(q:Z.natAbs<2 ^ K)(g:y.natAbs*d<2 ^ K)(i:0<K):Fits v K:=by
 have j:(y:Rat)≠0:=by
  intro h;exact c (Rat.intCast_inj.1 (by rw[h];rfl))
 have k:(d:Rat)≠0:=by
  intro h;have:d=0:=Rat.natCast_inj.1 (by rw[h];rfl);omega
 have l:∃a:Int,a.natAbs=Z.natAbs/\v*((y.natAbs*d:Nat):Rat)=(a:Rat):=by
  rw[Rat.natCast_mul];rcases Int.natAbs_eq y with b|b
  .
   refine⟨Z,rfl,?_⟩;rw[<-e];have:(y:Rat)=((y.natAbs:Nat):Rat):=by
    rw[<-Rat.intCast_natCast,<-b]
   rw[this]
  .
   refine⟨-Z,Int.natAbs_neg Z,?_⟩;have:(y:Rat)= -((y.natAbs:Nat):Rat):=by
    rw[<-Rat.intCast_natCast,<-Rat.intCast_neg,<-b]
   rw[Rat.intCast_neg,<-e,this];grind
 obtain⟨a,r,m⟩:=l;have n:0<y.natAbs*d:=Nat.mul_pos (by omega) f;have o:((y.natAbs*d:Nat):Rat)≠0:=by
  intro h;have:y.natAbs*d=0:=Rat.natCast_inj.1 (by rw[h];rfl);omega
 have p:v=mkRat a (y.natAbs*d):=by
  rw[Rat.mkRat_eq_div,<-m,Rat.div_def,Rat.mul_assoc,Rat.mul_inv_cancel _ o,Rat.mul_one]
 rw[p];exact Fits.mk (by omega) g i
theorem MI.fit{W0 W a K:Nat}{M:List Vec}{D:Nat->Nat}(U:0<a)(E:∀j,0<D j/\D j<=a)(hM:∀r,r∈ M->∀j,∃z:Int,r j*(D j:Rat)=(z:Rat)/\z.natAbs<=a)
 (hK:(W+1)*(a*(2*((W+1)*a)) ^ W)<2 ^ K) (F:0<K) {c:Nat} {L S:List Vec} {o:Vy} (h:MI W0 W M c L S o):∀v,v∈ L->∀j,Fits (v j) K:=by
 obtain⟨_,hW,_,R,V,G,hL,_⟩:=h;intro v hv j;obtain⟨r,hr,l,hl,H⟩:=hL v hv;obtain⟨k,hk⟩:=nm o.length;rw[hk] at hW V G hl;replace hW:k<=W:=by omega
 have I:∀t,t<k+1->(if t=k then r else R t)∈ M:=fun t b=>by
  by_cases B:t=k
  . rw[if_pos B];exact hr
  . rw[if_neg B];exact V t (by omega)
 have d:∀t,t<k+1->∀i,(if t=k then r else R t) i*(D i:Rat)=((((if t=k then r else R t) i*(D i:Rat)).num:Int):Rat)/\(((if t=k then r else R t) i*(D i:Rat)).num).natAbs<=a:=fun t b i=>by
  obtain⟨z,e,H⟩:=hM _ (I t b) i;rw[e,Rat.num_intCast];exact⟨rfl,H⟩
 obtain⟨y,⟨X,aa,p⟩,hy,u⟩:=Sg.siegel k a U (fun t i=>((if i=k then r else R i) (o.getD t 0)*(D (o.getD t 0):Rat)).num) (fun t i b hi=>by
  have:=(d i hi (o.getD t 0)).2
  omega)
 have w:∀i,dot (k+1) (fun t=>(y t:Rat)) (fun t=>(if t=k then r else R t) i)=dot k (fun t=>(y t:Rat)) (fun t=>R t i)+(y k:Rat)*r i:=fun i=>by
  simp only[dot];rw[Qac k _ _ (fun t=>(y t:Rat)) (fun t=>R t i) (fun t b=>by rw[if_neg (by omega)])];simp
 have m:∀i,((Sg.isum (k+1) (fun t=>((if t=k then r else R t) i*(D i:Rat)).num*y t):Int):Rat)=(dot k (fun t=>(y t:Rat)) (fun t=>R t i)+(y k:Rat)*r i)*(D i:Rat):=fun i=>by
  rw[Qek,<-w,<-Qgh];exact Qac _ _ _ _ _ (fun t b=>by rw[<-(d t b i).1])
 have J:∀i,(D i:Rat)≠0:=fun i h=>by
  have q:D i=0:=Rat.natCast_inj.1 (by rw[h];rfl);have:=(E i).1;omega
 have f:∀h,h∈ o->dot k (fun t=>(y t:Rat)) (fun t=>R t h)+(y k:Rat)*r h=0:=fun h s=>by
  obtain⟨t,b,e⟩:=List.mem_iff_getElem.1 s;have q:=hy t (by omega);have N:o.getD t 0=h:=by rw[List.getD_eq_getElem?_getD,gE b,e];rfl
  simp only[N] at q;have C:=m h;rw[q] at C;rcases Rat.mul_eq_zero.1 C.symm with O|O
  . exact O
  . exact absurd O (J h)
 have P:y k≠0:=by
  intro Z;have x:=G (fun t=>(y t:Rat)) (fun h s=>by
   have:=f h s;rw[Z,show ((0:Int):Rat)=0 from rfl] at this
   grind)
  by_cases B:X=k
  . rw[B] at p;exact p Z
  . have:=x X (by omega)
    exact p (Rat.intCast_inj.1 (by rw[this];rfl))
 have n:∀i,dot k (fun t=>(y t:Rat)+l t*(y k:Rat)) (fun t=>R t i)=dot k (fun t=>(y t:Rat)) (fun t=>R t i)+dot k l (fun t=>R t i)*(y k:Rat):=fun i=>by rw[Qc6,Qej]
 have A:=G (fun t=>(y t:Rat)+l t*(y k:Rat)) (fun h s=>by
  rw[n];have e1:=f h s;have N:=hl h;rw[H h s] at N
  grind)
 have Q:dot k (fun t=>(y t:Rat)+l t*(y k:Rat)) (fun t=>R t j)=0:=Qa2 _ _ _ (fun t b=>by rw[A t b];grind);rw[n] at Q;have T:v j*((y k:Rat)*(D j:Rat))=((Sg.isum (k+1) (fun t=>((if t=k then r else R t) j*(D j:Rat)).num*y t):Int):Rat):=by
  rw[m,hl j];grind
 have g:(2*((k+1)*a)) ^ k<=(2*((W+1)*a)) ^ W:=
  Nat.le_trans (Nat.pow_le_pow_left (Nat.mul_le_mul_left _ (Nat.mul_le_mul_right _ (by omega))) k) (Nat.pow_le_pow_right (Nat.mul_pos (by omega) (Nat.mul_pos (by omega) U)) hW)
 obtain⟨Y,hY⟩:=nm ((2*((W+1)*a)) ^ W);rw[hY] at g hK;have hb:=Sg.isum_le (k+1) (fun t=>((if t=k then r else R t) j*(D j:Rat)).num*y t) (-((a*Y:Nat):Int)) ((a*Y:Nat):Int) (fun t b=>by
  have q:=(d t b j).2;have C:(((if t=k then r else R t) j*(D j:Rat)).num*y t).natAbs<=a*Y:=by
   rw[Int.natAbs_mul];exact Nat.mul_le_mul q (Nat.le_trans (u t) g)
  omega)
 have ab:(k+1)*(a*Y)<=(W+1)*(a*Y):=Nat.mul_le_mul_right _ (by omega);refine Qgi P (E j).1 T ?_ ?_ F
 . rw[Int.mul_neg,<-Int.natCast_mul] at hb
   omega
 .
  have q:=Nat.mul_le_mul (Nat.le_trans (u k) g) (E j).2;have C:a*Y<=(W+1)*(a*Y):=Nat.le_mul_of_pos_left _ (by omega);rw[Nat.mul_comm Y a] at q;omega
theorem Span.less{k:Nat}{R:Nat->Vec}{v u:Vec}(h:Span k R v)(a:Span k R u)(q:Rat):Span k R (fun i=>v i - u i*q):=by
 obtain⟨l,e⟩:=h;obtain⟨b,c⟩:=a;refine⟨fun t=>l t - b t*q,fun j=>?_⟩
 show v j - u j*q=_
 rw[Qb1,e j,c j];grind
theorem Span.over{k:Nat}{R:Nat->Vec}{v:Vec}(h:Span k R v)(q:Rat):Span k R (fun i=>v i / q):=by
 obtain⟨l,e⟩:=h;refine⟨fun t=>l t / q,fun j=>?_⟩
 show v j / q=_
 rw[Qee,e j]
theorem Qgj{k:Nat}{R:Nat->Vec}:∀(T:List Vec) (a:Vy) (r:Vec),Span k R r->(∀t,t∈ T->Span k R t)->Span k R (red r T a)
 |t :: T,h :: a,r,hr,hT=>by
  simp only[red];exact Qgj T a _ (hr.less (hT t (by simp)) _) (fun t b=>hT t (by simp[b]))
 | [],_,r,hr,hT=>by unfold red;exact hr
 |_ :: _,[],r,hr,hT=>by unfold red;exact hr
theorem Qkc{k:Nat}{R:Nat->Vec}:∀(S:List Vec) (b:Vy),(∀s,s∈ S->Span k R s)->∀v,v∈ cln S b->Span k R v
 |r :: S,h :: b,hS,v,a=>by
  have c:=Qkc S b (fun s b=>hS s (by simp[b]));simp only[cln,List.mem_cons] at a;rcases a with rfl|a
  . exact Qgj _ _ _ ((hS r (by simp)).over _) c
  . exact c v a
 | [],_,_,v,a=>by unfold cln at a;cases a
 |_ :: _,[],_,v,a=>by unfold cln at a;cases a
theorem Qkd{W a K k:Nat}{M:List Vec}{D:Nat->Nat}{R:Nat->Vec}{H:Vy}(ha:0<a)(N:∀j,0<D j/\D j<=a)(hM:∀r,r∈ M->∀j,∃z:Int,r j*(D j:Rat)=(z:Rat)/\z.natAbs<=a)
 (hK:(W+1)*(a*(2*((W+1)*a)) ^ W)*a<2 ^ K) (P:0<K) (Q:H.length=k) (hW:k<=W) (hR:∀i,i<k->R i∈ M)
 (hI:∀m:Vec,(∀h,h∈ H->dot k m (fun i=>R i h)=0)->∀i,i<k->m i=0) {v:Vec} (hv:Span k R v) {h:Nat} (hh:h∈ H) (A:v h=1) (h0:∀x,x∈ H->x≠h->v x=0) (j:Nat):Fits (v j) K:=by
 obtain⟨B,C,hH⟩:=List.append_of_mem hh;obtain⟨n,hn⟩:=nm ((B++C).length);have S:k=n+1:=by rw[<-Q,hH,<-hn];simp;omega
 subst S;obtain⟨l,hl⟩:=hv;have c:∀t,t<n+1->∀i,R t i*(D i:Rat)=(((R t i*(D i:Rat)).num:Int):Rat)/\((R t i*(D i:Rat)).num).natAbs<=a:=fun t p i=>by
  obtain⟨z,e,hz⟩:=hM _ (hR t p) i;rw[e,Rat.num_intCast];exact⟨rfl,hz⟩
 obtain⟨y,⟨j0,T,U⟩,hy,V⟩:=Sg.siegel n a ha (fun t i=>(R i ((B++C).getD t 0)*(D ((B++C).getD t 0):Rat)).num) (fun t i p hi=>by
  have:=(c i hi ((B++C).getD t 0)).2
  omega)
 have f:∀i,((Sg.isum (n+1) (fun t=>(R t i*(D i:Rat)).num*y t):Int):Rat)=dot (n+1) (fun t=>(y t:Rat)) (fun t=>R t i)*(D i:Rat):=fun i=>by
  rw[Qek,<-Qgh];exact Qac _ _ _ _ _ (fun t p=>by rw[<-(c t p i).1])
 have F:∀i,(D i:Rat)≠0:=fun i h=>by
  have A:D i=0:=Rat.natCast_inj.1 (by rw[h];rfl);have:=(N i).1;omega
 have o:∀x,x∈ B++C->dot (n+1) (fun t=>(y t:Rat)) (fun t=>R t x)=0:=fun x b=>by
  obtain⟨t,p,e⟩:=List.mem_iff_getElem.1 b;have A:=hy t (by omega);have e2:(B++C).getD t 0=x:=by rw[List.getD_eq_getElem?_getD,gE p,e];rfl
  simp only[e2] at A;have X:=f x;rw[A] at X;rcases Rat.mul_eq_zero.1 X.symm with q|q
  . exact q
  . exact absurd q (F x)
 have s:∀x,x∈ H->x=h∨x∈ B++C:=fun x b=>by
  rw[hH] at b;simp only[List.mem_append,List.mem_cons] at b ⊢;rcases b with b|b|b
  . exact .inr (.inl b)
  . exact .inl b
  . exact .inr (.inr b)
 obtain⟨g,G⟩:∃g:Vec,∀i,g i=dot (n+1) (fun t=>(y t:Rat)) (fun t=>R t i):=⟨fun i=>dot (n+1) (fun t=>(y t:Rat)) (fun t=>R t i),fun _=>rfl⟩;have aa:g h≠0:=by
  intro e;have:=hI (fun t=>(y t:Rat)) (fun x b=>by
   rcases s x b with rfl|b
   . rw[<-G];exact e
   . exact o x b) j0 T
  exact U (Rat.intCast_inj.1 (by rw[this];rfl))
 have I:=hI (fun t=>(y t:Rat) - l t*g h) (fun x b=>by
  rw[Qb1,<-G,<-hl];by_cases he:x=h
  . rw[he,A];grind
  .
   rcases s x b with E|E
   . exact absurd E he
   . rw[G,o x E,h0 x b he];grind)
 have ab:g j=v j*g h:=by
  have q:dot (n+1) (fun t=>(y t:Rat) - l t*g h) (fun t=>R t j)=0:=Qa2 _ _ _ (fun t p=>by rw[I t p];grind);rw[Qb1,<-G,<-hl] at q;grind
 have u:(2*((n+1)*a)) ^ n<=(2*((W+1)*a)) ^ W:=
  Nat.le_trans (Nat.pow_le_pow_left (Nat.mul_le_mul_left _ (Nat.mul_le_mul_right _ (by omega))) n) (Nat.pow_le_pow_right (Nat.mul_pos (by omega) (Nat.mul_pos (by omega) ha)) (by omega))
 obtain⟨Y,hY⟩:=nm ((2*((W+1)*a)) ^ W);rw[hY] at u hK;have O:∀i,(Sg.isum (n+1) (fun t=>(R t i*(D i:Rat)).num*y t)).natAbs<=(W+1)*(a*Y):=fun i=>by
  have O:=Sg.isum_le (n+1) (fun t=>(R t i*(D i:Rat)).num*y t) (-((a*Y:Nat):Int)) ((a*Y:Nat):Int) (fun t p=>by
   have A:=(c t p i).2;have X:((R t i*(D i:Rat)).num*y t).natAbs<=a*Y:=by
    rw[Int.natAbs_mul];exact Nat.mul_le_mul A (Nat.le_trans (V t) u)
   omega)
  have af:(n+1)*(a*Y)<=(W+1)*(a*Y):=Nat.mul_le_mul_right _ (by omega);rw[Int.mul_neg,<-Int.natCast_mul] at O;omega
 have ej:=f j;have J:=f h;rw[<-G] at ej J;have bj:=O j;have bh:=O h;obtain⟨Gj,ad⟩:∃z,Sg.isum (n+1) (fun t=>(R t j*(D j:Rat)).num*y t)=z:=⟨_,rfl⟩;obtain⟨Gh,ae⟩:∃z,Sg.isum (n+1) (fun t=>(R t h*(D h:Rat)).num*y t)=z:=⟨_,rfl⟩;rw[ad] at ej bj;rw[ae] at J bh;have L:Gh≠0:=by
  intro e;rw[e] at J;rcases Rat.mul_eq_zero.1 J.symm with q|q
  . exact aa q
  . exact F h q
 have w:∀x d:Nat,x<=(W+1)*(a*Y)->d<=a->x*d<2 ^ K:=fun x d b hd=>Nat.lt_of_le_of_lt (Nat.mul_le_mul b hd) hK
 refine Qgi (Z:=Gj*(D h:Int)) L (N j).1 ?_ ?_ ?_ P
 . rw[Rat.intCast_mul,Rat.intCast_natCast,ej,J,ab]
   grind
 . rw[Int.natAbs_mul,Int.natAbs_natCast]
   exact w _ _ bj (N h).2
 . exact w _ _ bh (N j).2
theorem Qke{K B j:Nat}(hB:0<B):∀{T:List Vec} {a:Vy} {J lo b:Nat} {r:Vec},Cln lo b T a->(∀t,t∈ T->∀i,Fits (t i) B)->(∀i,Fits (r i) J)->(∀h,h∈ a->Fits (r h) j)->J+T.length*(B+j+1)<=K->redFits K r T a/\∀i,Fits (red r T a i) (J+T.length*(B+j+1))
 | [],[],J,lo,b,r,hc,hT,hr,hh,hK=>by
   simp only[List.length_nil,Nat.zero_mul,Nat.add_zero] at hK ⊢;unfold redFits red;exact⟨fun i=>(hr i).mono hK,hr⟩
 |t :: T,h :: a,J,lo,b,r,⟨c1,c2,c3,c4,c5⟩,hT,hr,hh,hK=>by
  have e:(t :: T).length*(B+j+1)=T.length*(B+j+1)+(B+j+1):=by rw[List.length_cons,Nat.succ_mul]
  rw[e] at hK ⊢;have f:=fun i=>(hr i).sub ((hT t (by simp) i).mul (hh h (by simp)) hB)
  have c:=Qke (K:=K) (j:=j) hB (J:=J+(B+j)+1) (r:=fun i=>r i - t i*r h) c5 (fun t g=>hT t (by simp[g])) f (fun x d=>by
   have:r x - t x*r h=r x:=by rw[c4 x d];grind
   rw[this]
   exact hh x (by simp[d])) (by omega)
  refine⟨⟨fun i=>(hr i).mono (by omega),c.1⟩,fun i=>?_⟩;have:=c.2 i;rw[show J+(B+j)+1+T.length*(B+j+1)=J+(T.length*(B+j+1)+(B+j+1)) by omega] at this;exact this
 | [],_ :: _,_,_,_,_,hc,_,_,_,_=>absurd hc (by simp[Cln])
 |_ :: _,[],_,_,_,_,hc,_,_,_,_=>absurd hc (by simp[Cln])
theorem Qkf{K a k n:Nat}{R:Nat->Vec}{H:Vy}(y:0<a)(B:a+n*(a+a+1)<=K)
 (d:∀(v:Vec) (h:Nat),Span k R v->h∈ H->v h=1->(∀x,x∈ H->x≠h->v x=0)->∀j,Fits (v j) a):
 ∀{S:List Vec} {b:Vy} {lo m:Nat} {P:Vy},H=P++b->(∀p,p∈ P->p<lo)->Ech lo m S b->S.length<=n->(∀s,s∈ S->Span k R s)->(∀(t:Nat) (s:Vec) (h:Nat),S[t]?=some s->b[t]?=some h->∀i,Fits (s i / s h) a)->
  clnFits K S b/\∀v,v∈ cln S b->∀i,Fits (v i) a
 | [],[],lo,m,P,hH,hP,he,hn,hS,hf=>by
   unfold clnFits cln;exact⟨trivial,fun v f=>by cases f⟩
 |r :: S,h :: b,lo,m,P,hH,hP,he,hn,hS,hf=>by
  have o:=he;obtain⟨M,N,O,q⟩:=o;have C:S.length+1<=n:=by simpa using hn
  have u:=Qkf y B d (P:=P++ [h]) (by rw[hH];simp) (fun p g=>by
   rcases List.mem_append.1 g with g|g
   . have:=hP p g;omega
   . simp only[List.mem_singleton] at g;omega) q (by omega) (fun s b=>hS s (by simp[b])) (fun t s x e D=>hf (t+1) s x (by simpa using e) (by simpa using D))
  have E:=(Qco 0 q).1;have l:=(Qco 0 he).1;have z:=hf 0 r h rfl rfl;have A:=Qeg S b q.len;have Q:(cln S b).length*(a+a+1)<=n*(a+a+1):=Nat.mul_le_mul_right _ (by omega);have F:=Qke (K:=K) (j:=a) y (J:=a) (r:=fun i=>r i / r h) E u.2 z (fun x _=>z x) (by omega);refine⟨?_,fun v f=>?_⟩
  . unfold clnFits
    exact⟨u.1,F.1⟩
  .
   simp only[cln] at l f;obtain⟨T,G,I,L,U⟩:=l;rcases List.mem_cons.1 f with f|f
   .
    subst f;refine d _ h (Qgj _ _ _ ((hS r (by simp)).over _) (Qkc S b (fun s b=>hS s (by simp[b])))) (by rw[hH];simp) G (fun x c w=>?_);rw[hH] at c;rcases List.mem_append.1 c with c|c
    . exact I x (by have:=hP x c;omega)
    .
     rcases List.mem_cons.1 c with c|c
     . exact absurd c w
     . exact L x c
   . exact u.2 v f
 | [],_ :: _,_,_,_,_,_,he,_,_,_=>absurd he (by simp[Ech])
 |_ :: _,[],_,_,_,_,_,he,_,_,_=>absurd he (by simp[Ech])
def MJ(W N K2:Nat)(M:List Vec)(c:Nat)(L S:List Vec)(hs:Vy):Prop:=
 Elim W M c L S hs/\MI W N M c L S hs/\∀(t:Nat) (s:Vec) (h:Nat),S[t]?=some s->hs[t]?=some h->∀i,Fits (s i / s h) K2
theorem MJ.start(W N a:Nat)(M:List Vec)(b:∀v,v∈ M->∀i,W<=i->v i=0)(c:M.length<=N∨W<=N):MJ W N a M 0 M [] []:=
 ⟨Elim.start W M,MI.start W N M b c,fun t s h e=>by simp at e⟩
theorem MJ.going{w W a K k:Nat}{M:List Vec}{D:Nat->Nat}(p:0<a)(q:∀j,0<D j/\D j<=a)(v:∀r,r∈ M->∀j,∃z:Int,r j*(D j:Rat)=(z:Rat)/\z.natAbs<=a)
 (y:(W+1)*(a*(2*((W+1)*a)) ^ W)<2 ^ K) (l:0<K) (m:(W+1)*(a*(2*((W+1)*a)) ^ W)*a<2 ^ k) (A:0<k):Going K (MJ w W k M) where
 fit:=fun h=>MI.fit p q v y l h.2.1
 skip:=fun h b=>⟨h.1.skip b,h.2.1.skip,h.2.2⟩
 step:=fun {c j L S hs s} h g b=>by
  refine⟨h.1.step g b,h.2.1.step g b,fun t u x e d i=>?_⟩;have hl:=h.1.1.len;by_cases B:t<S.length
  .
   rw[List.getElem?_append_left B] at e;rw[List.getElem?_append_left (by omega)] at d;exact h.2.2 t u x e d i
  .
   have n:t=S.length:=by
    have:=(gZ e).1;simp at this;omega
   subst n;rw[List.getElem?_append_right (by omega)] at e;rw[List.getElem?_append_right (by omega)] at d;simp at e;rw[hl] at d;simp at d;subst e d;obtain⟨_,_,_,_,_,_,C,_⟩:=h.2.1;obtain⟨_,_,_,_,E⟩:=C s (mO g);obtain⟨_,hW,_,R,F,G,_,I⟩:=h.2.1.step g b;refine Qkd (H:=hs++ [c]) p q v m A rfl (by omega) F G ((I s (by simp)).over (s c)) (h:=c) (by simp) ?_ (fun x f o=>?_) i
   . rw[Rat.div_def,Rat.mul_inv_cancel _ b]
   .
    rcases List.mem_append.1 f with f|f
    .
     show s x / s c=0
     rw[E x f,Rat.div_def];grind
    . simp only[List.mem_singleton] at f
      exact absurd f o
theorem MJ.clean{o W a K b:Nat}{M:List Vec}{D:Nat->Nat}(q:0<a)(s:∀j,0<D j/\D j<=a)(t:∀r,r∈ M->∀j,∃z:Int,r j*(D j:Rat)=(z:Rat)/\z.natAbs<=a)
 (e:(W+1)*(a*(2*((W+1)*a)) ^ W)*a<2 ^ b) (l:0<b) (u:b+W*(b+b+1)<=K) {c:Nat} {L S:List Vec} {d:Vy} (h:MJ o W b M c L S d):clnFits K S d/\∀v,v∈ cln S d->∀i,Fits (v i) b:=by
 obtain⟨m,⟨_,hW,_,R,w,y,_,A⟩,B⟩:=h;exact Qkf (H:=d) (R:=R) (k:=d.length) (n:=W) l u (fun v x C E f g j=>Qkd q s t e l rfl (by omega) w y C E f g j) (P:=[]) rfl (fun p F=>by cases F) m.1 (by rw[m.1.len];omega) A B
theorem Qmi(B W K:Nat)(S:List MR)(b:Vy)(sv hv:Value)(wd:Int)(w:Vz)(hr:Grow w B 98 1 IsSl sv S.length (S.map MR.val))(hh:Grow w B 3 1 IsI hv b.length (headsV b))(a8:Oks w W K S)(ah:S.length=b.length)(a9:∀h,h∈ b->h<W)(ai:clnFits K (S.map MR.q) b)(cu:S.length<=1000)(hW:W<=1000)(ba:0<K)(hK:4*K+1<68719476000):
 Calls prog 157 #[.agg #[.int .i64 wd,sv,hv]] w fun e w'=>e=.returned (.tuple #[])/\∃S':List MR,S'.length=S.length/\S'.map MR.q=cln (S.map MR.q) b/\CW w w' B W K S' b (.int .i64 wd) sv hv:=by
 obtain⟨a,J,rfl,_,_,aj⟩:=hr.slice;obtain⟨a2,D,rfl,_,_,_⟩:=hh.slice;obtain⟨HR,HH,HO,HL,bb,HF,HP⟩:=If hr hh a8 ah a9 ai aj;clear hr hh a8 ah a9 ai aj;go_enter func157,ntmps157;obtain⟨V,hV⟩:=nm (w.alloc (.cells #[.int .i64 wd,.slice a S.length J,.slice a2 b.length D] 195));have n:Bl w V:=by rw[<-hV];exact(Below.refl _ _).alloc lZ _
 have bw:O (CW w V B W K S b (.int .i64 wd) (.slice a S.length J) (.slice a2 b.length D)):=Hi ⟨by rw[<-hV];exact SB.new w _ _,HR.o.below n,HH.o.below n,HO.o.fr (Fr.of_below n),fun k hk _=>n.block k hk,n.os,n.tape,n.output,n.size⟩;have HV:=Hi hV;clear hV n;go_wp2_with fail;rw[HV.o];go_loopw [2] (fun i wr=>∃(k:Nat) (s:List MR),k<=S.length/\i=.int .i64 ((k:Int) - 1)/\s.length=S.length/\(∀p,p<k->s[p]?=S[p]?)/\(s.drop k).map MR.q=cln ((S.map MR.q).drop k) (b.drop k)/\CW w wr B W K s b (.int .i64 wd) (.slice a S.length J) (.slice a2 b.length D)) (fun i _=>(intOf i+1).toNat)
 case atStart=>
  refine⟨S.length,S,Nat.le_refl _,by go_num,rfl,fun _ _=>rfl,?_,bw.o⟩;rw[List.drop_of_length_le lZ,List.drop_of_length_le (by simp)];rfl
 case round=>
  obtain⟨k,s,hk,rfl,bc,ak,bd,hC⟩:=hrel;obtain⟨d,al,be,E⟩:=Ic hC ak bd bc;clear hC ak bd bc;by_cases h0:k=0
  .
   subst h0;go_wp2;go_end0;exact⟨rfl,s,E.o,by have:=be.o;simpa using this,d.o⟩
  .
   obtain⟨j,rfl⟩:∃j,k=j+1:=⟨k - 1,by omega⟩;have ej:((j+1:Nat):Int) - 1=(j:Int):=by omega
   rw[ej];clear ej h0;obtain⟨g,rfl,bx⟩:=HP.o (by omega);clear bx;obtain⟨r,hr⟩:∃r,S[j]?=some r:=⟨S[j]'(by omega),gE (by omega)⟩;obtain⟨h,hh⟩:∃h,b[j]?=some h:=⟨b[j]'(by have:=HL.o;omega),gE (by have:=HL.o;omega)⟩;have cv:=bb.o h (mO hh);have Z:s[j]?=some r:=by rw[al.o j (by omega)];exact hr
   obtain⟨bf,G⟩:=Qwy HL.o hr hh be.o HF.o;obtain⟨bz,bg⟩:=Ia bf G;have l:=d.o.ok r (mO Z);have A:=l.len;obtain⟨e,he⟩:∃e,r.ts[h]?=some e:=⟨r.ts[h]'(by omega),gE (by omega)⟩;obtain⟨rb,ro,aa,b3,d0,d1,d2⟩:=l.row.at he;obtain⟨hv,bh,b4⟩:=l.row.get he;have cw:=l.sz e (mO he);obtain⟨hb,ho,rfl,b5,c2⟩:=d.o.heads.crow.cell j (.int .i64 (h:Nat)) (by simp[headsV,hh]);have c1:wr.cell? ⟨g,j,none⟩=some (.slice r.a r.ts.length r.cap):=d.o.rows.cell (by rw[List.getElem?_map,Z];rfl);rw[aa,A] at c1;obtain⟨-,x1,x2,-⟩:=zc d.o.box;have q1:((j:Int)<(S.length:Int)):=by omega
   have q2:((j:Int)<(b.length:Int)):=by have:=HL.o;omega
   have q3:((h:Int)<(W:Int)):=by omega
   obtain⟨bi,cx,HE,b6,b7⟩:=Id l aa (MR.q_at he) hv bh;have au:=Hi (fun u (hu:Bl wr u)=>Qv7 r.a r.cap (2*K) e.k r.ts e.x e.y e.z e.q u (bi.o.row.below hu) (by omega) (b6.o.below hu) b7.o b4 (fun t ht=>by have:=bi.o.sz t ht;omega) (by omega));rw[A,aa] at au;have b8:=Hi Z;clear hr hh Z bf G l he aa hv bh;go_wp2_with fail;go_region_held3 (fun v=>v.cell? ⟨w.heap.size,1,none⟩=some (.slice (some ⟨g,0,none⟩) S.length J)/\v.cell? ⟨w.heap.size,2,none⟩=some (.slice (some ⟨hb,ho,none⟩) b.length D)/\v.cell? ⟨g,j,none⟩=some (.slice (some ⟨rb,ro,none⟩) W r.cap)/\v.cell? ⟨hb,ho+j,none⟩=some (.int .i64 h)/\v.cell? ⟨rb,ro+h*3,none⟩=some e.x/\v.cell? ⟨rb,ro+h*3+1,none⟩=some e.y/\v.cell? ⟨rb,ro+h*3+2,none⟩=some e.z) ((first|(simp [*];done)|go_keep)) (first
    |(
     go_at_call 207;apply cM;apply au.o;(focus(repeat(first|exact Below.refl _ _|apply Qbq|apply Qbr)));rintro e5 w5 ⟨⟨g5,us,rfl,b9,av,N⟩,aw⟩;(first
       |have L:O (Bl wr w5):=Hi aw
       |have L:O (Bl wr w5):=Hi (bR.drew.trans aw))
     obtain⟨ab,ad⟩:=Ia av N;obtain⟨y1,y2⟩:=Ja L.o d.o.box.lt x1 x2;have y3:=(L.o.cell (p:=⟨g,j,none⟩) (d.o.rows.lt (g:=g) rfl).2).trans c1;have y4:=ce L.o b5 c2;obtain⟨y5,y6,y7⟩:=Jb L.o b3 d0 d1 d2;clear av N aw b9
     skip)
    |fail)
   clear x1 x2 c1 c2 d0 d1 d2 y1 y2 y3 y4 y5 y6 y7;have ca:=Hi (d.o.below L.o);obtain⟨r0,am,P,an⟩:=MOk.made (v:=fun i=>r.q i / r.q h) (K:=K) ab.o A (by rw[A];exact ad.o) ba (fun i hi=>by rw[HE.o]) (fun i hi=>by
    show r.q i / r.q h=0
    rw[MR.q_beyond (by omega)]
    exact Qwv _) (fun i _=>bg.o.here i)
   obtain⟨bj,ao,bk⟩:=Ib P an am;clear P an am ab ad au d;have Q:Value.slice (some ⟨g5,0,none⟩) W W=.slice r0.a W r0.cap:=by
    have:=bk.o;unfold MR.val at this;rw[bj.o.len] at this;exact this.symm
   rw[Q];clear Q;go_wp2_with fail;go_loopw [3,4] (fun rv i wq=>∃(m:Nat) (c:MR),j+1<=m/\m<=S.length/\i=.int .i64 m/\rv=.slice c.a W c.cap/\MOk wq W K c/\CW w wq B W K s b (.int .i64 wd) (.slice (some ⟨g,0,none⟩) S.length J) (.slice (some ⟨hb,ho,none⟩) b.length D)/\red c.q ((s.drop m).map MR.q) (b.drop m)=red (fun i=>r.q i / r.q h) ((s.drop (j+1)).map MR.q) (b.drop (j+1))/\redFits K c.q ((s.drop m).map MR.q) (b.drop m)) (fun _ i _=>S.length - (intOf i).toNat)
   case atStart=>exact⟨j+1,r0,Nat.le_refl _,hk,by go_num,rfl,bj.o,ca.o,by rw[ao.o],by rw[ao.o];exact bg.o⟩
   case round=>
    obtain⟨m,c,cy,hm,rfl,rfl,F,hC,ap,bl⟩:=hrel;obtain⟨d,ae,R,bm⟩:=Ic hC F ap bl;clear hC ap bl;by_cases cz:m<S.length
    .
     obtain⟨t,ht⟩:∃t,s[m]?=some t:=⟨s[m]'(by have:=E.o;omega),gE (by have:=E.o;omega)⟩;obtain⟨C,af⟩:∃C,b[m]?=some C:=⟨b[m]'(by have:=HL.o;omega),gE (by have:=HL.o;omega)⟩;have T:=d.o.ok t (mO ht);have c0:=bb.o C (mO af);have ax:=F.len;have cb:=T.len;obtain⟨f,hf⟩:∃f,c.ts[C]?=some f:=⟨c.ts[C]'(by omega),gE (by omega)⟩;obtain⟨qb,qo,ay,av,d0,d1,d2⟩:=F.row.at hf;obtain⟨az,aq,bn⟩:=F.row.get hf;have c3:=F.sz f (mO hf);obtain⟨o1,o2,o3⟩:=az.one;have s0:=Qaa prog o1;have s1:=Qaa prog o2;have s2:=Qaa prog o3;obtain⟨c4,c5,cc,ct,c2⟩:=d.o.heads.crow.cell m (.int .i64 (C:Nat)) (by simp[headsV,af]);cases cc
     have c1:wr.cell? ⟨g,m,none⟩=some (.slice t.a t.ts.length t.cap):=d.o.rows.cell (by rw[List.getElem?_map,ht];rfl);rw[cb] at c1;have bo:=(d.o.rows.lt (g:=g) rfl).2;have cd:=d.o.box.lt;obtain⟨-,x1,x2,-⟩:=zc d.o.box;have q4:((m:Int)<(S.length:Int)):=by omega
     have q5:((m:Int)<(b.length:Int)):=by have:=HL.o;omega
     have q6:((C:Int)<(W:Int)):=by omega
     obtain⟨HT,cf,bp,bq,br,a0,a1⟩:=If T ay (MR.q_at hf) az aq (Qdl ht) (Qdl af);have bs:=Hi (fun u (hu:Bl wr u)=>Qey c.a t.a c.cap t.cap (4*K+1) f.k c.ts t.ts f.x f.y f.z f.q u (ae.o.row.below hu) (HT.o.row.below hu) (by omega) (by omega) (bq.o.below hu) br.o bn (fun x hx y hy=>by have:=ae.o.sz x hx;have:=HT.o.sz y hy;omega) (by omega));rw[ax] at bs;obtain⟨cg,X1⟩:=Ia c1 x1;rw[ay];obtain⟨V2,ag⟩:=nm (wr.alloc (.cells #[f.x,f.y,f.z] 107));have a3:=Ua ag;have bt:=Uc ag;have ch:=Hi ag;clear ht af T hf ay az aq ag o1 o2 o3 F;go_wp2_with fail;rw[ch.o];go_fit (Qbz (bq.o.below a3.o))
     rintro e' w4 ⟨rfl,a4⟩;have M:=Hi (a3.o.trans (a4.mono a3.o.size));obtain⟨a5,ci,a6⟩:=Ib (d.o.below M.o) (ae.o.fr (Fr.of_below M.o)) (bt.o.below a4 bt.o.lt);clear a4 c1 c2 d0 d1 d2 s0 s1 s2 x1 x2;rw[<-cf.o];by_cases h0:f.q=0
     .
      rw[decide_eq_true h0];have HZ:=Hi (bp.o.trans h0);clear h0;go_wp2;go_roundw
      case rel=>
       have h1:=R.o;have h2:=bm.o;rw[a0.o,a1.o,List.map_cons] at h1 h2;rw[Qwx HZ.o] at h1;exact⟨m+1,c,by omega,by omega,by go_num,rfl,ci.o,a5.o,h1,h2.skip HZ.o⟩
      case measure=>simp[intOf];omega
     .
      rw[decide_eq_false h0];clear h0;obtain⟨-,y1,-⟩:=zc a5.o.box;have y2:=ce M.o bo cg.o;obtain⟨b0,b1,b2,-⟩:=zc a6.o;obtain⟨Y1,Y2⟩:=Ia y1 y2;have bu:=Nat.lt_of_lt_of_le bo M.o.size;have bv:=Nat.lt_of_lt_of_le cd M.o.size;go_wp2_with fail;go_region_held3 (fun v=>v.cell? ⟨w.heap.size,1,none⟩=some (.slice (some ⟨g,0,none⟩) S.length J)/\v.cell? ⟨g,m,none⟩=some (.slice t.a W t.cap)/\v.cell? ⟨wr.heap.size,0,none⟩=some f.x/\v.cell? ⟨wr.heap.size,1,none⟩=some f.y/\v.cell? ⟨wr.heap.size,2,none⟩=some f.z) ((first|(simp [*];done)|go_keep)) (first
       |(
        go_at_call 169;apply cM;apply bs.o;(focus(repeat(first|exact M.o|apply Qbq|apply Qbr)));rintro e6 w6 ⟨⟨g6,us,rfl,cj,ar,N⟩,a7⟩;(first
          |have U:O (Bl w4 w6):=Hi a7
          |have U:O (Bl w4 w6):=Hi (bR.drew.trans a7))
        obtain⟨ab,ad,ck⟩:=Ib ar N (a6.o.below U.o a6.o.lt);have z1:=ce U.o bv Y1.o;have z2:=ce U.o bu Y2.o;obtain⟨z3,z4,z5,-⟩:=zc ck.o;clear ar N a7 cj
        skip)
       |fail)
      all_goals
       clear y1 y2 b0 b1 b2 z1 z2 z3 z4 z5;have G:=bm.o;rw[a0.o,a1.o,List.map_cons] at G;obtain⟨r6,I,H,X⟩:=MOk.made (v:=fun i=>c.q i - t.q i*c.q C) (K:=K) ab.o ax (by rw[ax];exact ad.o) ba (fun i hi=>by
        show c.q i - qAt t.ts i*f.q=_
        rw[qAt_q,bp.o]) (fun i hi=>by
        show c.q i - t.q i*c.q C=0
        rw[MR.q_beyond (r:=c) (by omega),MR.q_beyond (r:=t) (by omega)]
        exact Qww _) (fun i _=>G.next.here i)
       have Y:Value.slice (some ⟨g6,0,none⟩) W W=.slice r6.a W r6.cap:=by
        unfold MR.val at I;rw[H.len] at I;exact I.symm
       have cl:O (red r6.q ((s.drop (m+1)).map MR.q) (b.drop (m+1))=red (fun i=>r.q i / r.q h) ((s.drop (j+1)).map MR.q) (b.drop (j+1))):=Hi (by
        have h1:=R.o;rw[a0.o,a1.o,List.map_cons] at h1;rw[X]
        exact h1)
       have cm:O (redFits K r6.q ((s.drop (m+1)).map MR.q) (b.drop (m+1))):=Hi (by rw[X];exact G.next);obtain⟨cn,cp⟩:=Ia H Y;clear G I H X Y;go_wp2_with fail;refine⟨⟨m+1,r6,by omega,by omega,by go_num,cp.o,cn.o,a5.o.below U.o,cl.o,cm.o⟩,?_⟩;simp[intOf];omega
    .
     have cq:m=S.length:=by omega
     subst cq;have er:c.val=.slice c.a W c.cap:=by unfold MR.val;rw[F.len]
     have hq:c.q=red (fun i=>r.q i / r.q h) ((s.drop (j+1)).map MR.q) (b.drop (j+1)):=by
      have h1:=R.o;rw[List.drop_of_length_le (by rw[E.o];exact Nat.le_refl _)] at h1
      simpa [red] using h1
     obtain⟨cr,HQ⟩:=Ia er hq;obtain⟨-,x1,-⟩:=zc d.o.box;have f0:=d.o.rows.free j;have t0:=d.o.rows.cell (by rw[List.getElem?_map,b8.o];rfl);clear er hq F;go_wp2_with fail;refine⟨⟨j,s.set j c,by omega,by go_num,by rw[List.length_set];exact E.o,fun p hp=>?_,?_,?_⟩,?_⟩
     . rw[List.getElem?_set_ne (by omega)]
       exact al.o p (by omega)
     .
      have cs:j<s.length:=by have:=E.o;omega
      rw[Qdl (List.getElem?_set_self cs),List.drop_set,if_pos (by omega),List.map_cons,HQ.o];exact bz.o.symm
     . rw[<-cr.o]
       exact d.o.set E.o.symm (by have:=E.o;omega) ae.o
     . simp[intOf]
theorem Qe3(a:Vx)(A K:Nat)(b:List FE)(w:Vz)(l:Glob w)(h:QRow w a A b)(hk:∀t,t∈ b->t.k<=K)(hK:K<=274877906944)(hl:b.length<=1000):
 Calls prog 58 #[.slice a b.length A] w fun e w'=>(∃(g:Nat) (c:Vt),e=.returned (.slice (some ⟨g,0,none⟩) b.length b.length)/\(c.length=b.length/\w.heap.size<=g)/\SB w' g 32 (textsV c).toArray/\∀(i:Nat) (t:FE) (s:Vs),b[i]?=some t->c[i]?=some s->QText s.data.toList t.q)/\Below w.heap.size w w':=by
 obtain⟨Z,I,HK⟩:=Ib h l hk;have B:=fun w=>Qx4 b.length (by omega) w
 obtain⟨MC,r⟩:=nm ((textsV (List.replicate b.length ⟨#[]⟩)).toArray);rw[r] at B;have J:=Hi r;clear h l hk r;go_enter func58,ntmps58;go_wp2_with fail;clear B;obtain⟨g,l⟩:=nm w.heap.size;obtain⟨V,G⟩:=nm (w.alloc (.cells MC 32));have L:O (Below g w V):=Hi (by rw[<-G,<-l];exact(Below.refl _ _).alloc lZ _);have M:O (SB V g 32 (textsV (List.replicate b.length ⟨#[]⟩)).toArray):=Hi (by rw[<-G,<-l,J.o];exact SB.new w _ _)
 try rw[G]
 try rw[l]
 clear G;go_loopw [10] (fun i wr=>∃(k:Nat) (c:Vt),k<=b.length/\i=.int .i64 k/\c.length=b.length/\SB wr g 32 (textsV c).toArray/\(∀(i:Nat) (t:FE) (s:Vs),i<k->b[i]?=some t->c[i]?=some s->QText s.data.toList t.q)/\Below g w wr) (fun i _=>b.length - (intOf i).toNat)
 case atStart=>exact⟨0,_,by omega,rfl,by simp,M.o,fun i t s hi=>by omega,L.o⟩
 case round=>
  obtain⟨k,c,hk,rfl,C,u,m,hb⟩:=hrel;obtain⟨N,v,HA⟩:=Ib hb u m;have P:=u.lt;have d:=Hi C;clear hb u m C;by_cases Q:k<b.length
  .
   obtain⟨t,n⟩:∃t,b[k]?=some t:=⟨b[k],gE Q⟩;have j:Below w.heap.size w wr:=by rw[l];exact N.o
   obtain⟨fb,aa,rfl,ab,d0,d1,d2⟩:=(Z.o.below j).at n;obtain⟨D,R,S⟩:=Ib ((Z.o.below j).get n) (HK.o t (mO n)) (I.o.below j);have q1:((k:Int)<(b.length:Int)):=by omega
   have HT:=Hi n;obtain⟨T,E⟩:∃T,c[k]?=some T:=⟨c[k]'(by have:=d.o;omega),gE (by have:=d.o;omega)⟩;have U:=Hi E;clear n j E;go_wp2_with fail;go_fit (Qd5 (S.o.tab (by unfold hasTen;kernel_rfl)) D.o.1 (D.o.2.1.mono R.o) hK);rintro e w2 ⟨⟨s,rfl,F⟩,z⟩;obtain⟨W,X,f⟩:=Ib F z (v.o.below z v.o.lt);have f0:=f.o.free k;have t0:w2.cell? ⟨g,k,none⟩=some (.string T):=by
    rw[f.o.cell];simp[textsV,U.o]
   clear F z d0 d1 d2;go_wp2;go_roundw
   case rel=>
    refine⟨k+1,c.set k s,by omega,by go_num,by rw[List.length_set];exact d.o,?_,fun i x y hi hx H=>?_,(N.o.trans (X.o.mono (Nat.le_of_lt P))).setCell (p:=⟨g,k,none⟩) lZ _⟩
    .
     have:=f.o.set k (.string s);rw[Qx5]
     simpa using this
    .
     rcases Nat.lt_or_ge i k with h1|h1
     . rw[List.getElem?_set_ne (by omega)] at H
       exact HA.o i x y h1 hx H
     .
      obtain rfl:i=k:=by omega
      rw[List.getElem?_set_self (by have:=d.o;omega)] at H;obtain rfl:=Option.some.inj H;obtain rfl:=Option.some.inj (HT.o.symm.trans hx);exact W.o
   case measure=>simp[intOf];omega
  .
   have Y:k=b.length:=by omega
   subst Y;go_wp2;go_ret;rw[l];exact⟨⟨g,c,rfl,⟨d.o,Nat.le_of_eq rfl⟩,v.o,fun i t s n hs=>HA.o i t s (gZ n).1 n hs⟩,N.o⟩
theorem Tryz.stressInfo:(prog.info? 45).map (·.size)=some 2:=by kernel_rfl
theorem QRow.take{w:Vz}{a:Vx}{b:Nat}{c:List FE}(h:QRow w a b c)(n:Nat):QRow w a b (c.take n):=by
 refine⟨⟨?_,⟨fun j u d=>h.row.row.cell j u ?_⟩⟩,fun t f=>h.ts t (List.mem_of_mem_take f)⟩
 .
  have:=h.row.fit;rw[List.length_take];omega
 .
  have e:c.flatMap FE.cells=(c.take n).flatMap FE.cells++(c.drop n).flatMap FE.cells:=by rw[<-List.flatMap_append,List.take_append_drop]
  rw[e,List.getElem?_append_left (gZ d).1];exact d
theorem QRow.drop{w:Vz}{b a f:Nat}{d:List FE}(h:QRow w (some ⟨b,a,none⟩) f d){n:Nat}(i:n<=d.length):QRow w (some ⟨b,a+n*3,none⟩) (f - n) (d.drop n):=by
 refine⟨⟨?_,⟨fun j u k=>?_⟩⟩,fun t l=>h.ts t (List.mem_of_mem_drop l)⟩
 .
  have:=h.row.fit;rw[List.length_drop];omega
 .
  have e:d.flatMap FE.cells=(d.take n).flatMap FE.cells++(d.drop n).flatMap FE.cells:=by rw[<-List.flatMap_append,List.take_append_drop]
  have hl:((d.take n).flatMap FE.cells).length=n*3:=by
   rw[Qay (c:=FE.cells) (sz:=3) (fun _=>rfl),List.length_take,Nat.min_eq_left i]
  obtain⟨q,g,m,o,p⟩:=h.row.row.cell (n*3+j) u (by rw[e,List.getElem?_append_right (by omega),hl,Nat.add_sub_cancel_left];exact k);cases m;exact⟨b,a+n*3,rfl,o,by rw[Nat.add_assoc];exact p⟩
theorem QRow.empty(w:Vz)(a:Vx)(b:Nat):QRow w a b []:=⟨⟨Nat.zero_le _,⟨fun j u c=>by simp at c⟩⟩,fun t d=>by cases d⟩
def Told(ts:List FE)(ss:Vt):Prop:=ss.length=ts.length/\∀(i:Nat) (t:FE) (s:Vs),ts[i]?=some t->ss[i]?=some s->QText s.data.toList t.q
theorem Qmp(S T:Value)(a2:Vx)(c2 nb b d a K:Nat)(c:List FE)(w:Vz)(U:Glob w)(h:QRow w (some ⟨b,d,none⟩) a c)(hk:∀t,t∈ c->t.k<=K)(hK:K<=274877906944)(hl:c.length<=1000)(hn:nb<=c.length)(ae:a<=1000)(o1:S.oneCell'=true)(o3:T.oneCell'=true):
 Calls prog 99 #[.agg #[S,.slice a2 nb c2,T],.slice (some ⟨b,d,none⟩) c.length a] w fun e w'=>(∃(n p:Nat) (x y:Vt),e=.returned (.agg #[.slice (some ⟨n,0,none⟩) nb nb,.slice (some ⟨p,0,none⟩) (c.length - nb) (c.length - nb)])/\SB w' n 32 (textsV x).toArray/\SB w' p 32 (textsV y).toArray/\Told (c.take nb) x/\Told (c.drop nb) y/\w.heap.size<=n/\w.heap.size<=p)/\Below w.heap.size w w':=by
 have s:=h.row.fit;have W:(c.take nb).length=nb:=by rw[List.length_take];omega
 have X:(c.drop nb).length=c.length - nb:=List.length_drop;obtain⟨A,hA,z⟩:∃A:Addr,(if a=nb then some (⟨b,d,none⟩:Addr) else some ⟨b,d+nb*3,none⟩)=some A/\QRow w (some A) (a - nb) (c.drop nb):=by
  by_cases e:a=nb
  .
   refine⟨⟨b,d,none⟩,by simp[e],?_⟩;have:c.drop nb= []:=List.drop_of_length_le (by omega);rw[this];exact QRow.empty _ _ _
  . exact⟨⟨b,d+nb*3,none⟩,by simp[e],h.drop hn⟩
 obtain⟨B,C⟩:=Ia (fun u (D:Bl w u)=>Qe3 (some ⟨b,d,none⟩) a K (c.take nb) u (U.below D) ((h.take nb).below D) (fun t Y=>hk t (List.mem_of_mem_take Y)) hK (by omega)) (fun u (D:Bl w u)=>Qe3 (some A) (a - nb) K (c.drop nb) u (U.below D) (z.below D) (fun t Y=>hk t (List.mem_of_mem_drop Y)) hK (by omega));rw[W] at B;rw[X] at C;obtain⟨Z,aa⟩:=Ia W X;clear h U hk z W X;go_enter func99,ntmps99;obtain⟨V,E⟩:=nm ((w.alloc (.cells #[S,.slice a2 nb c2,T] 26)).alloc (.cells #[.slice none 0 0,.slice none 0 0] 45));have g:=Ub E;have af:=Ud E
 have i:=Ue E;have HV:=Hi E;clear E;have q1:nb<=a:=by omega
 have q2:=s;go_wp2_with fail;rw[HV.o];go_region_held3 (fun _=>True) (trivial) (first
  |(
   go_at_call_of 58 (Value.slice (some ⟨b,d,none⟩) nb a);apply cM;apply B.o;(focus(repeat(first|exact g.o|apply Qbq|apply Qbr)));rintro e1 R ⟨⟨n,x,rfl,F,G,H⟩,q⟩;(first
     |have j:O (Bl V R):=Hi q
     |have j:O (Bl V R):=Hi (bR.drew.trans q))
   obtain⟨I,J,ab,l⟩:=Ic F G H (g.o.trans (j.o.mono g.o.size));clear F G H q
   skip)
  |(
   go_at_call_of 58 (Value.slice (some A) (c.length - nb) (a - nb));apply cM;apply C.o;(focus(repeat(first|exact l.o|apply Qbq|apply Qbr)));rintro e2 w2 ⟨⟨p,y,rfl,L,M,N⟩,r⟩;(first
     |have m:=Hi r
     |have m:O (Bl R w2):=Hi (bR.drew.trans r))
   obtain⟨P,Q,ad,f⟩:=Ic L M N ((i.o.below j.o i.o.lt).below m.o (i.o.below j.o i.o.lt).lt);obtain⟨r0,r1,-⟩:=zc f.o;have f0:=f.o.free 0;have f1:=f.o.free 1;clear L M N r
   skip)
  |fail)
 all_goals
  go_wp2;have hx:=J.o.below m.o J.o.lt;have nx:=hx.unlike f.o (by decide);have ny:=Q.o.unlike f.o (by decide);refine bodyPost_ret (v:=.agg #[.slice (some ⟨n,0,none⟩) nb nb,.slice (some ⟨p,0,none⟩) (c.length - nb) (c.length - nb)]) (results_cell_row rfl _ _ (w.heap.size+1) 45 #[.slice (some ⟨n,0,none⟩) nb nb,.slice (some ⟨p,0,none⟩) (c.length - nb) (c.length - nb)] (0,0) _ rfl ((f.o.set 0 _).set 1 _) underlying45 rfl Tryz.stressInfo) rfl ?_;exact⟨⟨n,p,x,y,rfl,(hx.other nx _ _).other nx _ _,(Q.o.other ny _ _).other ny _ _,⟨by rw[Z.o];exact I.o.1,ab.o⟩,⟨by rw[aa.o];exact P.o.1,ad.o⟩,Nat.le_trans g.o.size I.o.2,Nat.le_trans l.o.size P.o.2⟩,((l.o.trans (m.o.mono l.o.size)).setCell (Nat.le_succ _) _).setCell (Nat.le_succ _) _⟩
def agnStep(v:Vec)(p:Nat × Rat × Rat):Vec:=upd (upd v (2*p.1) (v (2*p.1) - p.2.1)) (2*p.1+1) (v (2*p.1+1) - p.2.2)
def agn(vs:List (Nat × Rat × Rat)):Vec:=vs.foldl agnStep (fun _=>0)
theorem Qdn{vs:List (Nat × Rat × Rat)}{k:Nat}{p:Nat × Rat × Rat}(h:vs[k]?=some p):agn (vs.take (k+1))=agnStep (agn (vs.take k)) p:=by
 unfold agn;rw[List.take_add_one,h];simp[List.foldl_append]
theorem agn_x{v:Vec}{p:Nat × Rat × Rat}:agnStep v p (2*p.1)=v (2*p.1) - p.2.1:=by
 unfold agnStep;rw[Qap _ _ (by omega),Qa4]
theorem agn_y{v:Vec}{p:Nat × Rat × Rat}:agnStep v p (2*p.1+1)=v (2*p.1+1) - p.2.2:=Qa4 _ _ _
theorem Qe4{v:Vec}{p:Nat × Rat × Rat}{i:Nat}(a:i≠2*p.1)(b:i≠2*p.1+1):agnStep v p i=v i:=by
 unfold agnStep;rw[Qap _ _ b,Qap _ _ a]
structure LoadV (n:Nat) (l:L3) (p:Nat × Rat × Rat):Prop where
 j:l.j=(p.1:Nat)
 lt:p.1<n
 x:QOf l.x.data.toList p.2.1
 y:QOf l.y.data.toList p.2.2
 sx:l.x.size<=1048576
 sy:l.y.size<=1048576
theorem Qe5{s:Vs}{q:Rat}{w:Vz}(a:Glob w)(b:QOf s.data.toList q)(g:s.size<=1048576):Calls prog 63 #[.string s] w (FNew w q):=by
 obtain⟨m,c⟩:=a.most;refine(Qk3 s m w c (by omega)).mono ?_;rintro e w' ⟨h,d,f⟩;rw[b.inj d];exact f
theorem Qe6{w:Vz}{g K i:Nat}{us:List FE}{x y z:Value}{q:Rat}(h:QBlk w g us)(a:i<us.length)(b:FracV w (.agg #[x,y,z]) q)(c:Fits q K)(d:0<K):QBlk (((w.setCell ⟨g,i*3,none⟩ x).setCell ⟨g,i*3+1,none⟩ y).setCell ⟨g,i*3+2,none⟩ z) g (us.set i ⟨x,y,z,q,K⟩):=
 h.set (k:=i) (e:=⟨x,y,z,q,K⟩) a ⟨b,c,d⟩
theorem Qmq(a1 a2 a3 al:Vx)(c1 c2 c3 cl nj nb nh K:Nat)(ls:List L3)(vs:List (Nat × Rat × Rat))(w:Vz)(hg:Glob w)(hl:ARow L3.cells w al cl ls)(bw:ls.length<=1000)(hn:nj<=10)(ap:vs.length=ls.length)(aq:∀(i:Nat) (l:L3) (p:Nat × Rat × Rat),ls[i]?=some l->vs[i]?=some p->LoadV nj l p)
 (af:0<K) (hK:K+4194305<68719476000) (aa:∀k i,Fits (agn (vs.take k) i) K):
 Calls prog 52 #[.agg #[.slice a1 nj c1,.slice a2 nb c2,.slice a3 nh c3],.slice al ls.length cl] w fun e w'=>(∃(g N:Nat) (us:List FE),N=2*nj/\e=.returned (.slice (some ⟨g,0,none⟩) N N)/\QBlk w' g us/\us.length=N/\∀(i:Nat) (t:FE),us[i]?=some t->t.q=agn vs i/\t.k<=K)/\Below w.heap.size w w':=by
 obtain⟨HG,ag,ah,bh,HF⟩:=Id hg hl ap aq aa;obtain⟨N,hN⟩:=nm (2*nj);have ar:=fun w=>Qa3 N (by omega) w
 obtain⟨MC,ai⟩:=nm (((List.replicate N FE.zero).flatMap FE.cells).toArray);rw[ai] at ar;have bi:=Hi ai.symm;have au:2*(nj:Int)=(N:Int):=by omega
 have av:=Hi (fun u=>Qb6 a1 a2 a3 c1 c2 c3 nj nb nh u hn);simp only[au] at av;have HN:=Hi hN;clear hN au;clear hg hl ap aq aa ai;go_enter func52,ntmps52;go_wp2_with fail;go_fit (av.o _);rintro e w1 ⟨rfl,aw⟩;have aj:=Hi ((bR.alloc lZ _).trans (aw.mono (by simp)));clear aw;obtain⟨g,hg⟩:=nm w1.heap.size;obtain⟨V,hV⟩:=nm (w1.alloc (.cells MC 107));have m:w.heap.size<=g:=by rw[<-hg];exact aj.o.size
 have bj:O (Bl w V):=Hi (by rw[<-hV];exact aj.o.alloc aj.o.size _);have bk:O (QBlk V g (List.replicate N FE.zero)):=Hi (by rw[<-hV,<-hg];exact QBlk.new w1 N MC bi.o);have HV:=Hi hV;clear hV;go_wp2_with fail;rw[HV.o]
 try rw[hg]
 clear ar;go_loopw [14] (fun i wr=>∃(k:Nat) (us:List FE),k<=ls.length/\i=.int .i64 k/\us.length=N/\QBlk wr g us/\(∀(i:Nat) (t:FE),us[i]?=some t->t.q=agn (vs.take k) i/\t.k<=K)/\Below w.heap.size w wr) (fun i _=>ls.length - (intOf i).toNat)
 case atStart=>
  refine⟨0,_,Nat.zero_le _,rfl,by simp,bk.o,fun i t f=>?_,bj.o⟩;obtain⟨_,rfl⟩:=List.mem_replicate.1 (mO f);exact⟨rfl,af⟩
 case round=>
  obtain⟨k,us,hk,rfl,ax,ay,az,hb⟩:=hrel;obtain⟨HU,HQ,ak,HB⟩:=Ic ax ay az hb;clear ax ay az hb;by_cases bl:k<ls.length
  .
   obtain⟨l,hl⟩:∃l,ls[k]?=some l:=⟨ls[k],gE bl⟩;obtain⟨p,hp⟩:∃p,vs[k]?=some p:=⟨vs[k]'(by have:=ah.o;omega),gE (by have:=ah.o;omega)⟩;have L:=bh.o k l p hl hp;obtain⟨lb,lo,rfl,a0,d0,d1,d2⟩:=(ag.o.below HB.o).load hl;obtain⟨bx,bz,e',b0,_⟩:=ag.o.load hl;cases e';rw[L.j] at d0;have bm:lb≠g:=by omega
   have bv:=bm.symm;obtain⟨X,hX⟩:=nm (2*p.1);obtain⟨Y,hY⟩:=nm (2*p.1+1);have a4:2*(p.1:Int)=(X:Int):=by omega
   have a6:2*(p.1:Int)+1=(Y:Int):=by omega
   have a7:=L.lt;have b1:X<N:=by have:=HN.o;omega
   have b2:Y<N:=by have:=HN.o;omega
   obtain⟨a8,a9⟩:=Ia (fun u=>Qcu p.1 u (by omega)) (fun u=>Qcv p.1 u (by omega));simp only[a6] at a9;simp only[a4] at a8;have ba:X≠Y:=by omega
   obtain⟨HX,HY,HP,c⟩:=Ic hX hY hp L;have q1:((k:Int)<(ls.length:Int)):=by omega
   have q2:((X:Int)<(N:Int)):=by omega
   have q3:((Y:Int)<(N:Int)):=by omega
   have bn:=Hi hl;clear hl hp L hX hY a4 a6 a7;go_wp2_with fail;go_region_held3 (fun v=>v.cell? ⟨lb,lo+k*3,none⟩=some (.int .i64 (p.1:Nat))) ((first|(simp [*];done)|go_keep)) (first
    |(
     go_at_call 108;apply cM;apply a8.o
     rintro e2 w2 ⟨rfl,rfl⟩)
    |(
     go_at_call 109;apply cM;apply a9.o
     rintro e2 w2 ⟨rfl,rfl⟩)
    |fail)
   obtain⟨z0,M⟩:∃z0,us[X]?=some z0:=⟨us[X]'(by have:=HU.o;omega),gE (by have:=HU.o;omega)⟩;obtain⟨HZ,am⟩:=Ia (HQ.o.row.get M) (ak.o _ _ M);obtain⟨gy,oy,an,_,t0,t1,t2⟩:=HQ.o.row.at M;cases an;simp only[Nat.zero_add] at t0 t1 t2;obtain⟨A,B,C,bb⟩:=Ic t0 t1 t2 d1;have bc:=HQ.o.blk.lt;obtain⟨ao,D⟩:=Ia (fun u (hu:Bl wr u)=>Qe5 ((HG.o.below HB.o).below hu) c.o.x c.o.sx) (c.o.x.fits (n:=1048576) (by have:=c.o.sx;simpa using this));have bo:=am.o.2;clear M;go_wp2_with fail
   first|(go_region_with (first
    |(
     go_at_call 63;apply cM;apply ao.o;(focus(repeat(first|exact Below.refl _ _|apply Qbq|apply Qbr)));rintro e2 w2 ⟨⟨v2,rfl,hv2⟩,b⟩;obtain⟨n2,E,l2,F,m2,o2,p2,rfl,hv2⟩:=hv2;(first
       |have a:O (Bl wr w2):=Hi b
       |have a:O (Bl wr w2):=Hi (bR.drew.trans b)
       |have a:O (Bl wr w2):=Hi (bR.drew.drew.trans b))
     have r:O (FracV w2 (.agg #[.bool n2,.slice E l2 F,.slice m2 o2 p2]) p.2.1):=Hi ⟨n2,E,l2,F,m2,o2,p2,rfl,hv2⟩;clear hv2 b t0 t1 t2 d1;obtain⟨t0,t1,t2⟩:=Jb a.o bc A.o B.o C.o;have d1:=ce a.o a0 bb.o
     skip)
    |(
     go_at_call 57;apply cM;(first
       |exact Qa9 (HZ.o.1.below a.o) r.o HZ.o.2.1 D.o (by omega)
       |exact Qa9 (HZ.o.1.below a.o.drew) (r.o.below bR.drew) HZ.o.2.1 D.o (by omega))
     rintro e3 w3 ⟨⟨v3,rfl,hv3⟩,d⟩;obtain⟨n3,P,l3,Q,m3,o3,p3,rfl,hv3⟩:=hv3;(first
       |have s:=Hi (a.o.trans (d.mono a.o.size))
       |have s:O (Bl wr w3):=Hi (a.o.trans (((bR.drew).trans d).mono a.o.size)))
     have bd:O (FracV w3 (.agg #[.bool n3,.slice P l3 Q,.slice m3 o3 p3]) (z0.q - p.2.1)):=Hi ⟨n3,P,l3,Q,m3,o3,p3,rfl,hv3⟩;have G:=Hi (HQ.o.below s.o);clear hv3 d t0 t1 t2 d1;obtain⟨t0,t1,t2⟩:=Jb s.o bc A.o B.o C.o;have d1:=ce s.o a0 bb.o;have f0:=G.o.blk.free (X*3);have f1:=G.o.blk.free (X*3+1);have f2:=G.o.blk.free (X*3+2)
     skip)
    |fail))|fail
   all_goals
    have be:Fits (z0.q - p.2.1) K:=by
     have h1:=HF.o (k+1) X;rw[Qdn HP.o,<-HX.o,agn_x,HX.o,<-am.o.1] at h1;exact h1
    obtain⟨us1,h⟩:=nm (us.set X ⟨.bool n3,.slice P l3 Q,.slice m3 o3 p3,z0.q - p.2.1,K⟩);obtain⟨z,R⟩:=nm (((w3.setCell ⟨g,X*3,none⟩ (.bool n3)).setCell ⟨g,X*3+1,none⟩ (.slice P l3 Q)).setCell ⟨g,X*3+2,none⟩ (.slice m3 o3 p3));have S:O (QBlk z g us1):=Hi (by rw[<-R,<-h];exact Qe6 G.o (by have:=HU.o;omega) bd.o be af);have H:O (us1.length=N):=Hi (by rw[<-h,List.length_set];exact HU.o);have ab:O (∀(i:Nat) (t:FE),us1[i]?=some t->t.q=(if i=X then z0.q - p.2.1 else agn (vs.take k) i)/\t.k<=K):=Hi (fun i t f=>by
     rw[<-h] at f;by_cases e:i=X
     .
      subst e;rw[List.getElem?_set_self (by have:=HU.o;omega)] at f;obtain rfl:=Option.some.inj f;rw[if_pos rfl];exact⟨rfl,Nat.le_refl _⟩
     .
      rw[List.getElem?_set_ne (Ne.symm e)] at f;rw[if_neg e]
      exact ak.o i t f)
    have T:O (Bl w z):=Hi (by rw[<-R];exact(((HB.o.trans (s.o.mono HB.o.size)).setCell (p:=⟨g,X*3,none⟩) m _).setCell (p:=⟨g,X*3+1,none⟩) m _).setCell (p:=⟨g,X*3+2,none⟩) m _);obtain⟨b3,b4,bp,ad,d0,d1,d2⟩:=(ag.o.below T.o).load bn.o;cases bp;obtain⟨bq,br⟩:=Ia am.o.1 R;clear be h R t0 t1 t2 f0 f1 f2 d0 d1 a r G s bd;go_wp2_with fail;rw[br.o];obtain⟨z1,U⟩:∃z1,us1[Y]?=some z1:=⟨us1[Y]'(by have:=H.o;omega),gE (by have:=H.o;omega)⟩;obtain⟨W,I⟩:=Ia (S.o.row.get U) (ab.o _ _ U);obtain⟨gy,oy,an,_,t0,t1,t2⟩:=S.o.row.at U;cases an;simp only[Nat.zero_add] at t0 t1 t2;obtain⟨A,B,C,bf⟩:=Ic t0 t1 t2 d2;have ae:=S.o.blk.lt
    obtain⟨ao,D⟩:=Ia (fun u (hu:Bl z u)=>Qe5 ((HG.o.below T.o).below hu) c.o.y c.o.sy) (c.o.y.fits (n:=1048576) (by have:=c.o.sy;simpa using this));have bo:=I.o.2;clear U
    first|(go_region_with (first
     |(
      go_at_call 63;apply cM;apply ao.o;(focus(repeat(first|exact Below.refl _ _|apply Qbq|apply Qbr)));rintro e2 w4 ⟨⟨v2,rfl,hv2⟩,b⟩;obtain⟨n2,E,l2,F,m2,o2,p2,rfl,hv2⟩:=hv2;(first
        |have a:O (Bl z w4):=Hi b
        |have a:O (Bl z w4):=Hi (bR.drew.trans b)
        |have a:O (Bl z w4):=Hi (bR.drew.drew.trans b))
      have r:O (FracV w4 (.agg #[.bool n2,.slice E l2 F,.slice m2 o2 p2]) p.2.2):=Hi ⟨n2,E,l2,F,m2,o2,p2,rfl,hv2⟩;clear hv2 b t0 t1 t2 d2;obtain⟨t0,t1,t2⟩:=Jb a.o ae A.o B.o C.o;have d2:=ce a.o ad bf.o
      skip)
     |(
      go_at_call 57;apply cM;(first
        |exact Qa9 (W.o.1.below a.o) r.o W.o.2.1 D.o (by omega)
        |exact Qa9 (W.o.1.below a.o.drew) (r.o.below bR.drew) W.o.2.1 D.o (by omega))
      rintro e3 w5 ⟨⟨v3,rfl,hv3⟩,d⟩;obtain⟨n5,a5,l5,c5,m5,o5,p5,rfl,hv3⟩:=hv3;(first
        |have J:=Hi (a.o.trans (d.mono a.o.size))
        |have J:O (Bl z w5):=Hi (a.o.trans (((bR.drew).trans d).mono a.o.size)))
      have bs:O (FracV w5 (.agg #[.bool n5,.slice a5 l5 c5,.slice m5 o5 p5]) (z1.q - p.2.2)):=Hi ⟨n5,a5,l5,c5,m5,o5,p5,rfl,hv3⟩;have Z:=Hi (S.o.below J.o);clear hv3 d t0 t1 t2 d2;obtain⟨t0,t1,t2⟩:=Jb J.o ae A.o B.o C.o;have d2:=ce J.o ad bf.o;have f0:=Z.o.blk.free (Y*3);have f1:=Z.o.blk.free (Y*3+1);have f2:=Z.o.blk.free (Y*3+2)
      skip)
     |fail))|fail
    all_goals
     have bg:Fits (z1.q - p.2.2) K:=by
      have h1:=HF.o (k+1) Y;have h2:=I.o.1;rw[if_neg (Ne.symm ba)] at h2;rw[Qdn HP.o,<-HY.o,agn_y,HY.o,<-h2] at h1;exact h1
     have bt:=Hi bg;clear bg t0 t1 t2 f0 f1 f2 d2;go_wp2_with fail;refine⟨⟨k+1,_,by omega,by go_num,by rw[List.length_set];exact H.o,Qe6 Z.o (by have:=H.o;omega) bs.o bt.o af,fun i t f=>?_,(((T.o.trans (J.o.mono T.o.size)).setCell (p:=⟨g,Y*3,none⟩) m _).setCell (p:=⟨g,Y*3+1,none⟩) m _).setCell (p:=⟨g,Y*3+2,none⟩) m _⟩,?_⟩
     .
      rw[Qdn HP.o];by_cases e:i=Y
      .
       subst e;rw[List.getElem?_set_self (by have:=H.o;omega)] at f;obtain rfl:=Option.some.inj f;have h2:=I.o.1;rw[if_neg (Ne.symm ba)] at h2;refine⟨?_,Nat.le_refl _⟩;rw[<-HY.o,agn_y,HY.o,<-h2]
      .
       rw[List.getElem?_set_ne (Ne.symm e)] at f;obtain⟨h3,h4⟩:=ab.o i t f;refine⟨?_,h4⟩;by_cases e2:i=X
       .
        subst e2;rw[if_pos rfl] at h3;rw[h3,<-HX.o,agn_x,HX.o,bq.o]
       . rw[if_neg e2] at h3
         rw[h3,Qe4 (by rw[HX.o];exact e2) (by rw[HY.o];exact e)]
     . simp[intOf]
       omega
  .
   have bu:k=ls.length:=by omega
   subst bu;go_wp2;go_ret;refine⟨⟨g,N,us,HN.o.symm,rfl,HQ.o,HU.o,fun i t f=>?_⟩,HB.o⟩;have:=ak.o i t f;rw[List.take_of_length_le (by have:=ah.o;omega)] at this;exact this
open Go
section
variable {P:Program} {ops:Array Oper} {Q:Exit->Act->World->Prop} {md:Region.Mode} {S:World->Prop} {D:Vy}
def NoneOf(D:Vy)(listed:Array Bool):Prop:=∀d∈ D,listed.getD d true=false
theorem NoneOf.set{a:Array Bool}{j:Nat}(h:NoneOf D a)(f:j ∉ D):NoneOf D (a.setIfInBounds j true):=fun d c=>by
 have b:j≠d:=fun e=>f (e ▸ c)
 rw[_root_.Go.getD_set_ne true b];exact h d c
theorem NoneOf.back{a:Array Bool}{j:Nat}(h:NoneOf D (a.setIfInBounds j true)):j ∉ D/\NoneOf D a:=by
 have f:j ∉ D:=fun b=>by
  have:=h j b;simp at this
 refine⟨f,fun d b=>?_⟩;have c:j≠d:=fun e=>f (e ▸ b)
 have:=h d b;rw[_root_.Go.getD_set_ne true c] at this;exact this
def AnyDs(P:Program)(md:Region.Mode)(ops:Array Oper)(Q:Exit->Act->World->Prop)(S:World->Prop)(D:Vy):Nat->Array Bool->Act->World->Prop
 |0,listed,a,w=>Region.ready md ops listed= []/\Q .normal a w
 |fuel+1,listed,a,w=>(Region.ready md ops listed= []->Q .normal a w)/\∀i∈ Region.ready md ops listed,wpOp P ops Q i (fun a' w'=>(i ∉ D->NoneOf D listed->S w')/\AnyDs P md ops Q S D fuel (listed.setIfInBounds i true) a' w') a w
theorem AnyDs.any:∀(b:Nat) (c:Array Bool) (a:Act) (w:Vz),AnyDs P md ops Q S D b c a w->wpAny P md ops Q b c a w
 |0,_,_,_,h=>h
 |b+1,_,_,_,h=>⟨h.1,fun i d=>wpOp_mono (fun e w' f=>AnyDs.any b _ e w' f.2) (h.2 i d)⟩
theorem Qgs{i j:Nat}{a:Array Bool}{g:Oper}(k:i∈ Region.ready md ops a)(b:∀e∈ g.after,Region.binds md e=true->a.getD e.on false=true):∀e∈ g.after,Region.binds md e=true->e.on≠i:=fun e l m d=>by
 have c:=b e l m;have h:=(mem_ready.1 k).1;rw[d] at c;rcases Nat.lt_or_ge i a.size with f|f
 . simp[f] at h c;rw[h] at c;cases c
 . simp[Array.getElem?_eq_none f] at c
theorem AnyDs.first{i:Nat}{u:Oper}{v:Value}(N:ops[i]?=some u)(r:∀(j:Nat) (o:Oper) z b,ops[j]?=some o->o.op≠.select z b)
 (V:∀c a w,Q (.panic c) (a.put u.dst v) w->Q (.panic c) a w) (hk:D.all (fun k=>waits md ops k i)=true):
 ∀(f:Nat) (d:Array Bool) (a:Act) (w:Vz),
  (∀j y,ops[j]?=some y->j≠i->d.getD j true=false->(∀e∈ y.after,Region.binds md e=true->e.on≠i)->u.apart ops y=true)->
  i∈ Region.ready md ops d->YieldsIf P ops S u v a->NoneOf D d->S w->
  AnyDs P md ops Q S D f (d.setIfInBounds i true) (a.put u.dst v) w->AnyDs P md ops Q S D (f+1) d a w:=by
 intro f
 induction f with
 |zero=>
  intro d a w _ n K O A H;refine⟨fun h=>(by rw[h] at n;cases n),fun j L=>?_⟩;by_cases g:j=i
  . subst g;exact K.wpOp N A ⟨fun _ _=>A,H⟩
  .
   have:=ready_mono L g;rw[H.1] at this;cases this
 |succ f W=>
  intro d a w l n K O A H;refine⟨fun h=>(by rw[h] at n;cases n),fun j L=>?_⟩;by_cases g:j=i
  . subst g;exact K.wpOp N A ⟨fun _ _=>A,H⟩
  .
   have X:=H.2 j (ready_mono L g);obtain⟨s,y,p,B⟩:=mem_ready.1 L;have t:=Qgs (j:=j) n B;have C:j ∉ D:=fun e=>Qk6 (k:=j) (List.all_eq_true.1 hk j e) p t
   have E:=O.set (fun e=>by
    obtain⟨_,Y,F,x⟩:=mem_ready.1 n
    exact Qk6 (k:=i) (List.all_eq_true.1 hk i e) F (Qgs (j:=i) n x))
   have Z:=wpOp_putIf p (l j y p g s t) (fun z b=>r i u z b N) (fun z b=>r j y z b p) V K X;have q:∀m G,ops[m]?=some G->m≠i->(d.setIfInBounds j true).getD m true=false->
    (∀e∈ G.after,Region.binds md e=true->e.on≠i)->u.apart ops G=true:=fun m G hm R I T=>by
    refine l m G hm R ?_ T;by_cases J:j=m
    . subst J;exact s
    . rw[_root_.Go.getD_set_ne true J] at I;exact I
   refine wpOp_mono (fun a' w' M=>⟨fun U _=>M.2.1 U E,W (d.setIfInBounds j true) a' w' q (ready_mono n (Ne.symm g)) M.1 (O.set C) (M.2.1 C E) ?_⟩) Z;rw[Array.setIfInBounds_comm _ _ g];exact M.2.2
theorem AnyDs.firstP{i:Nat}{q:Oper}{v:Value}(J:ops[i]?=some q)(n:∀(j:Nat) (o:Oper) u b,ops[j]?=some o->o.op≠.select u b)
 (O:∀c a w,Q (.panic c) (a.put q.dst v) w->Q (.panic c) a w) (x:i ∉ D):
 ∀(f:Nat) (d:Array Bool) (a:Act) (w:Vz),
  (∀j t,ops[j]?=some t->j≠i->d.getD j true=false->(∀e∈ t.after,Region.binds md e=true->e.on≠i)->q.apart ops t=true)->
  i∈ Region.ready md ops d->YieldsIf P ops (fun _=>True) q v a->(NoneOf D d->S w)->
  AnyDs P md ops Q S D f (d.setIfInBounds i true) (a.put q.dst v) w->AnyDs P md ops Q S D (f+1) d a w:=by
 intro f
 induction f with
 |zero=>
  intro d a w _ r E K H;refine⟨fun h=>(by rw[h] at r;cases r),fun j F=>?_⟩;by_cases g:j=i
  . subst g;exact E.wpOp J trivial ⟨fun _=>K,H⟩
  .
   have:=ready_mono F g;rw[H.1] at this;cases this
 |succ f R=>
  intro d a w k r E K H;refine⟨fun h=>(by rw[h] at r;cases r),fun j F=>?_⟩;by_cases g:j=i
  . subst g;exact E.wpOp J trivial ⟨fun _=>K,H⟩
  .
   have T:=H.2 j (ready_mono F g);obtain⟨p,t,s,y⟩:=mem_ready.1 F;have z:=Qgs (j:=j) r y;have U:=wpOp_putIf s (k j t s g p z) (fun u b=>n i q u b J) (fun u b=>n j t u b s) O E T;have l:∀m A,ops[m]?=some A->m≠i->(d.setIfInBounds j true).getD m true=false->
    (∀e∈ A.after,Region.binds md e=true->e.on≠i)->q.apart ops A=true:=fun m A V L B M=>by
    refine k m A V L ?_ M;by_cases C:j=m
    . subst C;exact p
    . rw[_root_.Go.getD_set_ne true C] at B;exact B
   refine wpOp_mono (fun W w' G=>⟨?_,R (d.setIfInBounds j true) W w' l (ready_mono r (Ne.symm g)) G.1 ?_ ?_⟩) U
   . intro N I
     exact G.2.1 N (I.set x)
   . intro I
     exact G.2.1 I.back.1 (I.back.2.set x)
   . rw[Array.setIfInBounds_comm _ _ g]
     exact G.2.2
theorem Qt2{a:Array Bool}(h:D.all (fun d=>!(a.getD d true))=true):NoneOf D a:=fun d b=>by
 have:=List.all_eq_true.1 h d b
 simpa using this
theorem Qgt{a:Array Bool}{d:Nat}(b:D.contains d=true)(h:a.getD d true=true):¬NoneOf D a:=fun c=>by
 have:=c d (by simpa using b);rw[h] at this;cases this
theorem AnyDs.take{i:Nat}{f:Oper}{v:Value}{e:Nat}{b:Array Bool}{a:Act}{w:Vz}(g:ops[i]?=some f)
 (j:Region.noSelect ops=true) (l:Region.free md ops b i=true) (m:(Region.ready md ops b).contains i=true) (hk:D.all (fun k=>waits md ops k i)=true) (n:D.all (fun d=>!(b.getD d true))=true)
 (o:∀c a w,Q (.panic c) (a.put f.dst v) w->Q (.panic c) a w) (p:YieldsIf P ops S f v a) (q:S w)
 (h:AnyDs P md ops Q S D e (b.setIfInBounds i true) (a.put f.dst v) w):AnyDs P md ops Q S D (e+1) b a w:=
 AnyDs.first g (Region.noSelect_spec j) o hk e b a w (Region.free_spec g l) (by simpa using m) p (Qt2 n) q h
theorem AnyDs.takeP{i:Nat}{e:Oper}{v:Value}{d:Nat}{b:Array Bool}{a:Act}{w:Vz}(f:ops[i]?=some e)
 (j:Region.noSelect ops=true) (k:Region.free md ops b i=true) (l:(Region.ready md ops b).contains i=true) (g:D.contains i=false)
 (m:∀c a w,Q (.panic c) (a.put e.dst v) w->Q (.panic c) a w) (n:YieldsIf P ops (fun _=>True) e v a) (o:NoneOf D b->S w)
 (h:AnyDs P md ops Q S D d (b.setIfInBounds i true) (a.put e.dst v) w):AnyDs P md ops Q S D (d+1) b a w:=
 AnyDs.firstP f (Region.noSelect_spec j) m (fun p=>by rw[List.contains_iff_mem.2 p] at g;cases g) d b a w (Region.free_spec f k) (by simpa using l) n o h
def AllDs(P:Program)(md:Region.Mode)(ops:Array Oper)(Q:Exit->Act->World->Prop)(S:World->Prop)(D:Vy)(fuel:Nat)(listed:Array Bool)(a:Act)(w:Vz)(rs:Vy):Prop:=
 ∀i∈ rs,wpOp P ops Q i (fun a' w'=>(i ∉ D->NoneOf D listed->S w')/\AnyDs P md ops Q S D fuel (listed.setIfInBounds i true) a' w') a w
theorem AllDs.nil{c:Nat}{b:Array Bool}{a:Act}{w:Vz}:AllDs P md ops Q S D c b a w []:=fun _ h=>by cases h
theorem AllDs.cons{c:Nat}{b:Array Bool}{a:Act}{w:Vz}{i:Nat}{o:Oper}{rs:Vy}(e:ops[i]?=some o)
 (h:∀K':Act->World->Prop,Shut (∀a w,(i ∉ D->NoneOf D b->S w)->AnyDs P md ops Q S D c (b.setIfInBounds i true) a w->K' a w)->if Region.wanted o (yielded ops a.tmps)=true then Oper.wp P o a w K' Q else K' (a.put o.dst undef) w)
 (f:AllDs P md ops Q S D c b a w rs):AllDs P md ops Q S D c b a w (i :: rs):=fun j d=>by
 rcases List.mem_cons.1 d with rfl|d
 . exact wpOp_step e (fun K' g=>h K' (fun a w k hW=>g a w ⟨k,hW⟩))
 . exact f j d
theorem AnyDs.ready{rs:Vy}{c:Nat}{b:Array Bool}{a:Act}{w:Vz}(e:Region.ready md ops b=rs)(d:rs≠ [])
 (h:AllDs P md ops Q S D c b a w rs):AnyDs P md ops Q S D (c+1) b a w:=by
 refine⟨(fun f=>by rw[e] at f;exact absurd f d),fun j g=>?_⟩;rw[e] at g;exact h j g
theorem AnyDs.done{b:Array Bool}{a:Act}{w:Vz}(d:Region.ready md ops b= [])(h:Q .normal a w):∀c,AnyDs P md ops Q S D c b a w
 |0=>⟨d,h⟩
 |_+1=>⟨fun _=>h,by rw[d];simp⟩
theorem AnyDs.begin{id:Nat}{a:Act}{w:Vz}(b:P.follows .mixedOrders=true)
 (h:AnyDs P .any ops Q S D ops.size (Array.replicate ops.size false) a w.drew):(Code.region id ops true).wp P Q a w:=
 wp_region_any b (AnyDs.any _ _ _ _ h)
end
theorem Tryz.stairsInfo:(prog.info? 195).map (·.size)=some 3:=by kernel_rfl
theorem okNil{w:Vz}{W K:Nat}:Oks w W K []:=fun _ h=>by cases h
def Box2(b:Nat)(sv hv:Value)(v:Vz):Prop:=v.cell? ⟨b,1,none⟩=some sv/\v.cell? ⟨b,2,none⟩=some hv
theorem SW.box2{w u:Vz}{W K wide:Nat}{L S X:List MR}{hs:Vy}{lv sv hv b1 b2:Value}(h:SW w u W K wide L S X hs lv sv hv b1 b2):Box2 (w.heap.size+1) b1 b2 u:=⟨h.box.cell 1,h.box.cell 2⟩
theorem Qbd(u:Vz)(v:Value)(t:Vr):(u.alloc (.cells #[v] t)).cell? ⟨u.heap.size,0,none⟩=some v:=(SB.new u t #[v]).cell 0
section
variable {w u:Vz} {W K wide:Nat} {L S X:List MR} {hs:Vy} {lv sv hv b1 b2:Value}
theorem SW.ord1(h:SW w u W K wide L S X hs lv sv hv b1 b2){r:MR}(j:r∈ X){g:Vx}(i:r.a=g)(k:Nat)(n:S.length<=1000)(o:hs.length<=1000):
 ∃b e d f,(Builtin.append_ #[148,148] 148 #[sv,.slice (some ⟨u.heap.size,0,none⟩) 1 1]).run prog (u.alloc (.cells #[.slice g W r.cap] 98))=.ok b e/\
  (Builtin.append_ #[155,155] 155 #[hv,.slice (some ⟨e.heap.size,0,none⟩) 1 1]).run prog (e.alloc (.cells #[.int .i64 (k:Nat)] 3))=.ok d f/\SW w e W K wide L (S++ [r]) X hs lv b hv b1 b2/\SW w f W K wide L (S++ [r]) X (hs++ [k]) lv b d b1 b2:=by
 have l:=h.alloc (.cells #[.slice g W r.cap] 98);obtain⟨b,e,p,m,_,_⟩:=l.app1 (s:=r) (nb:=u.heap.size) (c:=1) (by rw[Qbd,MR.val,(h.okX r j).len,i]) (l.okX r j) n 148;obtain⟨d,f,q,t⟩:=(m.alloc (.cells #[.int .i64 (k:Nat)] 3)).app2 (k:=k) (nb:=e.heap.size) (c:=1) (Qbd _ _ _) o 155;exact⟨b,e,d,f,p,q,m,t⟩
theorem SW.ord2(h:SW w u W K wide L S X hs lv sv hv b1 b2){r:MR}(m:r∈ X){e:Vx}(l:r.a=e)(k:Nat)(q:S.length<=1000)(t:hs.length<=1000):
 ∃b f d j,(Builtin.append_ #[148,148] 148 #[sv,.slice (some ⟨u.heap.size,0,none⟩) 1 1]).run prog ((u.alloc (.cells #[.slice e W r.cap] 98)).alloc (.cells #[.int .i64 (k:Nat)] 3))=.ok b f/\
  (Builtin.append_ #[155,155] 155 #[hv,.slice (some ⟨u.heap.size+1,0,none⟩) 1 1]).run prog f=.ok d j/\SW w f W K wide L (S++ [r]) X hs lv b hv b1 b2/\SW w j W K wide L (S++ [r]) X (hs++ [k]) lv b d b1 b2:=by
 have v:=h.alloc (.cells #[.slice e W r.cap] 98);have n:=v.alloc (.cells #[.int .i64 (k:Nat)] 3);have x:((u.alloc (.cells #[.slice e W r.cap] 98)).alloc (.cells #[.int .i64 (k:Nat)] 3)).cell? ⟨u.heap.size,0,none⟩=some (.slice e W r.cap):=
  (((Below.refl _ (u.alloc (.cells #[.slice e W r.cap] 98))).alloc lZ _).cell (p:=⟨u.heap.size,0,none⟩) (by rw[World.size_alloc];exact Nat.lt_succ_self _)).trans (Qbd _ _ _)
 obtain⟨b,f,y,o,_,g⟩:=n.app1 (s:=r) (nb:=u.heap.size) (c:=1) (by rw[x,MR.val,(h.okX r m).len,l]) (n.okX r m) q 148;have i:=g _ _ _ (Qbd (u.alloc (.cells #[.slice e W r.cap] 98)) (.int .i64 (k:Nat)) 3);rw[World.size_alloc] at i;obtain⟨d,j,z,A⟩:=o.app2 (k:=k) (nb:=u.heap.size+1) (c:=1) i t 155;exact⟨b,f,d,j,y,z,o,A⟩
theorem SW.ord3(h:SW w u W K wide L S X hs lv sv hv b1 b2){r:MR}(m:r∈ X){g:Vx}(j:r.a=g)(k:Nat)(t:S.length<=1000)(v:hs.length<=1000):
 ∃b e d i,(Builtin.append_ #[148,148] 148 #[sv,.slice (some ⟨u.heap.size+1,0,none⟩) 1 1]).run prog ((u.alloc (.cells #[.int .i64 (k:Nat)] 3)).alloc (.cells #[.slice g W r.cap] 98))=.ok b e/\
  (Builtin.append_ #[155,155] 155 #[hv,.slice (some ⟨u.heap.size,0,none⟩) 1 1]).run prog e=.ok d i/\SW w e W K wide L (S++ [r]) X hs lv b hv b1 b2/\SW w i W K wide L (S++ [r]) X (hs++ [k]) lv b d b1 b2:=by
 have x:=h.alloc (.cells #[.int .i64 (k:Nat)] 3);have n:=x.alloc (.cells #[.slice g W r.cap] 98);have o:=Qbd (u.alloc (.cells #[.int .i64 (k:Nat)] 3)) (.slice g W r.cap) 98;rw[World.size_alloc] at o;obtain⟨b,e,y,q,_,f⟩:=n.app1 (s:=r) (nb:=u.heap.size+1) (c:=1) (by rw[o,MR.val,(h.okX r m).len,j]) (n.okX r m) t 148;have l:=f u.heap.size 0 (k:Nat) ((((Below.refl _ (u.alloc (.cells #[.int .i64 (k:Nat)] 3))).alloc lZ _).cell (p:=⟨u.heap.size,0,none⟩) (by rw[World.size_alloc];exact Nat.lt_succ_self _)).trans (Qbd _ _ _));obtain⟨d,i,z,A⟩:=q.app2 (k:=k) (nb:=u.heap.size) (c:=1) l v 155;exact⟨b,e,d,i,y,z,q,A⟩
end
theorem Qhe(a:Vx)(bd W K wide:Nat)(rs:List MR)(w:Vz)(I:Nat->List Vec->List Vec->List Nat->Prop)(hI:Going K I)(h:ARow MR.cells w a bd rs)(b3:Oks w W K rs)(hl:rs.length<=1000)(hW:W<=1000)(de:wide<=W)(df:0<K)(b:4*K+1<68719476000)(h0:I 0 (rs.map MR.q) [] []):
 Calls prog 156 #[.slice a rs.length bd,.int .i64 wide] w fun e w'=>(∃(L S:List MR) (hs:Vy) (sv hv:Value),e=.returned (.agg #[.int .i64 wide,sv,hv])/\I wide (L.map MR.q) (S.map MR.q) hs/\S.length<=wide/\hs.length<=wide/\Grow w' w.heap.size 98 1 IsSl sv S.length (S.map MR.val)/\Grow w' w.heap.size 3 1 IsI hv hs.length (headsV hs)/\Oks w' W K S)/\Below w.heap.size w w':=by
 obtain⟨HH,HO,HI,H0⟩:=Ic h b3 hI h0;clear h b3 hI h0;go_enter func156,ntmps156;obtain⟨V,hV⟩:=nm ((w.alloc (.cells #[.int .i64 0,.slice none 0 0,.slice none 0 0] 195)).alloc (.cells #[.int .i64 wide,.slice none 0 0,.slice none 0 0] 195));have af:=Ub hV;have be:=Ud hV;have bf:=Ue hV;have HV:=Hi hV;clear hV;go_wp2_with fail;rw[HV.o];go_fit (Qwc a bd rs V (HH.o.below af.o) hl);rintro e w1 ⟨⟨lv,rfl,hg⟩,aj⟩;have dg:O (SW w w1 W K wide rs [] [] [] lv (.slice none 0 0) (.slice none 0 0) (.slice none 0 0) (.slice none 0 0)):=Hi
  ⟨bf.o.below aj bf.o.lt,be.o.below aj be.o.lt,hg.mono af.o.size,Grow.nil _ _ _ _ _,Grow.nil _ _ _ _ _,(fun _ _=>by simp[Value.ownBlock]),HO.o.fr ((Fr.of_below af.o).trans (Fr.of_below aj)),(fun _ h=>by cases h),(fun _ h=>by cases h),af.o.trans (aj.mono af.o.size),⟨_,_,_,rfl⟩,⟨_,_,_,rfl⟩⟩
 clear hg aj be bf af HV;go_wp2_with fail;go_loopw [6,17] (fun lw i wr=>∃(k:Nat) (L S:List MR) (hs:Vy) (sv hv:Value),k<=wide/\i=.int .i64 k/\SW w wr W K wide L S [] hs lw sv hv sv hv/\I k (L.map MR.q) (S.map MR.q) hs/\L.length<=1000/\S.length<=k/\hs.length<=k) (fun _ i _=>wide - (intOf i).toNat)
 case atStart=>exact⟨0,rs,[],[],_,_,Nat.zero_le _,rfl,dg.o,H0.o,hl,Nat.zero_le _,Nat.zero_le _⟩
 case round=>
  obtain⟨k,L,S,hs,sv,hv,hk,rfl,hS,hi,b4,dz,ea⟩:=hrel;obtain⟨N,HJ⟩:=Ia hS hi;clear hi;by_cases eb:k<wide
  .
   obtain⟨a',cap',rfl,a4,a6⟩:=hS.left.mat hS.okL;have q1:((k:Int)<(wide:Int)):=by omega
   obtain⟨HP,HM⟩:=Ia a6 a4;clear hS a4 a6;go_wp2_with fail;go_fit (Qv5 a' cap' W k L wr HM.o b4 hW (by omega));rintro e w2 ⟨⟨v,rfl,hp⟩,b5⟩;have ag:=Hi (N.o.below b5);clear b5 HM;rcases hp with ⟨rfl,a7⟩|⟨j,r,hj,rfl,b6⟩
   .
    have HA:=Hi a7;clear a7;go_wp2;go_roundw
    case rel=>exact⟨k+1,L,S,hs,sv,hv,by omega,by go_num,ag.o,HI.o.skip HJ.o (fun r hr=>by obtain⟨x,hx,rfl⟩:=List.mem_map.1 hr;exact HA.o x hx),b4,by omega,by omega⟩
    case measure=>simp[intOf];omega
   .
    have bg:=(gZ hj).1;obtain⟨g,rfl⟩:=HP.o (by omega);obtain⟨b7,dh⟩:=Ia hj b6;have l:=ag.o.okL r (mO hj);have bh:=l.len;obtain⟨f,hf⟩:∃f,r.ts[k]?=some f:=⟨r.ts[k]'(by omega),gE (by omega)⟩;obtain⟨rb,ro,bi,_,_,_,_⟩:=l.row.at hf;have d:w2.cell? ⟨g,j,none⟩=some (.slice r.a r.ts.length r.cap):=ag.o.left.cell (by rw[List.getElem?_map,hj];rfl);rw[bi,bh] at d;obtain⟨ah,HF⟩:=Ia bi hf;have q2:((j:Int)<(L.length:Int)):=by omega
    have HD:=Hi (Qwf w2 w.heap.size j (j+1) L.length (.slice (some ⟨g,0,none⟩) L.length cap') (L.map MR.val) ag.o.left rfl bg);simp only[Int.natCast_add,Int.natCast_one] at HD;have di:=Hi l;clear hj b6 l HP bi hf;go_wp2_with fail;go_fit HD.o;rintro e w3 ⟨g',v3,hg,b8,rfl,b9,ho⟩;obtain rfl:g=g':=by simpa [Value.ownBlock] using hg
    obtain⟨a8,rfl,bj⟩:=(ag.o.withX (Y:=[r]) (fun x hx=>by
     have e:x=r:=by simpa using hx
     subst e
     exact di.o)).erase hg b8 ho b9 bg
    have aa:O (I (k+1) (((L.eraseIdx j).map MR.q).map (lessBy k r.q)) ((S++ [r]).map MR.q) (hs++ [k])):=Hi (by
     have:=HI.o.step HJ.o (j:=j) (s:=r.q) (by rw[List.getElem?_map,b7.o];rfl) dh.o;rw[Qhd] at this
     simpa using this)
    have a9:=Hi (fun x hx i=>HI.o.fit aa.o _ (List.mem_map.2 ⟨x.q,List.mem_map.2 ⟨x,hx,rfl⟩,rfl⟩) i);have ca:(L.eraseIdx j).length<=1000:=by rw[List.length_eraseIdx,if_pos bg];omega
    obtain⟨L1,cb⟩:=nm (L.eraseIdx j);rw[cb] at bj aa a9 ca ⊢;have cc:=Hi bj;clear bj hg b8 b9 ho HD b7 d ag N cb q2;go_wp2_with fail;go_loopw [36] (fun i wq=>∃(m:Nat) (T:List MR),m<=L1.length/\i=.int .i64 m/\T.length=L1.length/\SW w wq W K wide T S [r] hs (.slice (some ⟨g,0,none⟩) L1.length a8) sv hv sv hv/\(∀p x y,L1[p]?=some x->T[p]?=some y->y.q=if p<m then lessBy k r.q x.q else x.q)) (fun i _=>L1.length - (intOf i).toNat)
    case atStart=>exact⟨0,L1,Nat.zero_le _,rfl,rfl,cc.o,fun p x y hx hy=>by rw[hx] at hy;cases hy;simp⟩
    case round=>
     obtain⟨m,T,hm,rfl,ar,cd,hq⟩:=hrel;obtain⟨N,ab⟩:=Ia cd hq;clear cd hq cc;by_cases dj:m<L1.length
     .
      obtain⟨y,hy⟩:∃y,T[m]?=some y:=⟨T[m]'(by omega),gE (by omega)⟩;obtain⟨x,hx⟩:∃x,L1[m]?=some x:=⟨L1[m],gE dj⟩;have cf:y.q=x.q:=by have:=ab.o m x y hx hy;simpa using this
      have F:=N.o.okL y (mO hy);have l:=N.o.okX r (by simp);have G:=F.len;obtain⟨e,he⟩:∃e,y.ts[k]?=some e:=⟨y.ts[k]'(by omega),gE (by omega)⟩;have hf:=HF.o;obtain⟨yb,yo,bk,au,d0,d1,d2⟩:=F.row.at he;obtain⟨ec,ed,ba,av,z0,z1,z2⟩:=l.row.at hf;have ak:=ah.o;rw[ba] at ak;cases ak;have ee:g≠yb:=N.o.left.frac_ne rfl d0 (F.row.get he).1;have ef:g≠rb:=N.o.left.frac_ne rfl z0 (l.row.get hf).1;obtain⟨cg,ch,ci⟩:=F.row.get he;obtain⟨hv2,bb,bc⟩:=l.row.get hf;have eg:=F.sz e (mO he);have eh:=l.sz f (mO hf);have c0:wr.cell? ⟨g,m,none⟩=some (.slice y.a W y.cap):=by
       rw[<-G];exact N.o.left.cell (by rw[List.getElem?_map,hy];rfl)
      rw[bk] at c0;obtain⟨cj,HX,HY,al,bl,bm,ck,am,dk⟩:=Ih bk hx hy cf F l cg ch hv2;obtain⟨U,cl,dl⟩:=Ib bb (MR.q_at he) (MR.q_at hf);have q3:((m:Int)<(L1.length:Int)):=by omega
      have q4:((k:Int)<(W:Int)):=by omega
      obtain⟨dm,dn,dp,dq,dr,ds⟩:=Ie d0 d1 d2 z0 z1 z2;clear hy hx cf F l he hf bk ba cg ch hv2 bb z0 z1 z2;go_wp2_with fail;go_fit (Qbz ck.o);rintro e' w4 ⟨rfl,bn⟩;obtain⟨B,cm⟩:=Ia bn (N.o.below bn);clear bn d0 d1 d2 c0;by_cases h0:e.q=0
      .
       rw[decide_eq_true h0];have HZ:O (x.q k=0):=Hi (by rw[<-al.o,cl.o];exact h0);clear h0;go_wp2;go_roundw
       case rel=>
        refine⟨m+1,T,by omega,by go_num,ar,cm.o,fun p x' y' ad M=>?_⟩;rcases Nat.lt_trichotomy p m with hp|rfl|hp
        . rw[ab.o p x' y' ad M,if_pos hp,if_pos (by omega)]
        .
         obtain rfl:=Option.some.inj (HX.o.symm.trans ad);obtain rfl:=Option.some.inj (HY.o.symm.trans M);rw[if_pos (by omega),Qwi HZ.o];exact al.o
        . rw[ab.o p x' y' ad M,if_neg (by omega),if_neg (by omega)]
       case measure=>simp[intOf];omega
      .
       rw[decide_eq_false h0];clear h0;have ae:=Nat.lt_of_lt_of_le au B.o.size;have an:=Nat.lt_of_lt_of_le av B.o.size;obtain⟨K0,K1,K2,R0,R1,R2,cn,cp,bo⟩:=Ih (ce B.o au dm.o) (ce B.o au dn.o) (ce B.o au dp.o) (ce B.o av dq.o) (ce B.o av dr.o) (ce B.o av ds.o) (bl.o.row.below B.o) (bm.o.row.below B.o) (ck.o.below B.o);have bp:=Hi (dk.o.below B.o);have H:O (Bl w4 w4):=Hi bR;go_wp2_with fail;have u0:=ce H.o ae K0.o
       obtain⟨u1,u2⟩:=Ja H.o ae K1.o K2.o;obtain⟨v0,v1,v2⟩:=Jb H.o an R0.o R1.o R2.o;go_region_held3 (fun v=>v.cell? ⟨yb,yo+k*3,none⟩=some e.x/\v.cell? ⟨yb,yo+k*3+1,none⟩=some e.y/\v.cell? ⟨yb,yo+k*3+2,none⟩=some e.z/\v.cell? ⟨rb,ro+k*3,none⟩=some f.x/\v.cell? ⟨rb,ro+k*3+1,none⟩=some f.y/\v.cell? ⟨rb,ro+k*3+2,none⟩=some f.z) ((first|(simp [*];done)|go_keep)) (first
        |(
         go_at_call 66;apply cM
         first
          |exact Qch bo.o bp.o am.o U.o (by omega)
          |exact Qch (bo.o.below H.o.drew) (bp.o.below H.o.drew) am.o U.o (by omega)
          |exact Qch (bo.o.below H.o.drew.drew) (bp.o.below H.o.drew.drew) am.o U.o (by omega)
         rintro e5 w5 ⟨⟨v5,rfl,aw⟩,ax⟩;obtain⟨n5,a5,l5,c5,m5,o5,p5,rfl,aw⟩:=aw
         first
          |have C:O (Bl w4 w5):=Hi ax
          |have C:O (Bl w4 w5):=Hi (bR.drew.trans ax)
          |have C:O (Bl w4 w5):=Hi (bR.drew.drew.trans ax)
         have cq:O (FracV w5 (.agg #[.bool n5,.slice a5 l5 c5,.slice m5 o5 p5]) (e.q / f.q)):=Hi ⟨n5,a5,l5,c5,m5,o5,p5,rfl,aw⟩;clear aw ax;obtain⟨u0,u1,u2⟩:=Jb C.o ae K0.o K1.o K2.o;obtain⟨v0,v1,v2⟩:=Jb C.o an R0.o R1.o R2.o
         skip)
        |(
         go_at_call 169;apply cM;(first
           |(
            have HL:=Qey y.a r.a y.cap r.cap (4*K+1) (e.k+f.k) y.ts r.ts (.bool n5) (.slice a5 l5 c5) (.slice m5 o5 p5) (e.q / f.q) w5 (cn.o.below C.o) (cp.o.below C.o) (by omega) (by omega) cq.o (am.o.div U.o ci bc) (by omega) (fun t ht s hs=>by have:=bl.o.sz t ht;have:=bm.o.sz s hs;omega) (by omega);rw[G,cj.o,ah.o] at HL
            exact HL)
           |(
            have HL:=Qey y.a r.a y.cap r.cap (4*K+1) (e.k+f.k) y.ts r.ts (.bool n5) (.slice a5 l5 c5) (.slice m5 o5 p5) (e.q / f.q) w5.drew (cn.o.below C.o.drew) (cp.o.below C.o.drew) (by omega) (by omega) (cq.o.below bR.drew) (am.o.div U.o ci bc) (by omega) (fun t ht s hs=>by have:=bl.o.sz t ht;have:=bm.o.sz s hs;omega) (by omega);rw[G,cj.o,ah.o] at HL
            exact HL))
         rintro e6 w6 ⟨⟨g6,us,rfl,dt,cr,cs⟩,bq⟩
         first
          |have ay:=Hi (C.o.trans (bq.mono C.o.size))
          |have ay:O (Bl w4 w6):=Hi (C.o.trans (((bR.drew).trans bq).mono C.o.size))
         obtain⟨br,du,dv⟩:=Ib (cm.o.below ay.o) cr cs;clear cr cs bq dt;obtain⟨u0,u1,u2⟩:=Jb ay.o ae K0.o K1.o K2.o;obtain⟨v0,v1,v2⟩:=Jb ay.o an R0.o R1.o R2.o;have fz:=br.o.left.free m;have fc:=br.o.left.cell (by rw[List.getElem?_map,HY.o];rfl)
         skip))
       all_goals
        go_wp2_with fail;obtain⟨r',ct,bs,cu⟩:=MOk.made (v:=lessBy k r.q x.q) (K:=K) du.o G (by rw[G];exact dv.o) df (fun i hi=>by
         show y.q i - qAt r.ts i*(e.q / f.q)=_
         rw[qAt_q,al.o,<-cl.o,<-dl.o,al.o]
         rfl) (fun i hi=>by
         have h1:x.q i=0:=by rw[<-al.o];exact MR.q_beyond (by omega)
         have h2:r.q i=0:=MR.q_beyond (by omega);unfold lessBy;rw[h1,h2]
         grind) (fun i _=>a9.o x (mO HX.o) i)
        refine⟨⟨m+1,T.set m r',by omega,by go_num,by rw[List.length_set];exact ar,?_,fun p x' y' ad M=>?_⟩,?_⟩
        . rw[<-ct]
          exact br.o.setL ar.symm (by omega) bs
        .
         rcases Nat.lt_trichotomy p m with hp|rfl|hp
         . rw[List.getElem?_set_ne (by omega)] at M
           rw[ab.o p x' y' ad M,if_pos hp,if_pos (by omega)]
         .
          obtain rfl:=Option.some.inj (HX.o.symm.trans ad);rw[List.getElem?_set_self (by omega)] at M;obtain rfl:=Option.some.inj M;rw[if_pos (by omega)];exact cu
         . rw[List.getElem?_set_ne (by omega)] at M
           rw[ab.o p x' y' ad M,if_neg (by omega),if_neg (by omega)]
        . simp[intOf]
          omega
     .
      have bt:m=L1.length:=by omega
      subst bt;have dw:O (T.map MR.q=(L1.map MR.q).map (lessBy k r.q)):=Hi (by
       apply List.ext_getElem?;intro p;simp only[List.getElem?_map];rcases Nat.lt_or_ge p L1.length with hp|hp
       .
        obtain⟨x,hx⟩:∃x,L1[p]?=some x:=⟨L1[p],gE hp⟩;obtain⟨y,hy⟩:∃y,T[p]?=some y:=⟨T[p]'(by omega),gE (by omega)⟩;rw[hx,hy];simp only[Option.map_some];rw[ab.o p x y hx hy,if_pos hp]
       . rw[List.getElem?_eq_none (by omega),List.getElem?_eq_none hp]
         rfl)
      have bu:O (I (k+1) (T.map MR.q) ((S++ [r]).map MR.q) (hs++ [k])):=Hi (by rw[dw.o];exact aa.o);have bv:O (k+1<=wide):=Hi (by omega);have bw:O (T.length<=1000):=Hi (by omega);have bx:O ((S++ [r]).length<=k+1):=Hi (by rw[List.length_append];simp;omega);have bz:O ((hs++ [k]).length<=k+1):=Hi (by rw[List.length_append];simp;omega);have P:O (wide - (k+1)<wide - k):=Hi (by omega);have Q:S.length<=1000:=by omega
      have R:hs.length<=1000:=by omega
      obtain⟨E,hE⟩:=nm wr.drew;have Z:O (SW w E W K wide T S [r] hs (.slice (some ⟨g,0,none⟩) L1.length a8) sv hv sv hv):=Hi (by rw[<-hE];exact N.o.drew);have dx:=Hi hE;obtain⟨ei,dy,ej,ek,cv,cw,cx,az⟩:=Z.o.ord1 (List.mem_singleton.2 rfl) ah.o k Q R;obtain⟨em,en,eo,ep,cy,cz,c1,a0⟩:=Z.o.ord2 (List.mem_singleton.2 rfl) ah.o k Q R;obtain⟨eq,er,es,et,c2,c3,c4,a1⟩:=Z.o.ord3 (List.mem_singleton.2 rfl) ah.o k Q R;obtain⟨b0,ai,c6,ao,c7,ap,c8,c9,da⟩:=Ih cx az c1 a0 c4 a1 cv cw cy;obtain⟨db,dc,dd⟩:=Ib cz c2 c3;obtain⟨eu,ev,rfl,_,_,_⟩:=az.rows.slice;obtain⟨ew,ex,rfl,_,_,_⟩:=az.heads.slice;obtain⟨ey,ez,rfl,_,_,_⟩:=a0.rows.slice;obtain⟨e0,e7,rfl,_,_,_⟩:=a0.heads.slice
      obtain⟨e8,e9,rfl,_,_,_⟩:=a1.rows.slice;obtain⟨fa,fb,rfl,_,_,_⟩:=a1.heads.slice;have A:=Z.o.box2;clear hE cv cw cx az cy cz c1 a0 c2 c3 c4 a1 ab ar hm;go_wp2_with fail;refine AnyDs.begin (S:=Box2 (w.heap.size+1) sv hv) (D:=[11,13]) (by kernel_rfl) ?_;rw[dx.o];refine AnyDs.take (i:=0) (v:=?_) rfl (by kernel_rfl) (by kernel_rfl) (by kernel_rfl) (by kernel_rfl) (by kernel_rfl) (fun _ _ _ h=>h) (Or.inl ⟨by rfl,?_⟩) A ?_
      rotate_left
      .
       intro wq c;obtain⟨a2,a3⟩:=c
       first|(go_simp;done)|(go_simp;with_reducible rfl)
      (try simp only[Act.put,sA,sB,sC]);refine AnyDs.take (i:=1) (v:=?_) rfl (by kernel_rfl) (by kernel_rfl) (by kernel_rfl) (by kernel_rfl) (by kernel_rfl) (fun _ _ _ h=>h) (Or.inl ⟨by rfl,?_⟩) A ?_
      rotate_left
      .
       intro wq c;obtain⟨a2,a3⟩:=c
       first|(go_simp;done)|(go_simp;with_reducible rfl)
      (try simp only[Act.put,sA,sB,sC]);refine AnyDs.take (i:=2) (v:=?_) rfl (by kernel_rfl) (by kernel_rfl) (by kernel_rfl) (by kernel_rfl) (by kernel_rfl) (fun _ _ _ h=>h) (Or.inl ⟨by rfl,?_⟩) A ?_
      rotate_left
      .
       intro wq c;obtain⟨a2,a3⟩:=c
       first|(go_simp;done)|(go_simp;with_reducible rfl)
      (try simp only[Act.put,sA,sB,sC]);refine AnyDs.take (i:=5) (v:=?_) rfl (by kernel_rfl) (by kernel_rfl) (by kernel_rfl) (by kernel_rfl) (by kernel_rfl) (fun _ _ _ h=>h) (Or.inl ⟨by rfl,?_⟩) A ?_
      rotate_left
      .
       intro wq c;obtain⟨a2,a3⟩:=c
       first|(go_simp;done)|(go_simp;with_reducible rfl)
      (try simp only[Act.put,sA,sB,sC]);refine AnyDs.take (i:=6) (v:=?_) rfl (by kernel_rfl) (by kernel_rfl) (by kernel_rfl) (by kernel_rfl) (by kernel_rfl) (fun _ _ _ h=>h) (Or.inl ⟨by rfl,?_⟩) A ?_
      rotate_left
      .
       intro wq c;obtain⟨a2,a3⟩:=c
       first|(go_simp;done)|(go_simp;with_reducible rfl)
      (try simp only[Act.put,sA,sB,sC]);refine AnyDs.takeP (i:=7) (v:=?_) rfl (by kernel_rfl) (by kernel_rfl) (by kernel_rfl) (by kernel_rfl) (fun _ _ _ h=>h) (Or.inl ⟨by rfl,?_⟩) (fun _=>A) ?_
      rotate_left
      .
       intro wq c;clear c
       first|(go_simp;done)|(go_simp;with_reducible rfl)
      (try simp only[Act.put,sA,sB,sC]);refine AnyDs.ready (rs:=[3,8]) (by kernel_rfl) (by simp) ?_;refine AllDs.cons (by rfl) ?_ (AllDs.cons (by rfl) ?_ AllDs.nil)
      .
       intro n b;go_simp;(try dsimp only);refine b.out _ _ (fun _ _=>(Z.o.alloc _).box2) ?_;clear b n;(try simp only[Act.put,sA,sB,sC]);refine AnyDs.ready (rs:=[4,8]) (by kernel_rfl) (by simp) ?_;refine AllDs.cons (by rfl) ?_ (AllDs.cons (by rfl) ?_ AllDs.nil)
       .
        intro n b;refine Qb0 (t:=148) rfl (.tmp 64) (.tmp 66) rfl (vs:=sv) (vx:=.slice (some ⟨E.heap.size,0,none⟩) 1 1) (by simp[Act.eval]) (by simp[Act.eval]) c8.o ?_;(try dsimp only);refine b.out _ _ (fun _ _=>b0.o.box2) ?_;clear b n;(try simp only[Act.put,sA,sB,sC]);refine AnyDs.takeP (i:=10) (v:=?_) rfl (by kernel_rfl) (by kernel_rfl) (by kernel_rfl) (by kernel_rfl) (fun _ _ _ h=>h) (Or.inl ⟨by rfl,?_⟩) (fun _=>b0.o.box2) ?_
        rotate_left
        .
         intro wq c;clear c
         first|(go_simp;done)|(go_simp;with_reducible rfl)
        (try simp only[Act.put,sA,sB,sC]);refine AnyDs.ready (rs:=[8]) (by kernel_rfl) (by simp) ?_;refine AllDs.cons (by rfl) ?_ AllDs.nil;intro n b;go_simp;(try dsimp only);refine b.out _ _ (fun _ _=>(b0.o.alloc _).box2) ?_;clear b n;(try simp only[Act.put,sA,sB,sC]);refine AnyDs.ready (rs:=[9]) (by kernel_rfl) (by simp) ?_;refine AllDs.cons (by rfl) ?_ AllDs.nil;intro n b;refine Qb0 (t:=155) rfl (.tmp 69) (.tmp 71) rfl (vs:=hv) (vx:=.slice (some ⟨dy.heap.size,0,none⟩) 1 1) (by simp[Act.eval]) (by simp[Act.eval]) c9.o ?_;(try dsimp only);refine b.out _ _ (fun _ _=>ai.o.box2) ?_;clear b n;(try simp only[Act.put,sA,sB,sC]);obtain⟨-,x1,-⟩:=zc ai.o.box
        obtain⟨-,-,x2,-⟩:=zc ai.o.box;have z1:=ai.o.box.free 1;have z2:=ai.o.box.free 2;refine AnyDs.ready (rs:=[11]) (by kernel_rfl) (by simp) ?_;refine AllDs.cons (by rfl) ?_ AllDs.nil;intro n b;go_simp;(try dsimp only);refine b.out _ _ (fun h=>absurd (by decide) h) ?_;clear b n;(try simp only[Act.put,sA,sB,sC]);refine AnyDs.takeP (i:=12) (v:=?_) rfl (by kernel_rfl) (by kernel_rfl) (by kernel_rfl) (by kernel_rfl) (fun _ _ _ h=>h) (Or.inl ⟨by rfl,?_⟩) (fun h=>absurd h (Qgt (d:=11) (by kernel_rfl) (by kernel_rfl))) ?_
        rotate_left
        .
         intro wq c;clear c
         first|(go_simp;done)|(go_simp;with_reducible rfl)
        (try simp only[Act.put,sA,sB,sC]);refine AnyDs.ready (rs:=[13]) (by kernel_rfl) (by simp) ?_;refine AllDs.cons (by rfl) ?_ AllDs.nil;intro n b;go_simp;(try dsimp only);refine b.out _ _ (fun h=>absurd (by decide) h) ?_;clear b n;(try simp only[Act.put,sA,sB,sC]);refine AnyDs.done (by kernel_rfl) ?_ _;clear x1 x2 z1 z2;have J:=ai.o.put.withX okNil;rw[show (S++ [r]).length=S.length+1 by simp,show (hs++ [k]).length=hs.length+1 by simp] at J;have aq:=Hi J;clear J;go_wp2_with fail;refine⟨⟨k+1,T,S++ [r],hs++ [k],_,_,bv.o,by go_num,aq.o,bu.o,bw.o,bx.o,bz.o⟩,?_⟩
        first|exact P.o|(simp only[intOf];exact P.o)|(simp [intOf];exact P.o)
       .
        intro n b;go_simp;(try dsimp only);refine b.out _ _ (fun _ _=>((Z.o.alloc _).alloc _).box2) ?_;clear b n;(try simp only[Act.put,sA,sB,sC]);refine AnyDs.ready (rs:=[4]) (by kernel_rfl) (by simp) ?_;refine AllDs.cons (by rfl) ?_ AllDs.nil;intro n b;refine Qb0 (t:=148) rfl (.tmp 64) (.tmp 66) rfl (vs:=sv) (vx:=.slice (some ⟨E.heap.size,0,none⟩) 1 1) (by simp[Act.eval]) (by simp[Act.eval]) da.o ?_;(try dsimp only);refine b.out _ _ (fun _ _=>c6.o.box2) ?_;clear b n;(try simp only[Act.put,sA,sB,sC]);refine AnyDs.takeP (i:=10) (v:=?_) rfl (by kernel_rfl) (by kernel_rfl) (by kernel_rfl) (by kernel_rfl) (fun _ _ _ h=>h) (Or.inl ⟨by rfl,?_⟩) (fun _=>c6.o.box2) ?_
        rotate_left
        .
         intro wq c;clear c
         first|(go_simp;done)|(go_simp;with_reducible rfl)
        (try simp only[Act.put,sA,sB,sC]);refine AnyDs.ready (rs:=[9]) (by kernel_rfl) (by simp) ?_;refine AllDs.cons (by rfl) ?_ AllDs.nil;intro n b;refine Qb0 (t:=155) rfl (.tmp 69) (.tmp 71) rfl (vs:=hv) (vx:=.slice (some ⟨E.heap.size+1,0,none⟩) 1 1) (by simp[Act.eval]) (by simp[Act.eval]) db.o ?_;(try dsimp only);refine b.out _ _ (fun _ _=>ao.o.box2) ?_;clear b n;(try simp only[Act.put,sA,sB,sC]);obtain⟨-,x1,x2,-⟩:=zc ao.o.box;have z1:=ao.o.box.free 1;have z2:=ao.o.box.free 2;refine AnyDs.ready (rs:=[11]) (by kernel_rfl) (by simp) ?_;refine AllDs.cons (by rfl) ?_ AllDs.nil;intro n b;go_simp;(try dsimp only);refine b.out _ _ (fun h=>absurd (by decide) h) ?_
        clear b n;(try simp only[Act.put,sA,sB,sC]);refine AnyDs.takeP (i:=12) (v:=?_) rfl (by kernel_rfl) (by kernel_rfl) (by kernel_rfl) (by kernel_rfl) (fun _ _ _ h=>h) (Or.inl ⟨by rfl,?_⟩) (fun h=>absurd h (Qgt (d:=11) (by kernel_rfl) (by kernel_rfl))) ?_
        rotate_left
        .
         intro wq c;clear c
         first|(go_simp;done)|(go_simp;with_reducible rfl)
        (try simp only[Act.put,sA,sB,sC]);refine AnyDs.ready (rs:=[13]) (by kernel_rfl) (by simp) ?_;refine AllDs.cons (by rfl) ?_ AllDs.nil;intro n b;go_simp;(try dsimp only);refine b.out _ _ (fun h=>absurd (by decide) h) ?_;clear b n;(try simp only[Act.put,sA,sB,sC]);refine AnyDs.done (by kernel_rfl) ?_ _;clear x1 x2 z1 z2;have J:=ao.o.put.withX okNil;rw[show (S++ [r]).length=S.length+1 by simp,show (hs++ [k]).length=hs.length+1 by simp] at J;have aq:=Hi J;clear J;go_wp2_with fail;refine⟨⟨k+1,T,S++ [r],hs++ [k],_,_,bv.o,by go_num,aq.o,bu.o,bw.o,bx.o,bz.o⟩,?_⟩
        first|exact P.o|(simp only[intOf];exact P.o)|(simp [intOf];exact P.o)
      .
       intro n b;go_simp;(try dsimp only);refine b.out _ _ (fun _ _=>(Z.o.alloc _).box2) ?_;clear b n;(try simp only[Act.put,sA,sB,sC]);refine AnyDs.ready (rs:=[3]) (by kernel_rfl) (by simp) ?_;refine AllDs.cons (by rfl) ?_ AllDs.nil;intro n b;go_simp;(try dsimp only);refine b.out _ _ (fun _ _=>((Z.o.alloc _).alloc _).box2) ?_;clear b n;(try simp only[Act.put,sA,sB,sC]);refine AnyDs.ready (rs:=[4]) (by kernel_rfl) (by simp) ?_;refine AllDs.cons (by rfl) ?_ AllDs.nil;intro n b;refine Qb0 (t:=148) rfl (.tmp 64) (.tmp 66) rfl (vs:=sv) (vx:=.slice (some ⟨E.heap.size+1,0,none⟩) 1 1) (by simp[Act.eval]) (by simp[Act.eval]) dc.o ?_;(try dsimp only);refine b.out _ _ (fun _ _=>c7.o.box2) ?_;clear b n
       (try simp only[Act.put,sA,sB,sC]);refine AnyDs.takeP (i:=10) (v:=?_) rfl (by kernel_rfl) (by kernel_rfl) (by kernel_rfl) (by kernel_rfl) (fun _ _ _ h=>h) (Or.inl ⟨by rfl,?_⟩) (fun _=>c7.o.box2) ?_
       rotate_left
       .
        intro wq c;clear c
        first|(go_simp;done)|(go_simp;with_reducible rfl)
       (try simp only[Act.put,sA,sB,sC]);refine AnyDs.ready (rs:=[9]) (by kernel_rfl) (by simp) ?_;refine AllDs.cons (by rfl) ?_ AllDs.nil;intro n b;refine Qb0 (t:=155) rfl (.tmp 69) (.tmp 71) rfl (vs:=hv) (vx:=.slice (some ⟨E.heap.size,0,none⟩) 1 1) (by simp[Act.eval]) (by simp[Act.eval]) dd.o ?_;(try dsimp only);refine b.out _ _ (fun _ _=>ap.o.box2) ?_;clear b n;(try simp only[Act.put,sA,sB,sC]);obtain⟨-,x1,x2,-⟩:=zc ap.o.box;have z1:=ap.o.box.free 1;have z2:=ap.o.box.free 2;refine AnyDs.ready (rs:=[11]) (by kernel_rfl) (by simp) ?_;refine AllDs.cons (by rfl) ?_ AllDs.nil;intro n b;go_simp;(try dsimp only);refine b.out _ _ (fun h=>absurd (by decide) h) ?_
       clear b n;(try simp only[Act.put,sA,sB,sC]);refine AnyDs.takeP (i:=12) (v:=?_) rfl (by kernel_rfl) (by kernel_rfl) (by kernel_rfl) (by kernel_rfl) (fun _ _ _ h=>h) (Or.inl ⟨by rfl,?_⟩) (fun h=>absurd h (Qgt (d:=11) (by kernel_rfl) (by kernel_rfl))) ?_
       rotate_left
       .
        intro wq c;clear c
        first|(go_simp;done)|(go_simp;with_reducible rfl)
       (try simp only[Act.put,sA,sB,sC]);refine AnyDs.ready (rs:=[13]) (by kernel_rfl) (by simp) ?_;refine AllDs.cons (by rfl) ?_ AllDs.nil;intro n b;go_simp;(try dsimp only);refine b.out _ _ (fun h=>absurd (by decide) h) ?_;clear b n;(try simp only[Act.put,sA,sB,sC]);refine AnyDs.done (by kernel_rfl) ?_ _;clear x1 x2 z1 z2;have J:=ap.o.put.withX okNil;rw[show (S++ [r]).length=S.length+1 by simp,show (hs++ [k]).length=hs.length+1 by simp] at J;have aq:=Hi J;clear J;go_wp2_with fail;refine⟨⟨k+1,T,S++ [r],hs++ [k],_,_,bv.o,by go_num,aq.o,bu.o,bw.o,bx.o,bz.o⟩,?_⟩
       first|exact P.o|(simp only[intOf];exact P.o)|(simp [intOf];exact P.o)
  .
   have bt:k=wide:=by omega
   subst bt;obtain⟨t1,t2,rfl,_,_,_⟩:=N.o.rows.slice;obtain⟨s1,s2,rfl,_,_,_⟩:=N.o.heads.slice;obtain⟨x0,x1,x2,-⟩:=zc N.o.box;obtain⟨y0,y1,y2,-⟩:=zc N.o.res;have f0:=N.o.res.free 0;have f1:=N.o.res.free 1;have f2:=N.o.res.free 2;clear hS;go_wp2;obtain⟨e1,e2,e3,e4⟩:=N.o.done (.int .i64 k) (.slice t1 S.length t2) (.slice s1 hs.length s2)
   refine bodyPost_ret (v:=.agg #[.int .i64 k,.slice t1 S.length t2,.slice s1 hs.length s2]) (results_cell_row rfl _ _ w.heap.size 195 #[.int .i64 k,.slice t1 S.length t2,.slice s1 hs.length s2] (0,0) _ rfl (((N.o.res.set 0 _).set 1 _).set 2 _) underlying195 rfl Tryz.stairsInfo) rfl ?_;exact⟨⟨L,S,hs,_,_,rfl,HJ.o,by omega,by omega,e1,e2,e3⟩,e4⟩
theorem Qwz(w:Vz)(x z:Value)(a:Vx)(n c:Nat):(Instr.field 195 (.agg #[x,.slice a n c,z]) 1).run prog w=.ok (.slice a n c) w:=by kernel_rfl
theorem Qw0(a:Vx)(b W K:Nat)(rs:List MR)(w:Vz)(I:Nat->List Vec->List Vec->List Nat->Prop)(n:Going K I)(h:ARow MR.cells w a b rs)(c:Oks w W K rs)(hl:rs.length<=1000)(hW:W<=1000)(j:0<K)(s:4*K+1<68719476000)(p:I 0 (rs.map MR.q) [] []):
 Calls prog 155 #[.slice a rs.length b,.int .i64 W] w fun e w'=>(∃(L S:List Vec) (i:Vy),e=.returned (.int .i64 (S.length:Nat))/\S.length<=W/\I W L S i)/\Below w.heap.size w w':=by
 have k:=Hi (Qhe a b W K W rs w I n h c hl hW lZ j s p);clear n h c p;go_enter func155,ntmps155;go_wp2_with fail;go_fit k.o;rintro e t ⟨⟨L,S,i,B,C,rfl,r,l,u,d,f,m⟩,g⟩;obtain⟨v,c1,rfl,_,_,_⟩:=d.slice;obtain⟨x,c2,rfl,_,_,_⟩:=f.slice;obtain⟨y,z⟩:=Ia r g;have A:=Qwz t (.int .i64 (W:Nat)) (.slice x i.length c2) v S.length c1;clear r d f m g;go_wp2;go_ret;exact⟨⟨L.map MR.q,S.map MR.q,i,by rw[List.length_map];rfl,by rw[List.length_map];exact l,y.o⟩,z.o⟩
def Solved(W K:Nat)(M:List Vec)(b:List Rat)(w:Vz)(e:Ending)(w':Vz):Prop:=
 ((e=.returned (.tuple #[.slice none 0 0,.int .i64 8])/\∀x,¬Sol W M b x)∨
  (e=.returned (.tuple #[.slice none 0 0,.int .i64 9])/\∃x y,Sol W M b x/\Sol W M b y/\∃c,c<W/\x c≠y c)∨
  (∃(g:Nat) (us:List FE),e=.returned (.tuple #[.slice (some ⟨g,0,none⟩) W W,.int .i64 0])/\QBlk w' g us/\us.length=W/\(∀t,t∈ us->t.k<=K)/\∀y,Sol W M b y↔∀(i:Nat) (t:FE),us[i]?=some t->y i=t.q))/\Below w.heap.size w w'
theorem Qmj(a a':Vx)(aa cap' W K:Nat)(rs:List MR)(F:List FE)(w:Vz)(I:Nat->List Vec->List Vec->List Nat->Prop)(hI:Going K I)(h:QMat w a aa W rs)(hk:∀r,r∈ rs->∀t,t∈ r.ts->t.k<=K)(h':QRow w a' cap' F)(H:∀t,t∈ F->t.k<=K)(ab:F.length=rs.length)(hl:rs.length<=1000)(hW:W+1<=1000)(ad:0<K)(hK:4*K+1<68719476000)
 (h0:I 0 (List.zipWith (wider W) (rs.map MR.q) (F.map (·.q))) [] [])
 (T:∀L S d,I (W+1) L S d->Ech 0 (W+1) S d/\(∀x,Null (W+1) (List.zipWith (wider W) (rs.map MR.q) (F.map (·.q))) x↔Null (W+1) S x)/\clnFits K S d):
 Calls prog 112 #[.slice a rs.length aa,.int .i64 W,.slice a' rs.length cap'] w (Solved W K (rs.map MR.q) (F.map (·.q)) w):=by
 obtain⟨HJ,HI,H0,HF,am⟩:=Id (Qwu a a' aa cap' W K rs F w h hk h' H ab hl (by omega)) hI h0 T ab;clear hI h hk h' H h0 T ab;go_enter func112,ntmps112;go_wp2_with fail;go_fit HJ.o;rintro e w1 ⟨⟨g,an,rfl,ao,ap,U,aq⟩,ar⟩;have hM:an.map MR.q=List.zipWith (wider W) (rs.map MR.q) (F.map (·.q)):=by
  apply List.ext_getElem?;intro i;rw[List.getElem?_zipWith,List.getElem?_map,List.getElem?_map,List.getElem?_map];rcases Nat.lt_or_ge i rs.length with z|z
  .
   obtain⟨r,hr⟩:∃r,rs[i]?=some r:=⟨rs[i],gE z⟩;obtain⟨s,d⟩:∃s,F[i]?=some s:=⟨F[i]'(by have:=am.o;omega),gE (by have:=am.o;omega)⟩;obtain⟨r',A,h2⟩:=aq i r s hr d;rw[hr,d,A];simp[h2]
  . rw[List.getElem?_eq_none (by omega),List.getElem?_eq_none z]
    rfl
 have J:=Qhe (some ⟨g,0,none⟩) rs.length (W+1) K (W+1) an w1 I HI.o (ap.arow rfl (by omega)) U (by omega) hW lZ ad hK (by rw[hM];exact H0.o);rw[ao] at J;simp only[Int.natCast_add,Int.natCast_one] at J;obtain⟨au,ae⟩:=Ia J ar;clear J ar ap U aq ao hM HJ;go_wp2_with fail;go_fit au.o;rintro e w2 ⟨⟨L,S,d,sv,hv,rfl,z,b3,b4,af,ag,av⟩,aw⟩;obtain⟨b1,c1,rfl,_,_,_⟩:=af.slice;obtain⟨b2,c2,rfl,_,_,_⟩:=ag.slice;obtain⟨X,B,ax⟩:=HF.o _ _ _ z;obtain⟨HE,HN,bg,ay,az,bh,a0⟩:=If X B ax af ag av (ae.o.trans (aw.mono ae.o.size));have b0:=ae.o.size;clear z af ag av aw X B ax au;obtain⟨V,hV⟩:=nm (w2.alloc (.cells #[.int .i64 ((W:Int)+1),.slice b1 S.length c1,.slice b2 d.length c2] 195))
 have n:=Ua hV;have M:=Uc hV;have HV:=Hi hV;clear hV;go_wp2_with fail;rw[HV.o];go_fit (Qmg b2 c2 W d V (az.o.below n.o).crow (by omega));rintro e w3 ⟨rfl,rfl⟩;have a1:d.length=S.length:=by have:=HE.o.len;simp at this;omega
 have C:=Hi a1;clear a1;obtain⟨x0,x1,x2,-⟩:=zc M.o;have l:=Hi (a0.o.trans (n.o.mono a0.o.size));by_cases hw:W∈ d
 .
  rw[decide_eq_true hw];have HW:=Hi hw;clear hw;go_wp2;go_ret2;exact⟨.inl ⟨rfl,fun x=>Qj6 HE.o HN.o HW.o x⟩,l.o⟩
 .
  rw[decide_eq_false hw];have HW:=Hi hw;clear hw;by_cases a2:d.length<W
  .
   have q1:((d.length:Int)<(W:Int)):=by omega
   go_wp2;go_ret2;exact⟨.inr (.inl ⟨rfl,Qj7 HE.o HN.o HW.o a2⟩),l.o⟩
  .
   have q1:¬((d.length:Int)<(W:Int)):=by omega
   obtain⟨a3,Y,Z⟩:=Qj8 HE.o HN.o HW.o a2;obtain⟨bi,bj,bk,N⟩:=Ic (Qmi w1.heap.size (W+1) K S d (.slice b1 S.length c1) (.slice b2 d.length c2) ((W:Int)+1) w3 (ay.o.below n.o) (az.o.below n.o) (bh.o.fr (Fr.of_below n.o)) C.o.symm (fun c hc=>(HE.o.head c hc).2) bg.o (by omega) (by omega) ad hK) Y Z a3;clear Y Z a3;go_wp2_with fail;go_fit bi.o;rintro e G ⟨rfl,S',a4,a5,b⟩;have a6:O (Below w.heap.size w G):=Hi ⟨b.o.1.trans l.o.os,b.o.2.1.trans l.o.tape,b.o.2.2.1.trans l.o.output,Nat.le_trans l.o.size b.o.2.2.2,fun k hk=>(b.base k (Nat.lt_of_lt_of_le hk l.o.size) (fun e=>by have:=(b.rows.lt e).1;omega)).trans (l.o.block k hk)⟩;have m:O (SB G w2.heap.size 195 #[.int .i64 ((W:Int)+1),.slice b1 S.length c1,.slice b2 d.length c2]):=Hi (by
    have A:=b.base w2.heap.size M.o.lt (fun e=>by
     obtain⟨D,d1,_⟩:=(ay.o.below n.o).sb e
     exact M.o.unlike d1 row_stairs.symm rfl)
    have h2:=M.o;unfold SB at h2 ⊢;rw[A]
    exact h2)
   obtain⟨bl,ah,bm⟩:=Ib b a4 a5;have a7:=fun w=>Qa3 W (by omega) w
   obtain⟨MC,ai⟩:=nm (((List.replicate W FE.zero).flatMap FE.cells).toArray);rw[ai] at a7;have bn:=Hi ai.symm;obtain⟨V4,P⟩:=nm (G.alloc (.cells MC 107));obtain⟨g5,E⟩:=nm G.heap.size;have bo:O (Below g5 G V4):=Hi (by rw[<-P,<-E];exact(Below.refl _ _).alloc lZ _);have bp:O (QBlk V4 g5 (List.replicate W FE.zero)):=Hi (by rw[<-P,<-E];exact QBlk.new G W MC bn.o);have y2:∀o,(G.alloc o).cell? ⟨w2.heap.size,2,none⟩=some (.slice b2 d.length c2):=fun o=>(m.o.alloc o).cell 2
   have bq:=Hi P;clear b a4 a5 ai P x0 x1 x2;go_wp2_with fail;rw[bq.o]
   try rw[E]
   clear y2 a7;go_loopw [34] (fun i wr=>∃(k:Nat) (us:List FE),k<=d.length/\i=.int .i64 k/\us.length=W/\QBlk wr g5 us/\(∀(i:Nat) (t:FE),i<k->us[i]?=some t->∃r,S'[i]?=some r/\t.q=r.q W)/\(∀t,t∈ us->t.k<=K)/\Below g5 G wr) (fun i _=>d.length - (intOf i).toNat)
   case atStart=>exact⟨0,_,Nat.zero_le _,rfl,by simp,bp.o,fun i t z=>by omega,fun t u=>by obtain⟨_,rfl⟩:=List.mem_replicate.1 u;exact ad,bo.o⟩
   case round=>
    obtain⟨k,us,hk,rfl,a8,a9,ba,bb,hb⟩:=hrel;obtain⟨Q,HQ,aj,bc,HB⟩:=Id a8 a9 ba bb hb;clear a8 a9 ba bb hb;by_cases br:k<d.length
    .
     have R:Below G.heap.size G wr:=by rw[E];exact HB.o
     have b5:k<W:=by have:=N.o;omega
     obtain⟨r,hr⟩:∃r,S'[k]?=some r:=⟨S'[k]'(by have:=ah.o;have:=C.o;omega),gE (by have:=ah.o;have:=C.o;omega)⟩;obtain⟨j,ak⟩:∃j,d[k]?=some j:=⟨d[k],gE br⟩;obtain rfl:=bj.o k j ak;have b:=bl.o.below R;have f:=b.ok r (mO hr);obtain⟨e,he⟩:∃e,r.ts[W]?=some e:=⟨r.ts[W]'(by have:=f.len;omega),gE (by have:=f.len;omega)⟩;obtain⟨rb,ro,bd,b6,d0,d1,d2⟩:=f.row.at he;have al:=f.row.get he;have be:=f.sz e (mO he);obtain⟨b7,b8,bs,b9,ca⟩:=b.heads.crow.cell j (.int .i64 (j:Nat)) (by simp[headsV,ak]);obtain⟨gb,go,bt,cb,bu⟩:=b.rows.crow.cell j r.val (by rw[List.getElem?_map,hr];rfl);rw[MR.val,bd,f.len] at bu;obtain⟨-,x1,-⟩:=zc (m.o.below R m.o.lt)
     obtain⟨-,-,x2,-⟩:=zc (m.o.below R m.o.lt);subst bs;subst bt;obtain⟨o1,o2,o3⟩:=al.1.one;have cc:=Qaa prog o1;have cd:=Qaa prog o2;have ce:=Qaa prog o3;obtain⟨y0,bf⟩:∃y0,us[j]?=some y0:=⟨us[j]'(by have:=Q.o;omega),gE (by have:=Q.o;omega)⟩;have f0:=HQ.o.blk.free (j*3);have f1:=HQ.o.blk.free (j*3+1);have f2:=HQ.o.blk.free (j*3+2);obtain⟨gy,oy,bv,_,t0,t1,t2⟩:=HQ.o.row.at bf;cases bv;simp only[Nat.zero_add] at t0 t1 t2;have q2:((j:Int)<(d.length:Int)):=by omega
     have q3:((j:Int)<(W:Int)):=by omega
     have q4:((j:Int)<(S.length:Int)):=by have:=C.o;omega
     have q5:((W:Int)<((W+1:Nat):Int)):=by omega
     obtain⟨bw,bx,HR,bz⟩:=Ic al (MR.q_at he) hr be;clear R hr ak b f he bd al bf o1 o2 o3 be;go_wp2_with fail;refine⟨⟨j+1,us.set j e,by omega,by go_num,by rw[List.length_set];exact Q.o,HQ.o.set (by have:=Q.o;omega) bw.o,fun i t z u=>?_,fun t u=>?_,((HB.o.setCell (p:=⟨g5,j*3,none⟩) lZ _).setCell (p:=⟨g5,j*3+1,none⟩) lZ _).setCell (p:=⟨g5,j*3+2,none⟩) lZ _⟩,?_⟩
     .
      rcases Nat.lt_or_ge i j with A|A
      . rw[List.getElem?_set_ne (by omega)] at u
        exact aj.o i t A u
      .
       obtain rfl:i=j:=by omega
       rw[List.getElem?_set_self (by have:=Q.o;omega)] at u;obtain rfl:=Option.some.inj u;exact⟨r,HR.o,bx.o.symm⟩
     .
      rcases List.mem_or_eq_of_mem_set u with u|rfl
      . exact bc.o t u
      . exact bz.o
     . simp[intOf]
       omega
    .
     have H:k=d.length:=by omega
     subst H;go_wp2;go_ret2;refine⟨.inr (.inr ⟨g5,us,rfl,HQ.o,Q.o,bc.o,fun y=>?_⟩),a6.o.trans (HB.o.mono (by rw[<-E];exact a6.o.size))⟩;rw[bk.o y,<-bm.o];constructor
     .
      intro hy i t u;obtain⟨r,A,h2⟩:=aj.o i t (by have:=(gZ u).1;have:=Q.o;have:=N.o;omega) u;rw[h2];exact hy i r.q (by rw[List.getElem?_map,A];rfl)
     .
      intro hy i v hv;rw[List.getElem?_map] at hv;obtain⟨r,A,rfl⟩:=Option.map_eq_some_iff.1 hv;have z:i<us.length:=by have:=(gZ A).1;have:=Q.o;have:=N.o;have:=ah.o;have:=C.o;omega
      obtain⟨r2,k1,k2⟩:=aj.o i us[i] (by have:=Q.o;have:=N.o;omega) (gE z);obtain rfl:=Option.some.inj (A.symm.trans k1);rw[hy i us[i] (gE z),k2]
theorem Qhi{P:Program}{l:Func}{p u:Tmp}{ty:Vr}(h:l.results=#[.cell p ty,.cell u ty])(a:Vw)(w:Vz)(g e:Nat)(t:Vr)(f b:Vw)(fr c:Nat × Nat)(d:TypeDesc)
 (o:a.getD p undef=.pointer (some ⟨g,0,none⟩)) (q:w.heap[g]?=some (.cells f t fr)) (i:a.getD u undef=.pointer (some ⟨e,0,none⟩)) (j:w.heap[e]?=some (.cells b t c))
 (m:P.underlying ty=some d) (n:(match d with| .struct _| .array _ _=>true|_=>false)=true) (r:(P.info? ty).map (·.size)=some f.size) (k:(P.info? ty).map (·.size)=some b.size):
 (results l a).run P w=.ok (.tuple #[.agg f,.agg b]) w:=by
 have s:a[p]?.getD undef=.pointer (some ⟨g,0,none⟩):=by simpa using o
 have v:a[u]?.getD undef=.pointer (some ⟨e,0,none⟩):=by simpa using i
 simp[results,h,s,v,asAddr,run_loadVar_row w g t ty f fr d q m n r,run_loadVar_row w e t ty b c d j m n k]
def WaySays(w:Vz)(k:Nat)(qx qy:Rat)(e:Ending)(w':Vz):Prop:=∃x1 x2 x3 y1 y2 y3,e=.returned (.tuple #[.agg #[x1,x2,x3],.agg #[y1,y2,y3]])/\FBag w w' [⟨y1,y2,y3,qy,k⟩,⟨x1,x2,x3,qx,k⟩]
theorem Qai(w:Vz)(o:Obj)(t:Vr)(C:Vw):SB ((w.alloc o).alloc (.cells C t)) (w.heap.size+1) t C:=by
 have h:=SB.new (w.alloc o) t C;rw[World.size_alloc] at h;exact h
theorem Qb8{w:Vz}{x y z:Value}{q:Rat}(h:FracV w (.agg #[x,y,z]) q):∃neg a n c b m d,x=.bool neg/\y=.slice a n c/\z=.slice b m d:=by
 obtain⟨neg,a,n,c,b,m,d,e,_⟩:=h;simp at e;exact⟨neg,a,n,c,b,m,d,e.1,e.2.1,e.2.2⟩
theorem Qhj:NoU64 #[.bool false,.slice none 0 0,.slice none 0 0]:=Qic (by simp)
theorem Qhk{w u:Vz}{g a:Nat}{L:List FE}{x1 x2 x3 y1 y2 y3:Value}(h:FBag w u L)(d:w.heap.size<=g)(c:w.heap.size<=a)(b:g≠a)(s:SB u g 107 #[.bool false,.slice none 0 0,.slice none 0 0])(e:SB u a 107 #[.bool false,.slice none 0 0,.slice none 0 0]):
 FBag w ((((((u.setCell ⟨g,0,none⟩ x1).setCell ⟨g,1,none⟩ x2).setCell ⟨g,2,none⟩ x3).setCell ⟨a,0,none⟩ y1).setCell ⟨a,1,none⟩ y2).setCell ⟨a,2,none⟩ y3) L/\SB ((((((u.setCell ⟨g,0,none⟩ x1).setCell ⟨g,1,none⟩ x2).setCell ⟨g,2,none⟩ x3).setCell ⟨a,0,none⟩ y1).setCell ⟨a,1,none⟩ y2).setCell ⟨a,2,none⟩ y3) g 107 #[x1,x2,x3]/\SB ((((((u.setCell ⟨g,0,none⟩ x1).setCell ⟨g,1,none⟩ x2).setCell ⟨g,2,none⟩ x3).setCell ⟨a,0,none⟩ y1).setCell ⟨a,1,none⟩ y2).setCell ⟨a,2,none⟩ y3) a 107 #[y1,y2,y3]:=by
 have f:=h.only ((((Only.refl g u).setCell 0 x1).setCell 1 x2).setCell 2 x3) s Qhj d;have t1:=((s.set 0 x1).set 1 x2).set 2 x3;have t2:=((e.other b.symm 0 x1).other b.symm 1 x2).other b.symm 2 x3;have i:=f.only ((((Only.refl a _).setCell 0 y1).setCell 1 y2).setCell 2 y3) t2 Qhj c;refine⟨i,?_,?_⟩
 . have:=((t1.other b 0 y1).other b 1 y2).other b 2 y3
   simpa using this
 . have:=((t2.set 0 y1).set 1 y2).set 2 y3
   simpa using this
theorem Qhl(a1 a2 a3:Vx)(c1 c2 c3 nb nh A B n:Nat)(Q:List S2)(b:B6)(s t:S2)(w:Vz)(hg:Glob w)(hj:ARow S2.cells w a1 c1 Q)(hA:b.a=(A:Nat))(hB:b.b=(B:Nat))(hs:Q[A]?=some s)(ht:Q[B]?=some t)
 (hl:Q.length<=10) (z1:s.x.size<=n) (z2:s.y.size<=n) (z3:t.x.size<=n) (z4:t.y.size<=n) (hn:n<=1073741824) {x1 y1 x2 y2:Rat} (q1:QOf s.x.data.toList x1) (q2:QOf s.y.data.toList y1) (q3:QOf t.x.data.toList x2) (q4:QOf t.y.data.toList y2):
 Calls prog 161 #[.agg #[.slice a1 Q.length c1,.slice a2 nb c2,.slice a3 nh c3],.agg #[.int .i64 b.a,.int .i64 b.b,.string b.c,.string b.e,.string b.l,.string b.m]] w (WaySays w (4*n+1+(4*n+1)+1) (x2 - x1) (y2 - y1)):=by
 obtain⟨HG,HJ⟩:=Ia hg hj;have bi:=(gZ hs).1;have bj:=(gZ ht).1;obtain⟨HS,HT⟩:=Ia hs ht;rw[hA,hB];obtain⟨I,HQ⟩:=Ia (⟨z1,z2,z3,z4,hn⟩:s.x.size<=n/\s.y.size<=n/\t.x.size<=n/\t.y.size<=n/\n<=1073741824) (⟨q1,q2,q3,q4⟩:QOf s.x.data.toList x1/\QOf s.y.data.toList y1/\QOf t.x.data.toList x2/\QOf t.y.data.toList y2);have iA:((A:Int)<(Q.length:Int)):=by omega
 have iB:((B:Int)<(Q.length:Int)):=by omega
 clear hg hj hs ht z1 z2 z3 z4 hn q1 q2 q3 q4 hA hB;go_enter func161,ntmps161;obtain⟨u,O⟩:=nm w.heap.size;obtain⟨V,hV⟩:=nm ((((w.alloc (.cells #[.slice a1 Q.length c1,.slice a2 nb c2,.slice a3 nh c3] 26)).alloc (.cells #[.int .i64 (A:Nat),.int .i64 (B:Nat),.string b.c,.string b.e,.string b.l,.string b.m] 84)).alloc (.cells #[.bool false,.slice none 0 0,.slice none 0 0] 107)).alloc (.cells #[.bool false,.slice none 0 0,.slice none 0 0] 107));have an:Bl w V:=by
  rw[<-hV];exact(((bR.alloc lZ _).alloc (by simp) _).alloc (by simp;omega) _).alloc (by simp;omega) _
 have ar:V.heap.size=u+4:=by rw[<-hV,<-O];simp
 have s1:SB V u 26 #[.slice a1 Q.length c1,.slice a2 nb c2,.slice a3 nh c3]:=by
  rw[<-hV,<-O];exact(((SB.new w _ _).alloc _).alloc _).alloc _
 have s2:SB V (u+1) 84 #[.int .i64 (A:Nat),.int .i64 (B:Nat),.string b.c,.string b.e,.string b.l,.string b.m]:=by
  have h:=SB.new (w.alloc (.cells #[.slice a1 Q.length c1,.slice a2 nb c2,.slice a3 nh c3] 26)) 84 #[.int .i64 (A:Nat),.int .i64 (B:Nat),.string b.c,.string b.e,.string b.l,.string b.m];rw[World.size_alloc,O] at h;rw[<-hV];exact(h.alloc _).alloc _
 have s3:SB V (u+2) 107 #[.bool false,.slice none 0 0,.slice none 0 0]:=by
  have h:=SB.new ((w.alloc (.cells #[.slice a1 Q.length c1,.slice a2 nb c2,.slice a3 nh c3] 26)).alloc (.cells #[.int .i64 (A:Nat),.int .i64 (B:Nat),.string b.c,.string b.e,.string b.l,.string b.m] 84)) 107 #[.bool false,.slice none 0 0,.slice none 0 0];rw[World.size_alloc,World.size_alloc,O] at h;rw[<-hV];exact h.alloc _
 have s4:SB V (u+3) 107 #[.bool false,.slice none 0 0,.slice none 0 0]:=by
  have h:=SB.new (((w.alloc (.cells #[.slice a1 Q.length c1,.slice a2 nb c2,.slice a3 nh c3] 26)).alloc (.cells #[.int .i64 (A:Nat),.int .i64 (B:Nat),.string b.c,.string b.e,.string b.l,.string b.m] 84)).alloc (.cells #[.bool false,.slice none 0 0,.slice none 0 0] 107)) 107 #[.bool false,.slice none 0 0,.slice none 0 0];rw[World.size_alloc,World.size_alloc,World.size_alloc,O] at h;rw[<-hV];exact h
 obtain⟨jb,jo,rfl,bk,u0,u1⟩:=(HJ.o.below an).spot HS.o;obtain⟨bl,bm,e',_,u2,u3⟩:=(HJ.o.below an).spot HT.o;cases e';have f0:=s1.cell 0;have f1:=s2.cell 0;have f2:=s2.cell 1;simp at f0 f1 f2;obtain⟨ao,HV,T,ay,ap,aq⟩:=Ie an hV O ar s3 s4;clear an ar s1 s2 s3 s4 hV O;go_wp2_with fail;simp only[T.o];rw[HV.o];go_region_held3 (fun v=>v.cell? ⟨u,0,none⟩=some (.slice (some ⟨jb,jo,none⟩) Q.length c1)/\v.cell? ⟨u+1,0,none⟩=some (.int .i64 (A:Nat))/\v.cell? ⟨u+1,1,none⟩=some (.int .i64 (B:Nat))/\v.cell? ⟨jb,jo+A*2,none⟩=some (.string s.x)/\v.cell? ⟨jb,jo+A*2+1,none⟩=some (.string s.y)/\v.cell? ⟨jb,jo+B*2,none⟩=some (.string t.x)/\v.cell? ⟨jb,jo+B*2+1,none⟩=some (.string t.y)) ((first|(simp [*];done)|go_keep)) (fail)
 .
  obtain⟨X,U⟩:=nm (((V.alloc (.cells #[.string s.x,.string s.y] 34)).alloc (.cells #[.string t.x,.string t.y] 34)).drew);have J:Bl V X:=by rw[<-U];exact((bR.alloc lZ _).alloc (by simp) _).drew
  have K:SB X (V.heap.size) 34 #[.string s.x,.string s.y]:=by rw[<-U];exact((SB.new V _ _).alloc _)
  have N:SB X (V.heap.size+1) 34 #[.string t.x,.string t.y]:=by rw[<-U];exact Qai V _ _ _
  obtain⟨d,g,W⟩:=Ib K N (ao.o.trans (J.mono ao.o.size));obtain⟨P,j,i⟩:=Ib (FBag.start (HG.o.below W.o)) (ap.o.below J ap.o.lt) (aq.o.below J aq.o.lt);have z:=K.cell 0;have k1:=K.cell 1;have k2:=N.cell 0;have C:=N.cell 1;simp at z k1 k2 C;clear J K N f0 f1 f2 u0 u1 u2 u3;have au:=Hi U;clear U;have hz:=ay.o;have n1:V.heap.size≠u+1+1:=by omega
  have n2:V.heap.size≠u+1+1+1:=by omega
  have n3:V.heap.size+1≠u+1+1:=by omega
  have n4:V.heap.size+1≠u+1+1+1:=by omega
  have n5:=n1.symm;have n6:=n2.symm;have n7:=n3.symm;have n8:=n4.symm;have n9:V.heap.size≠u+1:=by omega
  have av:=n9.symm;clear hz;rw[au.o];go_wp2_with fail;go_region_held3 (fun v=>v.cell? ⟨V.heap.size,0,none⟩=some (.string s.x)/\v.cell? ⟨V.heap.size,1,none⟩=some (.string s.y)/\v.cell? ⟨V.heap.size+1,0,none⟩=some (.string t.x)/\v.cell? ⟨V.heap.size+1,1,none⟩=some (.string t.y)) ((first|(simp [*];done)|go_keep)) (first
   |
    (go_at_call_of 63 (Value.string t.x)
     apply cM;apply FBag.of (w0:=X) (L:=[]) (n:=n) t.x;(first|exact P.o|exact P.o.drew);exact I.o.2.2.1;exact I.o.2.2.2.2;rintro e v1 ⟨q,H,aw,az,a0,rfl,r⟩;rw[H.inj HQ.o.2.2.1] at r;have D:=Hi r;clear H r P z k1 k2 C;have z:=(d.o.below D.o.base d.o.lt).cell 0;have k1:=(d.o.below D.o.base d.o.lt).cell 1;have k2:=(g.o.below D.o.base g.o.lt).cell 0;have C:=(g.o.below D.o.base g.o.lt).cell 1;simp at z k1 k2 C
     skip)
   |
    (go_at_call_of 63 (Value.string s.x)
     apply cM;apply FBag.of (w0:=X) (L:=_) (n:=n) s.x;(first|exact D.o|exact D.o.drew);exact I.o.1;exact I.o.2.2.2.2;rintro e v2 ⟨q,H,a4,a5,a6,rfl,r⟩;rw[H.inj HQ.o.1] at r;have E:=Hi r;clear H r D z k1 k2 C;have z:=(d.o.below E.o.base d.o.lt).cell 0;have k1:=(d.o.below E.o.base d.o.lt).cell 1;have k2:=(g.o.below E.o.base g.o.lt).cell 0;have C:=(g.o.below E.o.base g.o.lt).cell 1;simp at z k1 k2 C
     skip)
   |
    (go_at_call_of 57 aw
     apply cM;(first|(apply FBag.minus E.o)|(apply FBag.minus E.o.drew));(repeat(first|exact mH|apply mT))
     (have:=I.o.2.2.2.2;omega)
     rintro e R ⟨a7,a8,a9,rfl,r⟩;obtain⟨Y,Z,aa,ab,ad,ae,af,rfl,rfl,rfl⟩:=Qb8 (r.get (List.Mem.head _)).1;have k:=Hi r;clear r E z k1 k2 C;have z:=(d.o.below k.o.base d.o.lt).cell 0;have k1:=(d.o.below k.o.base d.o.lt).cell 1;have k2:=(g.o.below k.o.base g.o.lt).cell 0;have C:=(g.o.below k.o.base g.o.lt).cell 1;simp at z k1 k2 C;(try clear p0 p1 p2 p3 p4 p5 r0 r1 r2 r3 r4 r5);obtain⟨p0,p1,p2,-⟩:=zc (j.o.below k.o.base j.o.lt);obtain⟨p3,-⟩:=zc (i.o.below k.o.base i.o.lt)
     obtain⟨-,p4,p5,-⟩:=zc (i.o.below k.o.base i.o.lt);have r0:R.frozen? ⟨u+1+1,0,none⟩=false:=(j.o.below k.o.base j.o.lt).free 0;have r1:R.frozen? ⟨u+1+1,1,none⟩=false:=(j.o.below k.o.base j.o.lt).free 1;have r2:R.frozen? ⟨u+1+1,2,none⟩=false:=(j.o.below k.o.base j.o.lt).free 2;have r3:R.frozen? ⟨u+1+1+1,0,none⟩=false:=(i.o.below k.o.base i.o.lt).free 0;have r4:R.frozen? ⟨u+1+1+1,1,none⟩=false:=(i.o.below k.o.base i.o.lt).free 1;have r5:R.frozen? ⟨u+1+1+1,2,none⟩=false:=(i.o.below k.o.base i.o.lt).free 2
     skip)
   |
    (go_at_call_of 63 (Value.string t.y)
     apply cM;apply FBag.of (w0:=X) (L:=_) (n:=n) t.y;(first|exact k.o|exact k.o.drew);exact I.o.2.2.2.1;exact I.o.2.2.2.2;rintro e v4 ⟨q,H,ax,ba,bb,rfl,r⟩;rw[H.inj HQ.o.2.2.2] at r;have F:=Hi r;clear H r k z k1 k2 C;have z:=(d.o.below F.o.base d.o.lt).cell 0;have k1:=(d.o.below F.o.base d.o.lt).cell 1;have k2:=(g.o.below F.o.base g.o.lt).cell 0;have C:=(g.o.below F.o.base g.o.lt).cell 1;simp at z k1 k2 C
     skip)
   |
    (go_at_call_of 63 (Value.string s.y)
     apply cM;apply FBag.of (w0:=X) (L:=_) (n:=n) s.y;(first|exact F.o|exact F.o.drew);exact I.o.2.1;exact I.o.2.2.2.2;rintro e v5 ⟨q,H,bc,bd,be,rfl,r⟩;rw[H.inj HQ.o.2.1] at r;have G:=Hi r;clear H r F z k1 k2 C;have z:=(d.o.below G.o.base d.o.lt).cell 0;have k1:=(d.o.below G.o.base d.o.lt).cell 1;have k2:=(g.o.below G.o.base g.o.lt).cell 0;have C:=(g.o.below G.o.base g.o.lt).cell 1;simp at z k1 k2 C
     skip)
   |
    (go_at_call_of 57 ax
     apply cM;(first|(apply FBag.minus G.o)|(apply FBag.minus G.o.drew));(repeat(first|exact mH|apply mT))
     (have:=I.o.2.2.2.2;omega)
     rintro e S ⟨bf,bg,bh,rfl,r⟩;obtain⟨ag,ah,ai,aj,ak,al,am,rfl,rfl,rfl⟩:=Qb8 (r.get (List.Mem.head _)).1;have p:=Hi r;clear r G z k1 k2 C;have z:=(d.o.below p.o.base d.o.lt).cell 0;have k1:=(d.o.below p.o.base d.o.lt).cell 1;have k2:=(g.o.below p.o.base g.o.lt).cell 0;have C:=(g.o.below p.o.base g.o.lt).cell 1;simp at z k1 k2 C;(try clear p0 p1 p2 p3 p4 p5 r0 r1 r2 r3 r4 r5);obtain⟨p0,p1,p2,-⟩:=zc (j.o.below p.o.base j.o.lt);obtain⟨p3,-⟩:=zc (i.o.below p.o.base i.o.lt)
     obtain⟨-,p4,p5,-⟩:=zc (i.o.below p.o.base i.o.lt);have r0:S.frozen? ⟨u+1+1,0,none⟩=false:=(j.o.below p.o.base j.o.lt).free 0;have r1:S.frozen? ⟨u+1+1,1,none⟩=false:=(j.o.below p.o.base j.o.lt).free 1;have r2:S.frozen? ⟨u+1+1,2,none⟩=false:=(j.o.below p.o.base j.o.lt).free 2;have r3:S.frozen? ⟨u+1+1+1,0,none⟩=false:=(i.o.below p.o.base i.o.lt).free 0;have r4:S.frozen? ⟨u+1+1+1,1,none⟩=false:=(i.o.below p.o.base i.o.lt).free 1;have r5:S.frozen? ⟨u+1+1+1,2,none⟩=false:=(i.o.below p.o.base i.o.lt).free 2
     skip)
   |fail)
  all_goals
   have HW:=Hi (Qhk (x1:=.bool Y) (x2:=.slice Z aa ab) (x3:=.slice ad ae af) (y1:=.bool ag) (y2:=.slice ah ai aj) (y3:=.slice ak al am) (p.o.from W.o HG.o (M:=[⟨.bool ag,.slice ah ai aj,.slice ak al am,y2 - y1,4*n+1+(4*n+1)+1⟩,⟨.bool Y,.slice Z aa ab,.slice ad ae af,x2 - x1,4*n+1+(4*n+1)+1⟩]) (fun f r=>by
    simp only[List.mem_cons,List.not_mem_nil,or_false] at r;rcases r with rfl|rfl
    . exact⟨_,List.Mem.head _,Nat.le_refl _⟩
    . exact⟨_,List.Mem.tail _ (List.Mem.tail _ (List.Mem.tail _ (List.Mem.head _))),Nat.le_refl _⟩)) (by have:=T.o;omega) (by have:=T.o;omega) (by omega) (j.o.below p.o.base j.o.lt) (i.o.below p.o.base i.o.lt))
   clear z k1 k2 C p0 p1 p2 p3 p4 p5 r0 r1 r2 r3 r4 r5 n1 n2 n3 n4 n5 n6 n7 n8 n9 av;go_wp2;refine bodyPost_ret (v:=.tuple #[_,_]) (Qhi rfl _ _ (u+2) (u+3) 107 _ _ (0,0) (0,0) _ rfl HW.o.2.1 rfl HW.o.2.2 underlying107 rfl Tryz.fracInfo Tryz.fracInfo) rfl ?_;exact⟨_,_,_,_,_,_,rfl,HW.o.1⟩
 .
  obtain⟨X,U⟩:=nm (((V.alloc (.cells #[.string t.x,.string t.y] 34)).alloc (.cells #[.string s.x,.string s.y] 34)).drew);have J:Bl V X:=by rw[<-U];exact((bR.alloc lZ _).alloc (by simp) _).drew
  have K:SB X (V.heap.size+1) 34 #[.string s.x,.string s.y]:=by rw[<-U];exact Qai V _ _ _
  have N:SB X (V.heap.size) 34 #[.string t.x,.string t.y]:=by rw[<-U];exact((SB.new V _ _).alloc _)
  obtain⟨d,g,W⟩:=Ib K N (ao.o.trans (J.mono ao.o.size));obtain⟨P,j,i⟩:=Ib (FBag.start (HG.o.below W.o)) (ap.o.below J ap.o.lt) (aq.o.below J aq.o.lt);have z:=K.cell 0;have k1:=K.cell 1;have k2:=N.cell 0;have C:=N.cell 1;simp at z k1 k2 C;clear J K N f0 f1 f2 u0 u1 u2 u3;have au:=Hi U;clear U;have hz:=ay.o;have n1:V.heap.size≠u+1+1:=by omega
  have n2:V.heap.size≠u+1+1+1:=by omega
  have n3:V.heap.size+1≠u+1+1:=by omega
  have n4:V.heap.size+1≠u+1+1+1:=by omega
  have n5:=n1.symm;have n6:=n2.symm;have n7:=n3.symm;have n8:=n4.symm;have n9:V.heap.size≠u+1:=by omega
  have av:=n9.symm;clear hz;rw[au.o];go_wp2_with fail;go_region_held3 (fun v=>v.cell? ⟨V.heap.size+1,0,none⟩=some (.string s.x)/\v.cell? ⟨V.heap.size+1,1,none⟩=some (.string s.y)/\v.cell? ⟨V.heap.size,0,none⟩=some (.string t.x)/\v.cell? ⟨V.heap.size,1,none⟩=some (.string t.y)) ((first|(simp [*];done)|go_keep)) (first
   |
    (go_at_call_of 63 (Value.string t.x)
     apply cM;apply FBag.of (w0:=X) (L:=[]) (n:=n) t.x;(first|exact P.o|exact P.o.drew);exact I.o.2.2.1;exact I.o.2.2.2.2;rintro e v1 ⟨q,H,aw,az,a0,rfl,r⟩;rw[H.inj HQ.o.2.2.1] at r;have D:=Hi r;clear H r P z k1 k2 C;have z:=(d.o.below D.o.base d.o.lt).cell 0;have k1:=(d.o.below D.o.base d.o.lt).cell 1;have k2:=(g.o.below D.o.base g.o.lt).cell 0;have C:=(g.o.below D.o.base g.o.lt).cell 1;simp at z k1 k2 C
     skip)
   |
    (go_at_call_of 63 (Value.string s.x)
     apply cM;apply FBag.of (w0:=X) (L:=_) (n:=n) s.x;(first|exact D.o|exact D.o.drew);exact I.o.1;exact I.o.2.2.2.2;rintro e v2 ⟨q,H,a4,a5,a6,rfl,r⟩;rw[H.inj HQ.o.1] at r;have E:=Hi r;clear H r D z k1 k2 C;have z:=(d.o.below E.o.base d.o.lt).cell 0;have k1:=(d.o.below E.o.base d.o.lt).cell 1;have k2:=(g.o.below E.o.base g.o.lt).cell 0;have C:=(g.o.below E.o.base g.o.lt).cell 1;simp at z k1 k2 C
     skip)
   |
    (go_at_call_of 57 aw
     apply cM;(first|(apply FBag.minus E.o)|(apply FBag.minus E.o.drew));(repeat(first|exact mH|apply mT))
     (have:=I.o.2.2.2.2;omega)
     rintro e R ⟨a7,a8,a9,rfl,r⟩;obtain⟨Y,Z,aa,ab,ad,ae,af,rfl,rfl,rfl⟩:=Qb8 (r.get (List.Mem.head _)).1;have k:=Hi r;clear r E z k1 k2 C;have z:=(d.o.below k.o.base d.o.lt).cell 0;have k1:=(d.o.below k.o.base d.o.lt).cell 1;have k2:=(g.o.below k.o.base g.o.lt).cell 0;have C:=(g.o.below k.o.base g.o.lt).cell 1;simp at z k1 k2 C;(try clear p0 p1 p2 p3 p4 p5 r0 r1 r2 r3 r4 r5);obtain⟨p0,p1,p2,-⟩:=zc (j.o.below k.o.base j.o.lt);obtain⟨p3,-⟩:=zc (i.o.below k.o.base i.o.lt)
     obtain⟨-,p4,p5,-⟩:=zc (i.o.below k.o.base i.o.lt);have r0:R.frozen? ⟨u+1+1,0,none⟩=false:=(j.o.below k.o.base j.o.lt).free 0;have r1:R.frozen? ⟨u+1+1,1,none⟩=false:=(j.o.below k.o.base j.o.lt).free 1;have r2:R.frozen? ⟨u+1+1,2,none⟩=false:=(j.o.below k.o.base j.o.lt).free 2;have r3:R.frozen? ⟨u+1+1+1,0,none⟩=false:=(i.o.below k.o.base i.o.lt).free 0;have r4:R.frozen? ⟨u+1+1+1,1,none⟩=false:=(i.o.below k.o.base i.o.lt).free 1;have r5:R.frozen? ⟨u+1+1+1,2,none⟩=false:=(i.o.below k.o.base i.o.lt).free 2
     skip)
   |
    (go_at_call_of 63 (Value.string t.y)
     apply cM;apply FBag.of (w0:=X) (L:=_) (n:=n) t.y;(first|exact k.o|exact k.o.drew);exact I.o.2.2.2.1;exact I.o.2.2.2.2;rintro e v4 ⟨q,H,ax,ba,bb,rfl,r⟩;rw[H.inj HQ.o.2.2.2] at r;have F:=Hi r;clear H r k z k1 k2 C;have z:=(d.o.below F.o.base d.o.lt).cell 0;have k1:=(d.o.below F.o.base d.o.lt).cell 1;have k2:=(g.o.below F.o.base g.o.lt).cell 0;have C:=(g.o.below F.o.base g.o.lt).cell 1;simp at z k1 k2 C
     skip)
   |
    (go_at_call_of 63 (Value.string s.y)
     apply cM;apply FBag.of (w0:=X) (L:=_) (n:=n) s.y;(first|exact F.o|exact F.o.drew);exact I.o.2.1;exact I.o.2.2.2.2;rintro e v5 ⟨q,H,bc,bd,be,rfl,r⟩;rw[H.inj HQ.o.2.1] at r;have G:=Hi r;clear H r F z k1 k2 C;have z:=(d.o.below G.o.base d.o.lt).cell 0;have k1:=(d.o.below G.o.base d.o.lt).cell 1;have k2:=(g.o.below G.o.base g.o.lt).cell 0;have C:=(g.o.below G.o.base g.o.lt).cell 1;simp at z k1 k2 C
     skip)
   |
    (go_at_call_of 57 ax
     apply cM;(first|(apply FBag.minus G.o)|(apply FBag.minus G.o.drew));(repeat(first|exact mH|apply mT))
     (have:=I.o.2.2.2.2;omega)
     rintro e S ⟨bf,bg,bh,rfl,r⟩;obtain⟨ag,ah,ai,aj,ak,al,am,rfl,rfl,rfl⟩:=Qb8 (r.get (List.Mem.head _)).1;have p:=Hi r;clear r G z k1 k2 C;have z:=(d.o.below p.o.base d.o.lt).cell 0;have k1:=(d.o.below p.o.base d.o.lt).cell 1;have k2:=(g.o.below p.o.base g.o.lt).cell 0;have C:=(g.o.below p.o.base g.o.lt).cell 1;simp at z k1 k2 C;(try clear p0 p1 p2 p3 p4 p5 r0 r1 r2 r3 r4 r5);obtain⟨p0,p1,p2,-⟩:=zc (j.o.below p.o.base j.o.lt);obtain⟨p3,-⟩:=zc (i.o.below p.o.base i.o.lt)
     obtain⟨-,p4,p5,-⟩:=zc (i.o.below p.o.base i.o.lt);have r0:S.frozen? ⟨u+1+1,0,none⟩=false:=(j.o.below p.o.base j.o.lt).free 0;have r1:S.frozen? ⟨u+1+1,1,none⟩=false:=(j.o.below p.o.base j.o.lt).free 1;have r2:S.frozen? ⟨u+1+1,2,none⟩=false:=(j.o.below p.o.base j.o.lt).free 2;have r3:S.frozen? ⟨u+1+1+1,0,none⟩=false:=(i.o.below p.o.base i.o.lt).free 0;have r4:S.frozen? ⟨u+1+1+1,1,none⟩=false:=(i.o.below p.o.base i.o.lt).free 1;have r5:S.frozen? ⟨u+1+1+1,2,none⟩=false:=(i.o.below p.o.base i.o.lt).free 2
     skip)
   |fail)
  all_goals
   have HW:=Hi (Qhk (x1:=.bool Y) (x2:=.slice Z aa ab) (x3:=.slice ad ae af) (y1:=.bool ag) (y2:=.slice ah ai aj) (y3:=.slice ak al am) (p.o.from W.o HG.o (M:=[⟨.bool ag,.slice ah ai aj,.slice ak al am,y2 - y1,4*n+1+(4*n+1)+1⟩,⟨.bool Y,.slice Z aa ab,.slice ad ae af,x2 - x1,4*n+1+(4*n+1)+1⟩]) (fun f r=>by
    simp only[List.mem_cons,List.not_mem_nil,or_false] at r;rcases r with rfl|rfl
    . exact⟨_,List.Mem.head _,Nat.le_refl _⟩
    . exact⟨_,List.Mem.tail _ (List.Mem.tail _ (List.Mem.tail _ (List.Mem.head _))),Nat.le_refl _⟩)) (by have:=T.o;omega) (by have:=T.o;omega) (by omega) (j.o.below p.o.base j.o.lt) (i.o.below p.o.base i.o.lt))
   clear z k1 k2 C p0 p1 p2 p3 p4 p5 r0 r1 r2 r3 r4 r5 n1 n2 n3 n4 n5 n6 n7 n8 n9 av;go_wp2;refine bodyPost_ret (v:=.tuple #[_,_]) (Qhi rfl _ _ (u+2) (u+3) 107 _ _ (0,0) (0,0) _ rfl HW.o.2.1 rfl HW.o.2.2 underlying107 rfl Tryz.fracInfo Tryz.fracInfo) rfl ?_;exact⟨_,_,_,_,_,_,rfl,HW.o.1⟩
def slRow(W g:Nat):Value:=.slice (some ⟨g,0,none⟩) W W
theorem QBlk.other{u c:Vz}{g a:Nat}{d us:List FE}(h:QBlk u g d)(e:QBlk u a us)(f:Only a u c)(b:g≠a):QBlk c g d:=
 ⟨h.blk.only f b,fun t i=>⟨(h.ts t i).1.only f e.blk e.no64,(h.ts t i).2⟩⟩
def updM(M:Nat->Nat->Rat)(r c:Nat)(q:Rat):Nat->Nat->Rat:=fun r' c'=>if r'=r/\c'=c then q else M r' c'
structure GM (w u:Vz) (B G W K:Nat) (gs:Vy) (M:Nat->Nat->Rat):Prop where
 base:Below w.heap.size w u
 o:SB u G 98 (gs.map (slRow W)).toArray
 row:∀(r g:Nat),gs[r]?=some g->∃us,QBlk u g us/\us.length=W/\∀(c:Nat) (t:FE),us[c]?=some t->t.q=M r c/\t.k<=K
 nd:∀(r r' g:Nat),gs[r]?=some g->gs[r']?=some g->r=r'
 ne:∀(r g:Nat),gs[r]?=some g->g≠G
 lo:B<=G
 los:∀(r g:Nat),gs[r]?=some g->B<=g
structure BM (w u:Vz) (F:Vw) (G W K:Nat) (gs:Vy) (M:Nat->Nat->Rat):Prop extends GM w u (w.heap.size+1) G W K gs M where
 box:SB u w.heap.size 26 F
section
variable {w u:Vz} {F:Vw} {B G W K:Nat} {gs:Vy} {M:Nat->Nat->Rat}
theorem GM.below{b:Vz}(h:GM w u B G W K gs M)(a:Below u.heap.size u b):GM w b B G W K gs M:=by
 refine⟨h.base.trans (a.mono h.base.size),h.o.below a h.o.lt,fun r g c=>?_,h.nd,h.ne,h.lo,h.los⟩;obtain⟨us,d,e⟩:=h.row r g c;exact⟨us,d.below a,e⟩
theorem BM.below{a:Vz}(h:BM w u F G W K gs M)(b:Below u.heap.size u a):BM w a F G W K gs M:=⟨h.toGM.below b,h.box.below b h.box.lt⟩
theorem GM.congr{a:Nat->Nat->Rat}(h:GM w u B G W K gs M)(b:∀r c,M r c=a r c):GM w u B G W K gs a:=by
 have:=funext fun r=>funext fun c=>b r c
 rw[<-this];exact h
theorem BM.congr{a:Nat->Nat->Rat}(h:BM w u F G W K gs M)(b:∀r c,M r c=a r c):BM w u F G W K gs a:=⟨h.toGM.congr b,h.box⟩
theorem GM.cell{r g:Nat}(h:GM w u B G W K gs M)(a:gs[r]?=some g):u.cell? ⟨G,r,none⟩=some (.slice (some ⟨g,0,none⟩) W W):=by
 rw[h.o.cell];simp[a,slRow]
theorem GM.lt{r g:Nat}(h:GM w u B G W K gs M)(a:gs[r]?=some g):g<u.heap.size:=by
 obtain⟨us,b,_⟩:=h.row r g a;exact b.blk.lt
theorem GM.at{r g c:Nat}(h:GM w u B G W K gs M)(d:gs[r]?=some g)(i:c<W):∃x y z,u.cell? ⟨g,c*3,none⟩=some x/\u.cell? ⟨g,c*3+1,none⟩=some y/\u.cell? ⟨g,c*3+2,none⟩=some z/\u.frozen? ⟨g,c*3,none⟩=false/\u.frozen? ⟨g,c*3+1,none⟩=false/\u.frozen? ⟨g,c*3+2,none⟩=false:=by
 obtain⟨us,a,j,_⟩:=h.row r g d;obtain⟨t,f⟩:∃t,us[c]?=some t:=⟨us[c]'(by omega),gE (by omega)⟩;obtain⟨b,o,e,_,d0,d1,d2⟩:=a.row.at f;cases e;simp only[Nat.zero_add] at d0 d1 d2;exact⟨_,_,_,d0,d1,d2,a.blk.free _,a.blk.free _,a.blk.free _⟩
abbrev set3(u:Vz)(g c:Nat)(x y z:Value):World:=((u.setCell ⟨g,c*3,none⟩ x).setCell ⟨g,c*3+1,none⟩ y).setCell ⟨g,c*3+2,none⟩ z
theorem Qdo(u:Vz)(g c:Nat)(x y z:Value):Only g u (set3 u g c x y z):=(((Only.refl g u).setCell _ _).setCell _ _).setCell _ _
theorem GM.keepV{r g c:Nat}{x y z v:Value}{q:Rat}(h:GM w u B G W K gs M)(b:gs[r]?=some g)(d:FracV u v q):FracV (set3 u g c x y z) v q:=by
 obtain⟨us,a,_⟩:=h.row r g b;exact d.only (Qdo u g c x y z) a.blk a.no64
theorem keep3{g b c:Nat}{x y z:Value}{t:Vr}{C:Vw}(d:SB u b t C)(a:b≠g):SB (set3 u g c x y z) b t C:=d.only (Qdo u g c x y z) a
theorem GM.put{r g c:Nat}{x y z:Value}{q:Rat}(h:GM w u B G W K gs M)(hB:w.heap.size<=B)(d:gs[r]?=some g)(P:c<W)(H:FracV u (.agg #[x,y,z]) q)(I:Fits q K)(J:0<K):GM w (set3 u g c x y z) B G W K gs (updM M r c q):=by
 obtain⟨us,E,L,N⟩:=h.row r g d;have i:=Qdo u g c x y z;have j:=h.los r g d;refine⟨h.base.trans (i.below (Nat.le_trans hB j) h.base.size),h.o.only i (fun e=>h.ne r g d e.symm),fun k l a=>?_,h.nd,h.ne,h.lo,h.los⟩;by_cases e:k=r
 .
  subst e;obtain rfl:=Option.some.inj (d.symm.trans a);refine⟨us.set c ⟨x,y,z,q,K⟩,Qe6 E (by omega) H I J,by rw[List.length_set];exact L,fun f t b=>?_⟩;by_cases m:f=c
  .
   subst m;rw[List.getElem?_set_self (by omega)] at b;obtain rfl:=Option.some.inj b;exact⟨by simp[updM],Nat.le_refl _⟩
  .
   rw[List.getElem?_set_ne (fun e=>m e.symm)] at b;obtain⟨n,p⟩:=N f t b;exact⟨by rw[n];simp[updM,m],p⟩
 .
  obtain⟨s,v,A,C⟩:=h.row k l a;have D:l≠g:=fun O=>e (h.nd k r l a (by rw[O];exact d))
  refine⟨s,v.other E i D,A,fun f t b=>?_⟩;obtain⟨n,p⟩:=C f t b;exact⟨by rw[n];simp[updM,e],p⟩
theorem BM.put{r g c:Nat}{x y z:Value}{q:Rat}(h:BM w u F G W K gs M)(a:gs[r]?=some g)(b:c<W)(d:FracV u (.agg #[x,y,z]) q)(e:Fits q K)(f:0<K):BM w (set3 u g c x y z) F G W K gs (updM M r c q):=
 ⟨h.toGM.put (Nat.le_succ _) a b d e f,h.box.only (Qdo u g c x y z) (by have:=h.los r g a;omega)⟩
end
def BlankSays(n m:Nat)(w:Vz)(e:Ending)(w':Vz):Prop:=(∃(G:Nat) (gs:Vy),e=.returned (.slice (some ⟨G,0,none⟩) n n)/\gs.length=n/\w.heap.size<=G/\SB w' G 98 (gs.map (slRow m)).toArray/\(∀(r g:Nat),gs[r]?=some g->QBlk w' g (List.replicate m FE.zero)/\G<g)/\(∀(r r' g:Nat),gs[r]?=some g->gs[r']?=some g->r=r'))/\Below w.heap.size w w'
theorem QBlk.zeroOnly{u b:Vz}{g c m:Nat}(h:QBlk u g (List.replicate m FE.zero))(d:Only c u b)(a:g≠c):QBlk b g (List.replicate m FE.zero):=by
 refine⟨h.blk.only d a,fun t e=>?_⟩;obtain⟨_,rfl⟩:=List.mem_replicate.1 e;exact⟨FracV.zero _,Fits.zero,by decide⟩
theorem Qm3(m n k g:Nat)(gs:Vy)(hk:k<n)(hl:gs.length=k):((gs.map (slRow m)++List.replicate (n - k) (Value.slice none 0 0)).set k (slRow m g))=(gs++ [g]).map (slRow m)++List.replicate (n - (k+1)) (Value.slice none 0 0):=by
 rw[show n - k=(n - (k+1))+1 by omega,List.replicate_succ,List.set_append_right _ _ (by rw[List.length_map];omega),List.length_map,hl,Nat.sub_self,List.set_cons_zero];simp
theorem Qdp(n m:Nat)(w:Vz)(hn:n<=1000)(hm:m<=1000):
 Calls prog 160 #[.int .i64 n,.int .i64 m] w (BlankSays n m w):=by
 have t:=fun w=>Qmd n (by omega) w
 have L:=fun w=>Qa3 m (by omega) w
 obtain⟨N,f⟩:=nm (((List.replicate n MR.none).flatMap MR.cells).toArray);obtain⟨P,v⟩:=nm (((List.replicate m FE.zero).flatMap FE.cells).toArray);rw[f] at t;rw[v] at L;have Q:O (N=(List.replicate n (Value.slice none 0 0)).toArray):=Hi (by
  rw[<-f]
  congr 1
  clear f t hn
  induction n with
  |zero=>rfl
  |succ n ih=>rw[List.replicate_succ,List.flatMap_cons,ih,List.replicate_succ];rfl)
 have R:=Hi v.symm;clear f v;go_enter func160,ntmps160;go_wp2_with fail;clear t;obtain⟨G,hG⟩:=nm w.heap.size;obtain⟨V0,j⟩:=nm (w.alloc (.cells N 98));have C:=Ua j;have S:O (SB V0 G 98 (([]:List Nat).map (slRow m)++List.replicate (n - 0) (Value.slice none 0 0)).toArray):=Hi (by
  rw[<-j,<-hG];have:=SB.new w 98 N;rw[Q.o] at this ⊢
  exact this)
 try rw[j]
 try rw[hG]
 unfold Bl at C;rw[hG] at C;have D:=Hi hG;clear j hG;go_loopw [10] (fun i wr=>∃(k:Nat) (gs:Vy),k<=n/\i=.int .i64 k/\gs.length=k/\SB wr G 98 (gs.map (slRow m)++List.replicate (n - k) (Value.slice none 0 0)).toArray/\(∀(r g:Nat),gs[r]?=some g->QBlk wr g (List.replicate m FE.zero)/\G<g)/\(∀(r x g:Nat),gs[r]?=some g->gs[x]?=some g->r=x)/\Below G w wr) (fun i _=>n - (intOf i).toNat)
 case atStart=>exact⟨0,[],by omega,rfl,rfl,S.o,fun r g h=>by simp at h,fun r x g h=>by simp at h,C.o⟩
 case round=>
  obtain⟨k,gs,hk,rfl,y,z,q,E,hb⟩:=hrel;obtain⟨HB,T,U,HN,X⟩:=Id hb z q E y;have c:=z.lt;clear hb z q E;by_cases Y:k<n
  .
   obtain⟨V,H⟩:=nm (wr.alloc (.cells P 107));have A:=Ua H;have HQ:O (QBlk V wr.heap.size (List.replicate m FE.zero)):=Hi (by rw[<-H];exact QBlk.new wr m P R.o);have l:=T.o.below A.o T.o.lt;have f0:=l.free k;have t0:V.cell? ⟨G,k,none⟩=some (.slice none 0 0):=by
    rw[l.cell];have e:(gs.map (slRow m)++List.replicate (n - k) (Value.slice none 0 0)).toArray[k]?=(gs.map (slRow m)++List.replicate (n - k) (Value.slice none 0 0))[k]?:=by simp
    rw[e,List.getElem?_append_right (by rw[List.length_map];omega),List.length_map,y,Nat.sub_self,List.getElem?_replicate,if_pos (by omega)]
   have Z:=Hi l;have q1:((k:Int)<(n:Int)):=by omega
   rw[<-H] at f0 t0;have HV:=Hi H;clear H l y;go_wp2_with fail;have e0:(wr.setCell ⟨G,k,none⟩ (.slice (some ⟨wr.heap.size,0,none⟩) m m)).alloc (.cells P 107)=V.setCell ⟨G,k,none⟩ (.slice (some ⟨wr.heap.size,0,none⟩) m m):=by
    rw[<-HV.o];exact(World.setCell_alloc_past _ _ _ _ c).symm
   rw[e0];have ho:Only G V (V.setCell ⟨G,k,none⟩ (.slice (some ⟨wr.heap.size,0,none⟩) m m)):=(Only.refl G V).setCell _ _;have s:=fun r g b=>(U.o r g b).1.blk.lt
   refine⟨⟨k+1,gs++ [wr.heap.size],by omega,by go_num,by rw[List.length_append];have:=X.o;simp;omega,?_,?_,?_,((HB.o.trans (A.o.mono (Nat.le_of_lt c))).setCell (p:=⟨G,k,none⟩) lZ _)⟩,?_⟩
   .
    have d:=Z.o.set k (.slice (some ⟨wr.heap.size,0,none⟩) m m);rw[List.setIfInBounds_toArray] at d;rw[<-Qm3 m n k wr.heap.size gs Y X.o];exact d
   .
    intro r g b;rcases Nat.lt_or_ge r gs.length with h|h
    .
     rw[List.getElem?_append_left h] at b;obtain⟨d,I⟩:=U.o r g b;exact⟨(d.below A.o).zeroOnly ho (by omega),I⟩
    .
     rw[List.getElem?_append_right h] at b;have e1:g=wr.heap.size:=by simpa using mO b
     rw[e1];exact⟨HQ.o.zeroOnly ho (by omega),c⟩
   .
    intro r x g b a;rcases Nat.lt_or_ge r gs.length with h|h<;>rcases Nat.lt_or_ge x gs.length with J|J
    .
     rw[List.getElem?_append_left h] at b;rw[List.getElem?_append_left J] at a;exact HN.o r x g b a
    .
     rw[List.getElem?_append_left h] at b;rw[List.getElem?_append_right J] at a;have e1:g=wr.heap.size:=by simpa using mO a
     have:=s r g b;omega
    .
     rw[List.getElem?_append_right h] at b;rw[List.getElem?_append_left J] at a;have e1:g=wr.heap.size:=by simpa using mO b
     have:=s x g a;omega
    .
     have d:=(gZ b).1;have I:=(gZ a).1;rw[List.length_append] at d I;simp at d I;omega
   . simp[intOf]
     omega
  .
   have aa:k=n:=by omega
   subst aa;go_wp2;go_ret;refine⟨⟨G,gs,rfl,X.o,Nat.le_of_eq D.o,?_,U.o,HN.o⟩,by rw[D.o];exact HB.o⟩;have d:=T.o;rw[Nat.sub_self] at d
   simpa using d
end Go.Proofs.YtkkadnoecklepaaGreatDoor
