import Derived.Test.YtppkmifkpjkgpaaGreatDoorE11RowsK
namespace Go.Proofs.YtppkmifkpjkgpaaGreatDoor
open Go.RowKit
open Go.Proofs.Tryz
set_option linter.unusedSimpArgs false
set_option linter.unusedVariables false
set_option maxHeartbeats 8000000
set_option maxRecDepth 1000000
theorem Qvp(a:Vx)(cap c:Nat)(hs:Vy)(w:Vz)(h:CRow w a (headsV hs))(hl:hs.length<=1000):
 Calls prog 137 #[.slice a hs.length cap,.int .i64 c] w fun e w'=>(∃v:Int,e=.returned (.int .i64 v)/\(0<=v↔c∈ hs))/\w'=w:=by
 have t:=Hi h;clear h;go_enter func137,ntmps137;go_wp2_with fail;go_loopw [8] (fun i wr=>∃k:Nat,k<=hs.length/\i=.int .i64 k/\(∀j,j<k->hs[j]?≠some c)/\wr=w) (fun i _=>hs.length - (intOf i).toNat)
 case atStart=>exact⟨0,Nat.zero_le _,rfl,fun j g=>by omega,rfl⟩
 case round=>
  obtain⟨k,hk,rfl,f,rfl⟩:=hrel;have p:=Hi f;clear f;by_cases l:k<hs.length
  .
   obtain⟨x,m⟩:∃x,hs[k]?=some x:=⟨hs[k],gE l⟩;obtain⟨b,u,rfl,z,d⟩:=t.o.cell k (.int .i64 (x:Nat)) (by simp[headsV,m]);have q:=Hi m;have A:((k:Int)<(hs.length:Int)):=by omega
   clear m;by_cases r:c=x
   .
    subst r;have y:((c:Int) == (c:Int))=true:=by simp
    go_wp2;go_ret;exact⟨⟨k,rfl,⟨fun _=>mO q.o,fun _=>by omega⟩⟩,rfl⟩
   .
    have y:((c:Int) == (x:Int))=false:=by rw[beq_eq_false_iff_ne];omega
    go_wp2;go_roundw
    case rel=>
     refine⟨k+1,by omega,by go_num,fun j g=>?_,by first|rfl|trivial⟩;rcases Nat.lt_or_ge j k with s|s
     . exact p.o j s
     .
      obtain rfl:j=k:=by omega
      rw[q.o];intro e;injection e with e
      exact r e.symm
    case measure=>simp[intOf];omega
  .
   have n:k=hs.length:=by omega
   subst n;go_wp2;go_ret;refine⟨⟨-1,rfl,⟨fun h=>by omega,fun h=>?_⟩⟩,rfl⟩;obtain⟨j,g⟩:=List.mem_iff_getElem?.1 h;exact absurd g (p.o j (gZ g).1)
theorem Qlj(a:Vx)(cap c:Nat)(hs:Vy)(w:Vz)(h:CRow w a (headsV hs))(hl:hs.length<=1000):
 Calls prog 85 #[.slice a hs.length cap,.int .i64 c] w fun e w'=>e=.returned (.bool (decide (c∈ hs)))/\w'=w:=by
 have g:=Hi h;clear h;go_enter func85,ntmps85;go_wp2_with fail;go_fit (Qvp a cap c hs w g.o hl);rintro e i ⟨⟨v,rfl,d⟩,rfl⟩;by_cases b:c∈ hs
 .
  have q:(0:Int)<=v:=d.2 b;have f:=Hi b;clear d b;go_wp2;go_ret;exact⟨by rw[decide_eq_true f.o];rfl,rfl⟩
 .
  have q:decide ((0:Int)<=v)=false:=decide_eq_false fun h=>b (d.1 h)
  have f:=Hi b;clear d b;go_wp2;go_ret;exact⟨by rw[decide_eq_false f.o];rfl,rfl⟩
theorem Qlk:∀u:Value,u∈ (Value.agg #[.bool false,.slice none 0 0,.slice none 0 0]).cells.toList->True:=fun _ _=>trivial
theorem QRow.one{w:Vz}{a:Vx}{cap:Nat}{c:List FE}(h:QRow w a cap c):∀u,u∈ c.flatMap FE.cells->u.oneCell'=true:=fun u b=>by
 obtain⟨t,d,b⟩:=List.mem_flatMap.1 b;obtain⟨e,f,g⟩:=(h.ts t d).1.one;simp[FE.cells] at b;rcases b with rfl|rfl|rfl
 . exact e
 . exact f
 . exact g
theorem Qvq(a:Vx)(cap:Nat)(d:List FE)(w:Vz)(h:QRow w a cap d)(hl:d.length<=1000):
 Calls prog 145 #[.slice a d.length cap] w fun e w'=>(∃v,e=.returned v/\Grow w' w.heap.size 141 3 (fun _=>True) v d.length (d.flatMap FE.cells))/\Below w.heap.size w w':=by
 obtain⟨L,x,D⟩:=Option.map_eq_some_iff.1 Qer;simp only[Prod.mk.injEq] at D;obtain⟨g,m,hz2⟩:=D;have M:∀(w:Vz) (a:Vx) (n c n' y:Nat),(binOp .eql 93 (.slice a n c) (.slice none n' y)).run prog w=.ok (.bool a.isNone) w:=fun w a n c n' y=>Lib.run_eql_slice_nil w _ _ a n c n' y underlying93
 have H:=Hi h;clear h;cases a with
 |none=>
  have z:d= []:=by
   cases d with
   |nil=>rfl
   |cons r l=>
    obtain⟨b,A,e,_⟩:=H.o.at (i:=0) (e:=r) rfl;cases e
  subst z;clear x g m hz2;go_enter func145,ntmps145;go_wp2;go_ret;exact⟨⟨_,rfl,Grow.nil _ _ _ _ _⟩,Below.refl _ _⟩
 |some ad=>
  obtain⟨W,t⟩:=nm (w.alloc (.cells #[] 141));have f:Bl w W:=by rw[<-t];exact(Below.refl _ _).alloc lZ _
  have p:Grow W w.heap.size 141 3 (fun _=>True) (.slice (some ⟨w.heap.size,0,none⟩) 0 0) 0 []:=by rw[<-t];exact Grow.made w _ _ _
  obtain⟨N,w',B,q,s,C⟩:=p.app (P:=prog) (ty:=93) underlying93 x g m hz2 rfl (by decide) Qlk ad d.length cap (d.flatMap FE.cells) (Qa9 (c:=FE.cells) (sz:=3) (fun _=>rfl) d) (fun j u E=>by
   obtain⟨b,A,e,F,G⟩:=H.o.row.row.cell j u E;cases e;rw[Qau]
   exact ce f F G) H.o.one (fun _ _=>trivial) (by omega) (by decide) f.size
  rw[<-t] at B;obtain⟨I,J,K⟩:=Ib B q (f.grown s f.size (fun k hk=>by simp[Value.ownBlock] at hk;omega));clear B q s C p f t x g m hz2;go_enter func145,ntmps145;go_wp2_with (at_builtin;refine Qdp _ rfl _ _ 93 93 rfl (.slice (some ⟨w.heap.size,0,none⟩) 0 0) (.slice (some ad) d.length cap) _ _ rfl rfl I.o ?_);go_wp2;go_ret;refine⟨⟨_,rfl,?_⟩,K.o⟩;have:=J.o;rw[Nat.zero_add,List.nil_append] at this;exact this
theorem Qvr{u:Vz}{B:Nat}{v:Value}{r:MR}{s:FE}{W K:Nat}(j:Grow u B 141 3 (fun _=>True) v (W+1) (r.ts.flatMap FE.cells++FE.cells s))(l:∀t,t∈ r.ts->FracV u (.agg #[t.x,t.y,t.z]) t.q/\Fits t.q t.k/\0<t.k)(hl:r.ts.length=W)(hk:∀t,t∈ r.ts->t.k<=K)(hs:FracV u (.agg #[s.x,s.y,s.z]) s.q/\Fits s.q s.k/\0<s.k)(f:s.k<=K):
 ∃d:MR,v=.slice d.a d.ts.length d.cap/\MOk u (W+1) K d/\d.q=wider W r.q s.q:=by
 obtain⟨a,cap,rfl,m,g,_⟩:=j.slice;have c:(r.ts++ [s]).length=W+1:=by simp[hl]
 have h:(r.ts++ [s]).flatMap FE.cells=r.ts.flatMap FE.cells++FE.cells s:=by simp
 refine⟨⟨a,cap,r.ts++ [s]⟩,by simp[hl],⟨⟨⟨by rw[c];exact m,by rw[h];exact g⟩,fun t b=>?_⟩,c,fun t b=>?_⟩,?_⟩
 .
  rcases List.mem_append.1 b with b|b
  . exact l t b
  . obtain rfl:t=s:=by simpa using b
    exact hs
 .
  rcases List.mem_append.1 b with b|b
  . exact hk t b
  . obtain rfl:t=s:=by simpa using b
    exact f
 .
  funext i;unfold wider;by_cases e:i=W
  .
   rw[if_pos e,MR.q_at (e:=s)];subst e;rw[<-hl];simp
  .
   rw[if_neg e];rcases Nat.lt_or_ge i W with n|n
   . obtain⟨t,b⟩:∃t,r.ts[i]?=some t:=⟨r.ts[i]'(by omega),gE (by omega)⟩
     rw[MR.q_at b,MR.q_at (e:=t) (by rw[List.getElem?_append_left (by omega)];exact b)]
   . rw[MR.q_beyond (by rw[c];omega),MR.q_beyond (by omega)]
theorem Qvs{P:Program}{p:Array Oper}{o:Oper}{a:Act}{u:Vz}{K':Act->World->Prop}{Q:Exit->Act->World->Prop}{E:Prop}(G:o.guard=none)(q x:Operand){t e:Vr}(r:o.op=Op.call { callee:=Callee.builtin Builtin.append,args:=#[q,x],argTypes:=#[t,t] })
 {B:Nat} {i:TypeInfo} {z:Value} {sz bytes:Nat} {K:Value->Prop} {v:Value} {n:Nat} {xs:Vv} {s:Addr} {m c:Nat} (hs:a.eval q=v) (H:a.eval x=.slice (some s) m c) (h:Grow u B e sz K v n xs)
 (I:P.underlying t=some (.slice e)) (J:P.info? e=some i) (L:i.zero=some z) (b:i.size=sz) (y:i.bytes=bytes) (A:z.cells.size=sz) (C:0<sz) (D:∀u,u∈ z.cells.toList->K u)
 (news:Vv) (hl:news.length=m*sz) (d:∀j w,news[j]?=some w->u.cell? (s.add j)=some w) (M:∀u,u∈ news->u.oneCell'=true) (N:∀u,u∈ news->K u)
 (F:n+m<=1048576) (k:bytes<=1000) (f:B<=u.heap.size)
 (O:∀g l,Grow l B e sz K g (n+m) (xs++news)->u.grownBy l v.ownBlock->(g.ownBlock=v.ownBlock∨g.ownBlock=some u.heap.size)->K' (a.put o.dst g) l):
 if Region.wanted o (yielded p a.tmps)=true then Oper.wp P o a u K' Q else E:=by
 obtain⟨g,l,R,S,T,U⟩:=h.app (P:=P) (ty:=o.type) I J L b y A C D s m c news hl d M N F k f;exact Qa4 G q x r hs H R (O g l S T U)
theorem Qvt{w:Vz}{b:Nat}{t:Vr}{x y z:Value}(h:SB w b t #[x,y,z]):∀(j:Nat) (u:Value),[x,y,z][j]?=some u->w.cell? ((⟨b,0,none⟩:Addr).add j)=some u:=fun j u a=>by
 rw[Qau,h.cell,Nat.zero_add,<-a];simp
theorem Qvu{w:Vz}{g k:Nat}{t:Vr}{c:List MR}{b:MR}(h:SB w g t (c.flatMap MR.cells).toArray)(hk:c[k]?=some b):w.cell? ⟨g,k,none⟩=some (.slice b.a b.ts.length b.cap):=by
 rw[h.cell,Qes];simp[hk,MR.val]
theorem Qvv{w:Vz}{g b i:Nat}{t:Vr}{e:List MR}{x y z:Value}{q:Rat}(h:SB w g t (e.flatMap MR.cells).toArray)(f:w.cell? ⟨b,i,none⟩=some x)(n:FracV w (.agg #[x,y,z]) q):b≠g:=by
 rintro rfl;rw[h.cell] at f;obtain⟨_,_,_,j⟩:=mr_sl e x (mO (by simpa using f));obtain⟨neg,a,m,c,b,k,d,l,_⟩:=n;simp at l;rw[l.1] at j;cases j
theorem Qaq{w u:Vz}(h:Bl w u)(o:Obj):Bl w (u.alloc o):=h.alloc h.size o
theorem Qar{w u:Vz}(h:Bl w u):Bl w u.drew:=h.drew
theorem Qvw{w:Vz}{B:Nat}{e:Vr}{sz:Nat}{K:Value->Prop}{v:Value}{n:Nat}{xs:Vv}(h:Grow w B e sz K v n xs)(o:Obj):Grow (w.alloc o) B e sz K v n xs:=h.below (bR.alloc lZ _)
theorem Qvx{w:Vz}{B:Nat}{e:Vr}{sz:Nat}{K:Value->Prop}{v:Value}{n:Nat}{xs:Vv}(h:Grow w B e sz K v n xs):Grow w.drew B e sz K v n xs:=h.below bR.drew
theorem Qvy{w u:Vz}{a:Vx}{cap:Nat}{c:List FE}(h:QRow w a cap c)(hl:c.length<=1000)(d:Bl w u):
 Calls prog 145 #[.slice a c.length cap] u fun e f=>(∃v,e=.returned v/\Grow f w.heap.size 141 3 (fun _=>True) v c.length (c.flatMap FE.cells))/\Below w.heap.size w f/\∀b t C,SB u b t C->SB f b t C:=by
 refine(Qvq a cap c u (h.below d) hl).mono ?_;rintro e f ⟨⟨v,rfl,i⟩,g⟩;exact⟨⟨v,rfl,i.mono d.size⟩,d.trans (g.mono d.size),fun b t C hs=>hs.below g hs.lt⟩
theorem Qvz{h:Array Oper}{o:Oper}{a:Act}{u:Vz}{K':Act->World->Prop}{Q:Exit->Act->World->Prop}{E:Prop}(I:o.guard=none)(i x:Operand)(j:o.op=Op.call { callee:=Callee.builtin Builtin.append,args:=#[i,x],argTypes:=#[93,93] })
 {w:Vz} {v:Value} {r:MR} {s:FE} {W K nb c:Nat} (J:a.eval i=v) (L:a.eval x=.slice (some ⟨nb,0,none⟩) 1 c) (hG:Grow u w.heap.size 141 3 (fun _=>True) v W (r.ts.flatMap FE.cells)) (hB:Bl w u) (hC:SB u nb 141 #[s.x,s.y,s.z])
 (B:QRow w r.a r.cap r.ts) (hl:r.ts.length=W) (T:W<=1000) (hk:∀t,t∈ r.ts->t.k<=K) (hs:FracV w (.agg #[s.x,s.y,s.z]) s.q/\Fits s.q s.k/\0<s.k) (l:s.k<=K)
 (M:∀b m,MOk m (W+1) K b->b.q=wider W r.q s.q->Below w.heap.size w m->K' (a.put o.dst (.slice b.a b.ts.length b.cap)) m):
 if Region.wanted o (yielded h a.tmps)=true then Oper.wp prog o a u K' Q else E:=by
 obtain⟨U,N,C⟩:=Option.map_eq_some_iff.1 Qer;simp only[Prod.mk.injEq] at C;obtain⟨n,p,hz2⟩:=C;obtain⟨O,R,S⟩:=hs.1.one;refine Qvs (P:=prog) I i x j J L hG underlying93 N n p hz2 rfl (by decide) Qlk [s.x,s.y,s.z] rfl (Qvt hC) (fun u D=>by
  simp at D;rcases D with rfl|rfl|rfl
  . exact O
  . exact R
  . exact S) (fun _ _=>trivial) (by omega) (by decide) hB.size ?_
 intro V F e f G;have d:=hB.grown f hB.size (fun k hk=>(hG.lt hk).1);obtain⟨b,rfl,g,A⟩:=Qvr (u:=F) (r:=r) (s:=s) (W:=W) (K:=K) e (fun t H=>⟨(B.ts t H).1.below d,(B.ts t H).2⟩) hl hk ⟨hs.1.below d,hs.2⟩ l;exact M b F g A d
theorem Qv0(a a':Vx)(cap cap' W K:Nat)(rs:List MR)(E:List FE)(w:Vz)(h:QMat w a cap W rs)(hk:∀r,r∈ rs->∀t,t∈ r.ts->t.k<=K)(h':QRow w a' cap' E)(m:∀t,t∈ E->t.k<=K)(P:E.length=rs.length)(hl:rs.length<=1000)(hW:W<=1000):
 Calls prog 100 #[.slice a rs.length cap,.slice a' rs.length cap'] w fun e w'=>(∃(g:Nat) (n:List MR),e=.returned (.slice (some ⟨g,0,none⟩) rs.length rs.length)/\n.length=rs.length/\SB w' g 93 (n.flatMap MR.cells).toArray/\Oks w' (W+1) K n/\∀(i:Nat) (r:MR) (s:FE),rs[i]?=some r->E[i]?=some s->∃c,n[i]?=some c/\c.q=wider W r.q s.q)/\Below w.heap.size w w':=by
 obtain⟨HH,HK⟩:=Ia h hk;have Q:=Hi h';have ai:=Hi m;have A:=Hi P;clear P;have R:=fun w=>Qle rs.length (by omega) w
 obtain⟨MC,I⟩:=nm (((List.replicate rs.length MR.none).flatMap MR.cells).toArray);rw[I] at R;have aj:=Hi I;clear h hk h' m I;obtain⟨i0,J,hz⟩:=Option.map_eq_some_iff.1 Qer;simp only[Prod.mk.injEq] at hz;obtain⟨S,T,hz2⟩:=hz;obtain⟨HI,a1,a2,a3⟩:=Ic J S T hz2;clear J S T hz2;go_enter func100,ntmps100;go_wp2_with fail;clear R;obtain⟨g,U⟩:=nm w.heap.size;obtain⟨V,hV⟩:=nm (w.alloc (.cells MC 93));have ak:O (Below g w V):=Hi (by rw[<-hV,<-U];exact(Below.refl _ _).alloc lZ _);have al:O (SB V g 93 ((List.replicate rs.length MR.none).flatMap MR.cells).toArray):=Hi (by rw[<-hV,<-U,aj.o];exact SB.new w _ _)
 try rw[hV]
 try rw[U]
 clear hV;go_loopw [13] (fun i wr=>∃(k:Nat) (B:List MR),k<=rs.length/\i=.int .i64 k/\B.length=rs.length/\SB wr g 93 (B.flatMap MR.cells).toArray/\(∀(i:Nat) (r:MR) (s:FE),i<k->rs[i]?=some r->E[i]?=some s->∃c,B[i]?=some c/\MOk wr (W+1) K c/\c.q=wider W r.q s.q)/\Below g w wr) (fun i _=>rs.length - (intOf i).toNat)
 case atStart=>exact⟨0,_,by omega,rfl,by simp,al.o,fun i r s J=>by omega,ak.o⟩
 case round=>
  obtain⟨k,B,hk,rfl,X,L,F,hb⟩:=hrel;obtain⟨HB,C,HA⟩:=Ib hb L F;have am:=L.lt;clear hb L F;by_cases an:k<rs.length
  .
   obtain⟨r,l⟩:∃r,rs[k]?=some r:=⟨rs[k],gE an⟩;obtain⟨s,hs⟩:∃s,E[k]?=some s:=⟨E[k]'(by have:=A.o;omega),gE (by have:=A.o;omega)⟩;have f:Bl w wr:=by rw[U];exact HB.o
   obtain⟨fb,a4,rfl,a5,d⟩:=(HH.o.below f).at l;obtain⟨hq,Y⟩:=(HH.o.below f).get l;obtain⟨sb,so,rfl,G,d0,d1,d2⟩:=(Q.o.below f).at hs;obtain⟨M,HQ,HR,ao,ap,aq⟩:=Ie ((Q.o.below f).get hs) hq l hs (HK.o r (mO l)) (ai.o s (mO hs));obtain⟨o1,o2,o3⟩:=M.o.1.one;have a6:O (∀u,u∈ [s.x,s.y,s.z]->u.oneCell'=true):=Hi (fun u hu=>by
    simp at hu;rcases hu with rfl|rfl|rfl
    . exact o1
    . exact o2
    . exact o3)
   have q1:((k:Int)<(rs.length:Int)):=by omega
   clear l hs hq f o1 o2 o3;have D:r.ts.length<=1000:=by omega
   have Z:=Hi (fun u=>Qvy (u:=u) HQ.o D);rw[Y] at Z;have az:=C;obtain⟨r0,aa⟩:∃r0,B[k]?=some r0:=⟨B[k]'(by omega),gE (by omega)⟩;obtain⟨ar,D0,D1,D2⟩:=Ic aa d0 d1 d2;clear aa;go_wp2_with fail;go_region_held3 (fun v=>v.cell? ⟨sb,so+k*3,none⟩=some s.x/\v.cell? ⟨sb,so+k*3+1,none⟩=some s.y/\v.cell? ⟨sb,so+k*3+2,none⟩=some s.z) ((first|(simp [*];done)|go_keep)) (first
    |(
     go_at_call 145;apply cM;apply Z.o;(focus(repeat(first|exact Below.refl _ _|apply Qaq|apply Qar)));rintro e1 w1 ⟨⟨v1,rfl,ab⟩,ad,ae⟩;obtain⟨N,au,av⟩:=Ib ad ab ae;clear ab ad ae;obtain⟨d0,d1,d2⟩:=Jb N.o G D0.o D1.o D2.o;have a7:=N.o.size
     skip)
    |(
     refine Qvz rfl (.tmp 21) (.tmp 26) rfl (w:=wr) (v:=v1) (r:=r) (s:=s) (W:=W) (K:=K) rfl rfl ?hG ?hB ?hC HQ.o Y hW ap.o M.o aq.o ?_
     case hG=>(focus(repeat(first|exact au.o|apply Qvw|apply Qvx)))
     case hB=>(focus(repeat(first|exact N.o|apply Qaq|apply Qar)))
     case hC=>(first|exact SB.new _ _ _|exact av.o _ _ _ (SB.new _ _ _))
     intro c w2 H af ag;obtain⟨j,aw⟩:=Ia ag H;have ax:=Hi af;clear H af ag;have b:=Hi (C.o.below j.o C.o.lt);obtain⟨d0,d1,d2⟩:=Jb j.o G D0.o D1.o D2.o;have f0:=b.o.free k;have t0:=Qvu b.o ar.o;have ay:=Qvv b.o d0 (M.o.1.below j.o);have a0:=ay.symm
     skip)
    |fail)
   all_goals
    go_wp2_with fail;have ho:Only g w2 (w2.setCell ⟨g,k,none⟩ (.slice c.a c.ts.length c.cap)):=(Only.refl _ _).setCell _ _;have ah:=Fr.of_only ho b.o (IsSl.plain fun u hu=>mr_sl B u (by simpa using hu));refine⟨⟨k+1,B.set k c,by omega,by go_num,by rw[List.length_set];exact X,?_,?_,(HB.o.trans (j.o.mono (Nat.le_of_lt am))).setCell (p:=⟨g,k,none⟩) lZ _⟩,?_⟩
    .
     have:=b.o.set k (.slice c.a c.ts.length c.cap);rw[Qld]
     simpa using this
    .
     intro i x y J hx hy;rcases Nat.lt_or_ge i k with h1|h1
     . obtain⟨z,z1,z2,z3⟩:=HA.o i x y h1 hx hy
       exact⟨z,by rw[List.getElem?_set_ne (by omega)];exact z1,(z2.fr (Fr.of_below j.o)).fr ah,z3⟩
     .
      obtain rfl:i=k:=by omega
      obtain rfl:=Option.some.inj (HR.o.symm.trans hx);obtain rfl:=Option.some.inj (ao.o.symm.trans hy);exact⟨c,by rw[List.getElem?_set_self (by omega)],aw.o.fr ah,ax.o⟩
    . simp[intOf]
      omega
  .
   have m:k=rs.length:=by omega
   subst m;go_wp2;go_ret;rw[U];refine⟨⟨g,B,rfl,X,C.o,fun r l=>?_,fun i r s l hs=>?_⟩,HB.o⟩
   .
    obtain⟨i,J⟩:=List.mem_iff_getElem?.1 l;have a8:=(gZ J).1;obtain⟨z,z1,z2,_⟩:=HA.o i (rs[i]'(by omega)) (E[i]'(by have:=A.o;omega)) (by omega) (gE (by omega)) (gE (by have:=A.o;omega));obtain rfl:=Option.some.inj (J.symm.trans z1);exact z2
   . obtain⟨z,z1,_,z3⟩:=HA.o i r s (gZ l).1 l hs
     exact⟨z,z1,z3⟩
def redFits(K:Nat)(r:Vec):List Vec->List Nat->Prop
 |t :: T,h :: hs=>(∀i,Fits (r i) K)/\redFits K (fun i=>r i - t i*r h) T hs
 |_,_=>∀i,Fits (r i) K
def clnFits(K:Nat):List Vec->List Nat->Prop
 |r :: S,h :: hs=>clnFits K S hs/\redFits K (fun i=>r i / r h) (cln S hs) hs
 |_,_=>True
theorem redFits.here{K:Nat}{r:Vec}:∀{T:List Vec} {hs:Vy},redFits K r T hs->∀i,Fits (r i) K
 |_ :: _,_ :: _,h=>h.1
 | [],_,h=>by unfold redFits at h;exact h
 |_ :: _,[],h=>by unfold redFits at h;exact h
theorem clnFits.drop{K:Nat}:∀{S:List Vec} {hs:Vy} (i:Nat),clnFits K S hs->clnFits K (S.drop i) (hs.drop i)
 |_,_,0,h=>h
 |r :: S,h :: hs,i+1,k=>clnFits.drop i k.1
 | [],_,i+1,h=>by rw[List.drop_nil];trivial
 |r :: S,[],i+1,h=>by
  rw[List.drop_nil];generalize List.drop (i+1) (r :: S)=T;cases T<;>simp[clnFits]
structure CW (w u:Vz) (B W K:Nat) (S:List MR) (hs:Vy) (wd sv hv:Value):Prop where
 box:SB u w.heap.size 135 #[wd,sv,hv]
 rows:Grow u B 93 1 IsSl sv S.length (S.map MR.val)
 heads:Grow u B 3 1 IsI hv hs.length (headsV hs)
 ok:Oks u W K S
 base:∀k,k<w.heap.size->sv.ownBlock≠some k->u.heap[k]?=w.heap[k]?
 o:u.os=w.os/\u.tape=w.tape/\u.output=w.output/\w.heap.size<=u.heap.size
section
variable {w u:Vz} {B W K:Nat} {S:List MR} {hs:Vy} {wd sv hv:Value}
theorem CW.below{c:Vz}(h:CW w u B W K S hs wd sv hv)(a:Bl u c):CW w c B W K S hs wd sv hv:=
 ⟨h.box.below a h.box.lt,h.rows.below a,h.heads.below a,h.ok.fr (Fr.of_below a),fun k hk b=>(a.block k (Nat.lt_of_lt_of_le hk h.o.2.2.2)).trans (h.base k hk b),⟨a.os.trans h.o.1,a.tape.trans h.o.2.1,a.output.trans h.o.2.2.1,Nat.le_trans h.o.2.2.2 a.size⟩⟩
theorem CW.set{g cap m n:Nat}{r:MR}(h:CW w u B W K S hs wd (.slice (some ⟨g,0,none⟩) n cap) hv)(f:n=S.length)(i:m<S.length)(j:MOk u W K r):CW w (u.setCell ⟨g,m,none⟩ r.val) B W K (S.set m r) hs wd (.slice (some ⟨g,0,none⟩) n cap) hv:=by
 subst f;have a:Only g u (u.setCell ⟨g,m,none⟩ r.val):=(Only.refl _ _).setCell _ _;obtain⟨C,c1,c2⟩:=h.rows.sb (g:=g) rfl;have b:=Fr.of_only a c1 (IsSl.plain c2);refine⟨h.box.only a (h.box.unlike c1 row_stairs.symm),?_,h.heads.keep fun k hk=>a.block k (h.heads.lt hk).2 ?_,fun x d=>?_,fun k hk c=>?_,⟨a.os.trans h.o.1,a.tape.trans h.o.2.1,a.output.trans h.o.2.2.1,Nat.le_trans h.o.2.2.2 a.size⟩⟩
 . rw[List.length_set,List.map_set]
   exact h.rows.set i ⟨_,_,_,rfl⟩
 . obtain⟨D,d1,_⟩:=h.heads.sb hk
   exact d1.unlike c1 int_row
 .
  rcases List.mem_or_eq_of_mem_set d with d|rfl
  . exact(h.ok x d).fr b
  . exact j.fr b
 .
  refine(a.block k (Nat.lt_of_lt_of_le hk h.o.2.2.2) (fun e=>c ?_)).trans (h.base k hk c);subst e;rfl
end
theorem Qv1(x:Rat):(0:Rat) / x=0:=by grind
theorem Qv2(x:Rat):(0:Rat) - 0*x=0:=by grind
theorem Grow.crow{w:Vz}{B sz l cap:Nat}{e:Vr}{K:Value->Prop}{a:Vx}{n:Nat}{xs:Vv}(h:Grow w B e sz K (.slice a l cap) n xs):CRow w a xs:=by
 obtain⟨d,cap',e,_,b,_⟩:=h.slice;injection e with c _ _
 rw[c];exact b
theorem Qv3{r t:Vec}{h:Nat}{T:List Vec}{hs:Vy}(a:r h=0):red r (t :: T) (h :: hs)=red r T hs:=by
 have e:(fun i=>r i - t i*r h)=r:=by funext i;rw[a];grind
 simp only[red];rw[e]
theorem redFits.next{K:Nat}{r t:Vec}{h:Nat}{T:List Vec}{hs:Vy}(k:redFits K r (t :: T) (h :: hs)):redFits K (fun i=>r i - t i*r h) T hs:=k.2
theorem redFits.skip{K:Nat}{r t:Vec}{h:Nat}{T:List Vec}{hs:Vy}(k:redFits K r (t :: T) (h :: hs))(a:r h=0):redFits K r T hs:=by
 have e:(fun i=>r i - t i*r h)=r:=by funext i;rw[a];grind
 have:=k.2;rw[e] at this;exact this
theorem Qdk{α:Type}{l:List α}{i:Nat}{x:α}(h:l[i]?=some x):l.drop i=x :: l.drop (i+1):=by
 obtain⟨a,b⟩:=gZ h;rw[List.drop_eq_getElem_cons a,b]
theorem Qv4{K:Nat}{S a:List MR}{hs:Vy}{j h:Nat}{r:MR}(hl:S.length=hs.length)(e:S[j]?=some r)(f:hs[j]?=some h)(g:(a.drop (j+1)).map MR.q=cln ((S.map MR.q).drop (j+1)) (hs.drop (j+1)))(k:clnFits K (S.map MR.q) hs):
 cln ((S.map MR.q).drop j) (hs.drop j)=red (fun i=>r.q i / r.q h) ((a.drop (j+1)).map MR.q) (hs.drop (j+1)) :: (a.drop (j+1)).map MR.q/\redFits K (fun i=>r.q i / r.q h) ((a.drop (j+1)).map MR.q) (hs.drop (j+1)):=by
 have b:(S.map MR.q).drop j=r.q :: (S.map MR.q).drop (j+1):=Qdk (by rw[List.getElem?_map,e];rfl);have c:=Qdk f;have d:=k.drop j;rw[b,c] at d;rw[b,c,g];exact⟨rfl,d.2⟩
theorem Qf4:∀(W:Nat) (r s x:Vec),dot W (fun i=>r i+s i) x=dot W r x+dot W s x
 |0,_,_,_=>by simp only[dot];grind
 |W+1,r,s,x=>by simp only[dot,Qf4 W r s x];grind
theorem Qc7:∀(W:Nat) (r x:Vec) (q:Rat),dot W (fun i=>r i*q) x=dot W r x*q
 |0,_,_,_=>by simp[dot]
 |W+1,r,x,q=>by simp only[dot,Qc7 W r x q];grind
def Span(k:Nat)(R:Nat->Vec)(v:Vec):Prop:=∃l:Vec,∀j,v j=dot k l (fun i=>R i j)
def MI(W N:Nat)(M:List Vec)(c:Nat)(L S:List Vec)(hs:Vy):Prop:=
 hs.length<=c/\(hs.length+L.length<=N∨hs.length<=N/\W<=N)/\(∀v,v∈ L->∀i,W<=i->v i=0)/\
 ∃R:Nat->Vec,(∀i,i<hs.length->R i∈ M)/\
  (∀m:Vec,(∀h,h∈ hs->dot hs.length m (fun i=>R i h)=0)->∀i,i<hs.length->m i=0)/\
  (∀v,v∈ L->∃r,r∈ M/\∃l:Vec,(∀j,v j=r j - dot hs.length l (fun i=>R i j))/\∀h,h∈ hs->v h=0)/\∀s,s∈ S->Span hs.length R s
theorem MI.start(W N:Nat)(M:List Vec)(b:∀v,v∈ M->∀i,W<=i->v i=0)(e:M.length<=N∨W<=N):MI W N M 0 M [] []:=
 ⟨Nat.le_refl _,by simp only[List.length_nil];omega,b,fun _ _=>0,fun i a=>absurd a (by simp),fun m _ i a=>absurd a (by simp),fun v c=>⟨v,c,fun _=>0,fun j=>by simp[dot,Rat.sub_eq_add_neg,Rat.add_zero],fun h d=>by cases d⟩,fun s hs=>by cases hs⟩
theorem MI.skip{W N:Nat}{M:List Vec}{c:Nat}{L S:List Vec}{hs:Vy}(h:MI W N M c L S hs):MI W N M (c+1) L S hs:=by
 obtain⟨e,a,b,d⟩:=h;exact⟨by omega,a,b,d⟩
theorem MI.step{W N:Nat}{M:List Vec}{c j:Nat}{L S:List Vec}{hs:Vy}{s:Vec}(h:MI W N M c L S hs)(E:L[j]?=some s)(x:s c≠0):
 MI W N M (c+1) ((L.eraseIdx j).map (lessBy c s)) (S++ [s]) (hs++ [c]):=by
 obtain⟨h1,h2,y,R,O,P,F,Q⟩:=h;have k:s∈ L:=mO E;have z:j<L.length:=(gZ E).1;have A:((L.eraseIdx j).map (lessBy c s)).length=L.length - 1:=by rw[List.length_map,List.length_eraseIdx_of_lt z]
 obtain⟨r,T,l,hl,G⟩:=F s k;have a:(hs++ [c]).length=hs.length+1:=by simp
 have U:c<W:=bC fun hn=>x (y s k c (by omega))
 have b:∀(m:Vec) (i:Nat),dot (hs.length+1) m (fun t=>(if t=hs.length then r else R t) i)=dot hs.length m (fun t=>R t i)+m hs.length*r i:=fun m i=>by
  simp only[dot];rw[Qai hs.length m _ m (fun t=>R t i) (fun t o=>by rw[if_neg (by omega)])];simp
 refine⟨by rw[a];omega,by rw[a,A];omega,?_,fun t=>if t=hs.length then r else R t,?_,?_,?_,?_⟩
 .
  intro v e i p;obtain⟨u,B,rfl⟩:=List.mem_map.1 e;have n:=List.mem_of_mem_eraseIdx B;simp only[lessBy];rw[y u n i p,y s k i p];grind
 .
  intro i p;rw[a] at p;by_cases w:i=hs.length
  . show (if i=hs.length then r else R i)∈ M
    rw[if_pos w];exact T
  . show (if i=hs.length then r else R i)∈ M
    rw[if_neg w];exact O i (by omega)
 .
  intro m H;rw[a] at H ⊢;have q:∀h,h∈ hs++ [c]->dot hs.length m (fun t=>R t h)+m hs.length*r h=0:=fun h d=>by rw[<-b];exact H h d
  have f:∀i,r i=s i+dot hs.length l (fun t=>R t i):=fun i=>by rw[hl i];grind
  have g:∀h,dot hs.length (fun t=>m t+l t*m hs.length) (fun t=>R t h)=dot hs.length m (fun t=>R t h)+dot hs.length l (fun t=>R t h)*m hs.length:=fun h=>by rw[Qf4,Qc7]
  have hk:=P (fun t=>m t+l t*m hs.length) (fun h d=>by
   rw[g];have V:=q h (by simp[d]);rw[f h,G h d] at V
   grind)
  have X:=q c (by simp);rw[f c] at X;have Y:dot hs.length (fun t=>m t+l t*m hs.length) (fun t=>R t c)=0:=Qbm _ _ _ (fun t o=>by rw[hk t o];grind);rw[g] at Y;have Z:m hs.length*s c=0:=by grind
  have I:m hs.length=0:=by
   rcases Rat.mul_eq_zero.1 Z with h|h
   . exact h
   . exact absurd h x
  intro i p;by_cases w:i=hs.length
  . rw[w];exact I
  .
   have:=hk i (by omega);simp only[I] at this;grind
 .
  intro v e;obtain⟨u,B,rfl⟩:=List.mem_map.1 e;have n:=List.mem_of_mem_eraseIdx B;obtain⟨r',C,J,D,f⟩:=F u n;refine⟨r',C,fun t=>if t=hs.length then u c / s c else J t - l t*(u c / s c),fun i=>?_,fun h d=>?_⟩
  .
   rw[a,b];rw[Qai hs.length _ _ (fun t=>J t - l t*(u c / s c)) (fun t=>R t i) (fun t o=>by rw[if_neg (by omega)]),Qbn];simp only[lessBy,if_true];rw[D i,hl i];grind
  .
   simp only[lessBy];rcases List.mem_append.1 d with d|d
   . rw[f h d,G h d];grind
   .
    simp only[List.mem_singleton] at d;subst d;rw[Rat.div_def,Rat.mul_comm (u h),<-Rat.mul_assoc,Rat.mul_inv_cancel _ x];grind
 .
  intro v e;rw[a];rcases List.mem_append.1 e with e|e
  .
   obtain⟨K,e0⟩:=Q v e;refine⟨fun t=>if t=hs.length then 0 else K t,fun i=>?_⟩;rw[b,Qai hs.length _ _ K (fun t=>R t i) (fun t o=>by rw[if_neg (by omega)]),e0 i];simp only[if_true];grind
  .
   simp only[List.mem_singleton] at e;subst e;refine⟨fun t=>if t=hs.length then 1 else l t*(-1),fun i=>?_⟩;rw[b,Qai hs.length _ _ (fun t=>l t*(-1)) (fun t=>R t i) (fun t o=>by rw[if_neg (by omega)]),Qc7,hl i];simp only[if_true];grind
theorem Qf5:∀(n:Nat) (u x:Nat->Int),((Sg.isum n (fun j=>u j*x j):Int):Rat)=dot n (fun j=>(x j:Rat)) (fun j=>(u j:Rat))
 |0,_,_=>by simp[Sg.isum,dot]
 |n+1,u,x=>by
  simp only[Sg.isum,dot];rw[Rat.intCast_add,Rat.intCast_mul,Qf5 n u x];grind
theorem Qf6:∀(W:Nat) (r x:Vec) (q:Rat),dot W r (fun i=>x i*q)=dot W r x*q
 |0,_,_,_=>by simp[dot]
 |W+1,r,x,q=>by simp only[dot,Qf6 W r x q];grind
theorem Qf7{v:Rat}{Z y:Int}{d K:Nat}(c:y≠0)(f:0<d)(e:v*((y:Rat)*(d:Rat))=(Z:Rat))(q:Z.natAbs<2 ^ K)(g:y.natAbs*d<2 ^ K)(i:0<K):Fits v K:=by
 have j:(y:Rat)≠0:=by
  intro h;exact c (Rat.intCast_inj.1 (by rw[h];rfl))
 have k:(d:Rat)≠0:=by
  intro h;have:d=0:=Rat.natCast_inj.1 (by rw[h];rfl);omega
 have l:∃a:Int,a.natAbs=Z.natAbs/\v*((y.natAbs*d:Nat):Rat)=(a:Rat):=by
  rw[Rat.natCast_mul];rcases Int.natAbs_eq y with b|b
  .
   refine⟨Z,rfl,?_⟩;rw[<-e];have:(y:Rat)=((y.natAbs:Nat):Rat):=by
    rw[<-Rat.intCast_natCast,<-b]
   rw[this]
  .
   refine⟨-Z,Int.natAbs_neg Z,?_⟩;have:(y:Rat)= -((y.natAbs:Nat):Rat):=by
    rw[<-Rat.intCast_natCast,<-Rat.intCast_neg,<-b]
   rw[Rat.intCast_neg,<-e,this];grind
 obtain⟨a,r,m⟩:=l;have n:0<y.natAbs*d:=Nat.mul_pos (by omega) f;have o:((y.natAbs*d:Nat):Rat)≠0:=by
  intro h;have:y.natAbs*d=0:=Rat.natCast_inj.1 (by rw[h];rfl);omega
 have p:v=mkRat a (y.natAbs*d):=by
  rw[Rat.mkRat_eq_div,<-m,Rat.div_def,Rat.mul_assoc,Rat.mul_inv_cancel _ o,Rat.mul_one]
 rw[p];exact Fits.mk (by omega) g i
theorem MI.fit{W0 W a K:Nat}{M:List Vec}{D:Nat->Nat}(U:0<a)(C:∀j,0<D j/\D j<=a)(hM:∀r,r∈ M->∀j,∃z:Int,r j*(D j:Rat)=(z:Rat)/\z.natAbs<=a)
 (hK:(W+1)*(a*(2*((W+1)*a)) ^ W)<2 ^ K) (E:0<K) {c:Nat} {L S:List Vec} {hs:Vy} (h:MI W0 W M c L S hs):∀v,v∈ L->∀j,Fits (v j) K:=by
 obtain⟨_,F,_,R,V,G,hL,_⟩:=h;intro v hv j;obtain⟨r,hr,l,hl,H⟩:=hL v hv;obtain⟨k,hk⟩:=nm hs.length;rw[hk] at F V G hl;replace F:k<=W:=by omega
 have I:∀t,t<k+1->(if t=k then r else R t)∈ M:=fun t b=>by
  by_cases A:t=k
  . rw[if_pos A];exact hr
  . rw[if_neg A];exact V t (by omega)
 have d:∀t,t<k+1->∀i,(if t=k then r else R t) i*(D i:Rat)=((((if t=k then r else R t) i*(D i:Rat)).num:Int):Rat)/\(((if t=k then r else R t) i*(D i:Rat)).num).natAbs<=a:=fun t b i=>by
  obtain⟨z,e,H⟩:=hM _ (I t b) i;rw[e,Rat.num_intCast];exact⟨rfl,H⟩
 obtain⟨y,⟨X,aa,o⟩,hy,s⟩:=Sg.siegel k a U (fun t i=>((if i=k then r else R i) (hs.getD t 0)*(D (hs.getD t 0):Rat)).num) (fun t i b hi=>by
  have:=(d i hi (hs.getD t 0)).2
  omega)
 have u:∀i,dot (k+1) (fun t=>(y t:Rat)) (fun t=>(if t=k then r else R t) i)=dot k (fun t=>(y t:Rat)) (fun t=>R t i)+(y k:Rat)*r i:=fun i=>by
  simp only[dot];rw[Qai k _ _ (fun t=>(y t:Rat)) (fun t=>R t i) (fun t b=>by rw[if_neg (by omega)])];simp
 have m:∀i,((Sg.isum (k+1) (fun t=>((if t=k then r else R t) i*(D i:Rat)).num*y t):Int):Rat)=(dot k (fun t=>(y t:Rat)) (fun t=>R t i)+(y k:Rat)*r i)*(D i:Rat):=fun i=>by
  rw[Qf5,<-u,<-Qf6];exact Qai _ _ _ _ _ (fun t b=>by rw[<-(d t b i).1])
 have J:∀i,(D i:Rat)≠0:=fun i h=>by
  have p:D i=0:=Rat.natCast_inj.1 (by rw[h];rfl);have:=(C i).1;omega
 have f:∀h,h∈ hs->dot k (fun t=>(y t:Rat)) (fun t=>R t h)+(y k:Rat)*r h=0:=fun h q=>by
  obtain⟨t,b,e⟩:=List.mem_iff_getElem.1 q;have p:=hy t (by omega);have N:hs.getD t 0=h:=by rw[List.getD_eq_getElem?_getD,gE b,e];rfl
  simp only[N] at p;have B:=m h;rw[p] at B;rcases Rat.mul_eq_zero.1 B.symm with O|O
  . exact O
  . exact absurd O (J h)
 have P:y k≠0:=by
  intro Z;have w:=G (fun t=>(y t:Rat)) (fun h q=>by
   have:=f h q;rw[Z,show ((0:Int):Rat)=0 from rfl] at this
   grind)
  by_cases A:X=k
  . rw[A] at o;exact o Z
  . have:=w X (by omega)
    exact o (Rat.intCast_inj.1 (by rw[this];rfl))
 have n:∀i,dot k (fun t=>(y t:Rat)+l t*(y k:Rat)) (fun t=>R t i)=dot k (fun t=>(y t:Rat)) (fun t=>R t i)+dot k l (fun t=>R t i)*(y k:Rat):=fun i=>by rw[Qf4,Qc7]
 have x:=G (fun t=>(y t:Rat)+l t*(y k:Rat)) (fun h q=>by
  rw[n];have e1:=f h q;have N:=hl h;rw[H h q] at N
  grind)
 have Q:dot k (fun t=>(y t:Rat)+l t*(y k:Rat)) (fun t=>R t j)=0:=Qbm _ _ _ (fun t b=>by rw[x t b];grind);rw[n] at Q;have T:v j*((y k:Rat)*(D j:Rat))=((Sg.isum (k+1) (fun t=>((if t=k then r else R t) j*(D j:Rat)).num*y t):Int):Rat):=by
  rw[m,hl j];grind
 have g:(2*((k+1)*a)) ^ k<=(2*((W+1)*a)) ^ W:=
  Nat.le_trans (Nat.pow_le_pow_left (Nat.mul_le_mul_left _ (Nat.mul_le_mul_right _ (by omega))) k) (Nat.pow_le_pow_right (Nat.mul_pos (by omega) (Nat.mul_pos (by omega) U)) F)
 obtain⟨Y,hY⟩:=nm ((2*((W+1)*a)) ^ W);rw[hY] at g hK;have hb:=Sg.isum_le (k+1) (fun t=>((if t=k then r else R t) j*(D j:Rat)).num*y t) (-((a*Y:Nat):Int)) ((a*Y:Nat):Int) (fun t b=>by
  have p:=(d t b j).2;have B:(((if t=k then r else R t) j*(D j:Rat)).num*y t).natAbs<=a*Y:=by
   rw[Int.natAbs_mul];exact Nat.mul_le_mul p (Nat.le_trans (s t) g)
  omega)
 have ab:(k+1)*(a*Y)<=(W+1)*(a*Y):=Nat.mul_le_mul_right _ (by omega);refine Qf7 P (C j).1 T ?_ ?_ E
 . rw[Int.mul_neg,<-Int.natCast_mul] at hb
   omega
 .
  have p:(y k).natAbs*D j<=Y*a:=Nat.mul_le_mul (Nat.le_trans (s k) g) (C j).2;have B:a*Y<=(W+1)*(a*Y):=Nat.le_mul_of_pos_left _ (by omega);rw[Nat.mul_comm Y a] at p;omega
theorem Span.less{k:Nat}{R:Nat->Vec}{v u:Vec}(h:Span k R v)(a:Span k R u)(q:Rat):Span k R (fun i=>v i - u i*q):=by
 obtain⟨l,e⟩:=h;obtain⟨b,c⟩:=a;refine⟨fun t=>l t - b t*q,fun j=>?_⟩
 show v j - u j*q=_
 rw[Qbn,e j,c j];grind
theorem Span.over{k:Nat}{R:Nat->Vec}{v:Vec}(h:Span k R v)(q:Rat):Span k R (fun i=>v i / q):=by
 obtain⟨l,e⟩:=h;refine⟨fun t=>l t / q,fun j=>?_⟩
 show v j / q=_
 rw[Qc6,e j]
theorem Qf8{k:Nat}{R:Nat->Vec}:∀(T:List Vec) (hs:Vy) (r:Vec),Span k R r->(∀t,t∈ T->Span k R t)->Span k R (red r T hs)
 |t :: T,h :: hs,r,hr,hT=>by
  simp only[red];exact Qf8 T hs _ (hr.less (hT t (by simp)) _) (fun t a=>hT t (by simp[a]))
 | [],_,r,hr,hT=>by unfold red;exact hr
 |_ :: _,[],r,hr,hT=>by unfold red;exact hr
theorem Qjk{k:Nat}{R:Nat->Vec}:∀(S:List Vec) (hs:Vy),(∀s,s∈ S->Span k R s)->∀v,v∈ cln S hs->Span k R v
 |r :: S,h :: hs,hS,v,a=>by
  have b:=Qjk S hs (fun s hs=>hS s (by simp[hs]));simp only[cln,List.mem_cons] at a;rcases a with rfl|a
  . exact Qf8 _ _ _ ((hS r (by simp)).over _) b
  . exact b v a
 | [],_,_,v,a=>by unfold cln at a;cases a
 |_ :: _,[],_,v,a=>by unfold cln at a;cases a
theorem Qf9{W a K k:Nat}{M:List Vec}{D:Nat->Nat}{R:Nat->Vec}{H:Vy}(ha:0<a)(N:∀j,0<D j/\D j<=a)(hM:∀r,r∈ M->∀j,∃z:Int,r j*(D j:Rat)=(z:Rat)/\z.natAbs<=a)
 (hK:(W+1)*(a*(2*((W+1)*a)) ^ W)*a<2 ^ K) (P:0<K) (Q:H.length=k) (hW:k<=W) (hR:∀i,i<k->R i∈ M)
 (hI:∀m:Vec,(∀h,h∈ H->dot k m (fun i=>R i h)=0)->∀i,i<k->m i=0) {v:Vec} (hv:Span k R v) {h:Nat} (hh:h∈ H) (A:v h=1) (h0:∀x,x∈ H->x≠h->v x=0) (j:Nat):Fits (v j) K:=by
 obtain⟨B,C,hH⟩:=List.append_of_mem hh;obtain⟨n,hn⟩:=nm ((B++C).length);have S:k=n+1:=by rw[<-Q,hH,<-hn];simp;omega
 subst S;obtain⟨l,hl⟩:=hv;have c:∀t,t<n+1->∀i,R t i*(D i:Rat)=(((R t i*(D i:Rat)).num:Int):Rat)/\((R t i*(D i:Rat)).num).natAbs<=a:=fun t p i=>by
  obtain⟨z,e,hz⟩:=hM _ (hR t p) i;rw[e,Rat.num_intCast];exact⟨rfl,hz⟩
 obtain⟨y,⟨j0,T,U⟩,hy,V⟩:=Sg.siegel n a ha (fun t i=>(R i ((B++C).getD t 0)*(D ((B++C).getD t 0):Rat)).num) (fun t i p hi=>by
  have:=(c i hi ((B++C).getD t 0)).2
  omega)
 have f:∀i,((Sg.isum (n+1) (fun t=>(R t i*(D i:Rat)).num*y t):Int):Rat)=dot (n+1) (fun t=>(y t:Rat)) (fun t=>R t i)*(D i:Rat):=fun i=>by
  rw[Qf5,<-Qf6];exact Qai _ _ _ _ _ (fun t p=>by rw[<-(c t p i).1])
 have F:∀i,(D i:Rat)≠0:=fun i h=>by
  have A:D i=0:=Rat.natCast_inj.1 (by rw[h];rfl);have:=(N i).1;omega
 have o:∀x,x∈ B++C->dot (n+1) (fun t=>(y t:Rat)) (fun t=>R t x)=0:=fun x b=>by
  obtain⟨t,p,e⟩:=List.mem_iff_getElem.1 b;have A:=hy t (by omega);have e2:(B++C).getD t 0=x:=by rw[List.getD_eq_getElem?_getD,gE p,e];rfl
  simp only[e2] at A;have X:=f x;rw[A] at X;rcases Rat.mul_eq_zero.1 X.symm with q|q
  . exact q
  . exact absurd q (F x)
 have s:∀x,x∈ H->x=h∨x∈ B++C:=fun x b=>by
  rw[hH] at b;simp only[List.mem_append,List.mem_cons] at b ⊢;rcases b with b|b|b
  . exact .inr (.inl b)
  . exact .inl b
  . exact .inr (.inr b)
 obtain⟨g,G⟩:∃g:Vec,∀i,g i=dot (n+1) (fun t=>(y t:Rat)) (fun t=>R t i):=⟨fun i=>dot (n+1) (fun t=>(y t:Rat)) (fun t=>R t i),fun _=>rfl⟩;have aa:g h≠0:=by
  intro e;have:=hI (fun t=>(y t:Rat)) (fun x b=>by
   rcases s x b with rfl|b
   . rw[<-G];exact e
   . exact o x b) j0 T
  exact U (Rat.intCast_inj.1 (by rw[this];rfl))
 have I:=hI (fun t=>(y t:Rat) - l t*g h) (fun x b=>by
  rw[Qbn,<-G,<-hl];by_cases he:x=h
  . rw[he,A];grind
  .
   rcases s x b with E|E
   . exact absurd E he
   . rw[G,o x E,h0 x b he];grind)
 have ab:g j=v j*g h:=by
  have q:dot (n+1) (fun t=>(y t:Rat) - l t*g h) (fun t=>R t j)=0:=Qbm _ _ _ (fun t p=>by rw[I t p];grind);rw[Qbn,<-G,<-hl] at q;grind
 have u:(2*((n+1)*a)) ^ n<=(2*((W+1)*a)) ^ W:=
  Nat.le_trans (Nat.pow_le_pow_left (Nat.mul_le_mul_left _ (Nat.mul_le_mul_right _ (by omega))) n) (Nat.pow_le_pow_right (Nat.mul_pos (by omega) (Nat.mul_pos (by omega) ha)) (by omega))
 obtain⟨Y,hY⟩:=nm ((2*((W+1)*a)) ^ W);rw[hY] at u hK;have O:∀i,(Sg.isum (n+1) (fun t=>(R t i*(D i:Rat)).num*y t)).natAbs<=(W+1)*(a*Y):=fun i=>by
  have O:=Sg.isum_le (n+1) (fun t=>(R t i*(D i:Rat)).num*y t) (-((a*Y:Nat):Int)) ((a*Y:Nat):Int) (fun t p=>by
   have A:=(c t p i).2;have X:((R t i*(D i:Rat)).num*y t).natAbs<=a*Y:=by
    rw[Int.natAbs_mul];exact Nat.mul_le_mul A (Nat.le_trans (V t) u)
   omega)
  have af:(n+1)*(a*Y)<=(W+1)*(a*Y):=Nat.mul_le_mul_right _ (by omega);rw[Int.mul_neg,<-Int.natCast_mul] at O;omega
 have ej:=f j;have J:=f h;rw[<-G] at ej J;have bj:=O j;have bh:=O h;obtain⟨Gj,ad⟩:∃z,Sg.isum (n+1) (fun t=>(R t j*(D j:Rat)).num*y t)=z:=⟨_,rfl⟩;obtain⟨Gh,ae⟩:∃z,Sg.isum (n+1) (fun t=>(R t h*(D h:Rat)).num*y t)=z:=⟨_,rfl⟩;rw[ad] at ej bj;rw[ae] at J bh;have L:Gh≠0:=by
  intro e;rw[e] at J;rcases Rat.mul_eq_zero.1 J.symm with q|q
  . exact aa q
  . exact F h q
 have w:∀x d:Nat,x<=(W+1)*(a*Y)->d<=a->x*d<2 ^ K:=fun x d b hd=>Nat.lt_of_le_of_lt (Nat.mul_le_mul b hd) hK
 refine Qf7 (Z:=Gj*(D h:Int)) L (N j).1 ?_ ?_ ?_ P
 . rw[Rat.intCast_mul,Rat.intCast_natCast,ej,J,ab]
   grind
 . rw[Int.natAbs_mul,Int.natAbs_natCast]
   exact w _ _ bj (N h).2
 . exact w _ _ bh (N j).2
theorem Qjl{K B j:Nat}(hB:0<B):∀{T:List Vec} {hs:Vy} {J lo a:Nat} {r:Vec},Cln lo a T hs->(∀t,t∈ T->∀i,Fits (t i) B)->(∀i,Fits (r i) J)->(∀h,h∈ hs->Fits (r h) j)->J+T.length*(B+j+1)<=K->redFits K r T hs/\∀i,Fits (red r T hs i) (J+T.length*(B+j+1))
 | [],[],J,lo,a,r,hc,hT,hr,hh,hK=>by
   simp only[List.length_nil,Nat.zero_mul,Nat.add_zero] at hK ⊢;unfold redFits red;exact⟨fun i=>(hr i).mono hK,hr⟩
 |t :: T,h :: hs,J,lo,a,r,⟨c1,c2,c3,c4,c5⟩,hT,hr,hh,hK=>by
  have d:(t :: T).length*(B+j+1)=T.length*(B+j+1)+(B+j+1):=by rw[List.length_cons,Nat.succ_mul]
  rw[d] at hK ⊢;have e:∀i,Fits (r i - t i*r h) (J+(B+j)+1):=fun i=>(hr i).sub ((hT t (by simp) i).mul (hh h (by simp)) hB)
  have b:=Qjl (K:=K) (j:=j) hB (J:=J+(B+j)+1) (r:=fun i=>r i - t i*r h) c5 (fun t f=>hT t (by simp[f])) e (fun x c=>by
   have:r x - t x*r h=r x:=by rw[c4 x c];grind
   rw[this]
   exact hh x (by simp[c])) (by omega)
  refine⟨⟨fun i=>(hr i).mono (by omega),b.1⟩,fun i=>?_⟩;have:=b.2 i;rw[show J+(B+j)+1+T.length*(B+j+1)=J+(T.length*(B+j+1)+(B+j+1)) by omega] at this;exact this
 | [],_ :: _,_,_,_,_,hc,_,_,_,_=>absurd hc (by simp[Cln])
 |_ :: _,[],_,_,_,_,hc,_,_,_,_=>absurd hc (by simp[Cln])
theorem Qjm{K a k n:Nat}{R:Nat->Vec}{H:Vy}(w:0<a)(A:a+n*(a+a+1)<=K)
 (c:∀(v:Vec) (h:Nat),Span k R v->h∈ H->v h=1->(∀x,x∈ H->x≠h->v x=0)->∀j,Fits (v j) a):
 ∀{S:List Vec} {hs:Vy} {lo l:Nat} {P:Vy},H=P++hs->(∀p,p∈ P->p<lo)->Ech lo l S hs->S.length<=n->(∀s,s∈ S->Span k R s)->(∀(t:Nat) (s:Vec) (h:Nat),S[t]?=some s->hs[t]?=some h->∀i,Fits (s i / s h) a)->
  clnFits K S hs/\∀v,v∈ cln S hs->∀i,Fits (v i) a
 | [],[],lo,l,P,hH,hP,he,hn,hS,hf=>by
   unfold clnFits cln;exact⟨trivial,fun v d=>by cases d⟩
 |r :: S,h :: hs,lo,l,P,hH,hP,he,hn,hS,hf=>by
  have m:=he;obtain⟨L,M,N,o⟩:=m;have B:S.length+1<=n:=by simpa using hn
  have q:=Qjm w A c (P:=P++ [h]) (by rw[hH];simp) (fun p f=>by
   rcases List.mem_append.1 f with f|f
   . have:=hP p f;omega
   . simp only[List.mem_singleton] at f;omega) o (by omega) (fun s hs=>hS s (by simp[hs])) (fun t s x e C=>hf (t+1) s x (by simpa using e) (by simpa using C))
  have D:=(Qci 0 o).1;have g:=(Qci 0 he).1;have y:∀i,Fits (r i / r h) a:=hf 0 r h rfl rfl;have z:=Qf1 S hs o.len;have O:(cln S hs).length*(a+a+1)<=n*(a+a+1):=Nat.mul_le_mul_right _ (by omega);have E:=Qjl (K:=K) (j:=a) w (J:=a) (r:=fun i=>r i / r h) D q.2 y (fun x _=>y x) (by omega);refine⟨?_,fun v d=>?_⟩
  . unfold clnFits
    exact⟨q.1,E.1⟩
  .
   simp only[cln] at g d;obtain⟨Q,F,G,I,T⟩:=g;rcases List.mem_cons.1 d with d|d
   .
    subst d;refine c _ h (Qf8 _ _ _ ((hS r (by simp)).over _) (Qjk S hs (fun s hs=>hS s (by simp[hs])))) (by rw[hH];simp) F (fun x b u=>?_);rw[hH] at b;rcases List.mem_append.1 b with b|b
    . exact G x (by have:=hP x b;omega)
    .
     rcases List.mem_cons.1 b with b|b
     . exact absurd b u
     . exact I x b
   . exact q.2 v d
 | [],_ :: _,_,_,_,_,_,he,_,_,_=>absurd he (by simp[Ech])
 |_ :: _,[],_,_,_,_,_,he,_,_,_=>absurd he (by simp[Ech])
def MJ(W N K2:Nat)(M:List Vec)(c:Nat)(L S:List Vec)(hs:Vy):Prop:=
 Elim W M c L S hs/\MI W N M c L S hs/\∀(t:Nat) (s:Vec) (h:Nat),S[t]?=some s->hs[t]?=some h->∀i,Fits (s i / s h) K2
theorem MJ.start(W N a:Nat)(M:List Vec)(b:∀v,v∈ M->∀i,W<=i->v i=0)(c:M.length<=N∨W<=N):MJ W N a M 0 M [] []:=
 ⟨Elim.start W M,MI.start W N M b c,fun t s h e=>by simp at e⟩
theorem MJ.going{w W a K k:Nat}{M:List Vec}{D:Nat->Nat}(p:0<a)(q:∀j,0<D j/\D j<=a)(v:∀r,r∈ M->∀j,∃z:Int,r j*(D j:Rat)=(z:Rat)/\z.natAbs<=a)
 (y:(W+1)*(a*(2*((W+1)*a)) ^ W)<2 ^ K) (l:0<K) (m:(W+1)*(a*(2*((W+1)*a)) ^ W)*a<2 ^ k) (A:0<k):Going K (MJ w W k M) where
 fit:=fun h=>MI.fit p q v y l h.2.1
 skip:=fun h b=>⟨h.1.skip b,h.2.1.skip,h.2.2⟩
 step:=fun {c j L S hs s} h g b=>by
  refine⟨h.1.step g b,h.2.1.step g b,fun t u x e d i=>?_⟩;have hl:=h.1.1.len;by_cases B:t<S.length
  .
   rw[List.getElem?_append_left B] at e;rw[List.getElem?_append_left (by omega)] at d;exact h.2.2 t u x e d i
  .
   have n:t=S.length:=by
    have:=(gZ e).1;simp at this;omega
   subst n;rw[List.getElem?_append_right (by omega)] at e;rw[List.getElem?_append_right (by omega)] at d;simp at e;rw[hl] at d;simp at d;subst e d;obtain⟨_,_,_,_,_,_,C,_⟩:=h.2.1;obtain⟨_,_,_,_,E⟩:=C s (mO g);obtain⟨_,J,_,R,F,G,_,I⟩:=h.2.1.step g b;refine Qf9 (H:=hs++ [c]) p q v m A rfl (by omega) F G ((I s (by simp)).over (s c)) (h:=c) (by simp) ?_ (fun x f o=>?_) i
   . rw[Rat.div_def,Rat.mul_inv_cancel _ b]
   .
    rcases List.mem_append.1 f with f|f
    .
     show s x / s c=0
     rw[E x f,Rat.div_def];grind
    . simp only[List.mem_singleton] at f
      exact absurd f o
theorem MJ.clean{m W a K b:Nat}{M:List Vec}{D:Nat->Nat}(o:0<a)(q:∀j,0<D j/\D j<=a)(s:∀r,r∈ M->∀j,∃z:Int,r j*(D j:Rat)=(z:Rat)/\z.natAbs<=a)
 (d:(W+1)*(a*(2*((W+1)*a)) ^ W)*a<2 ^ b) (g:0<b) (t:b+W*(b+b+1)<=K) {c:Nat} {L S:List Vec} {hs:Vy} (h:MJ m W b M c L S hs):clnFits K S hs/\∀v,v∈ cln S hs->∀i,Fits (v i) b:=by
 obtain⟨l,⟨_,F,_,R,u,w,_,y⟩,A⟩:=h;exact Qjm (H:=hs) (R:=R) (k:=hs.length) (n:=W) g t (fun v x B C e f j=>Qf9 o q s d g rfl (by omega) u w B C e f j) (P:=[]) rfl (fun p E=>by cases E) l.1 (by rw[l.1.len];omega) y A
theorem Qll(B W K:Nat)(S:List MR)(hs:Vy)(sv hv:Value)(wd:Int)(w:Vz)(hr:Grow w B 93 1 IsSl sv S.length (S.map MR.val))(hh:Grow w B 3 1 IsI hv hs.length (headsV hs))(a6:Oks w W K S)(af:S.length=hs.length)(a7:∀h,h∈ hs->h<W)(ag:clnFits K (S.map MR.q) hs)(cs:S.length<=1000)(hW:W<=1000)(a8:0<K)(hK:4*K+1<68719476000):
 Calls prog 84 #[.agg #[.int .i64 wd,sv,hv]] w fun e w'=>e=.returned (.tuple #[])/\∃S':List MR,S'.length=S.length/\S'.map MR.q=cln (S.map MR.q) hs/\CW w w' B W K S' hs (.int .i64 wd) sv hv:=by
 obtain⟨a,cap,rfl,_,_,ah⟩:=hr.slice;obtain⟨a2,C,rfl,_,_,_⟩:=hh.slice;obtain⟨HR,HH,HO,HL,a9,HF,HP⟩:=If hr hh a6 af a7 ag ah;clear hr hh a6 af a7 ag ah;go_enter func84,ntmps84;obtain⟨V,hV⟩:=nm (w.alloc (.cells #[.int .i64 wd,.slice a S.length cap,.slice a2 hs.length C] 135));have l:Bl w V:=by rw[<-hV];exact(Below.refl _ _).alloc lZ _
 have bu:O (CW w V B W K S hs (.int .i64 wd) (.slice a S.length cap) (.slice a2 hs.length C)):=Hi ⟨by rw[<-hV];exact SB.new w _ _,HR.o.below l,HH.o.below l,HO.o.fr (Fr.of_below l),fun k hk _=>l.block k hk,l.os,l.tape,l.output,l.size⟩;have HV:=Hi hV;clear hV l;go_wp2_with fail;rw[HV.o];go_loopw [2] (fun i wr=>∃(k:Nat) (n:List MR),k<=S.length/\i=.int .i64 ((k:Int) - 1)/\n.length=S.length/\(∀p,p<k->n[p]?=S[p]?)/\(n.drop k).map MR.q=cln ((S.map MR.q).drop k) (hs.drop k)/\CW w wr B W K n hs (.int .i64 wd) (.slice a S.length cap) (.slice a2 hs.length C)) (fun i _=>(intOf i+1).toNat)
 case atStart=>
  refine⟨S.length,S,Nat.le_refl _,by go_num,rfl,fun _ _=>rfl,?_,bu.o⟩;rw[List.drop_of_length_le lZ,List.drop_of_length_le (by simp)];rfl
 case round=>
  obtain⟨k,n,hk,rfl,ba,ai,bb,hC⟩:=hrel;obtain⟨c,aj,bc,D⟩:=Ic hC ai bb ba;clear hC ai bb ba;by_cases h0:k=0
  .
   subst h0;go_wp2;go_end0;exact⟨rfl,n,D.o,by have:=bc.o;simpa using this,c.o⟩
  .
   obtain⟨j,rfl⟩:∃j,k=j+1:=⟨k - 1,by omega⟩;have ej:((j+1:Nat):Int) - 1=(j:Int):=by omega
   rw[ej];clear ej h0;obtain⟨g,rfl,bv⟩:=HP.o (by omega);clear bv;obtain⟨r,hr⟩:∃r,S[j]?=some r:=⟨S[j]'(by omega),gE (by omega)⟩;obtain⟨h,hh⟩:∃h,hs[j]?=some h:=⟨hs[j]'(by have:=HL.o;omega),gE (by have:=HL.o;omega)⟩;have ct:=a9.o h (mO hh);have X:n[j]?=some r:=by rw[aj.o j (by omega)];exact hr
   obtain⟨bd,F⟩:=Qv4 HL.o hr hh bc.o HF.o;obtain⟨bw,be⟩:=Ia bd F;have d:=c.o.ok r (mO X);have s:=d.len;obtain⟨e,he⟩:∃e,r.ts[h]?=some e:=⟨r.ts[h]'(by omega),gE (by omega)⟩;obtain⟨rb,ro,Y,bx,d0,d1,d2⟩:=d.row.at he;obtain⟨hv,bf,bz⟩:=d.row.get he;have cu:=d.sz e (mO he);obtain⟨hb,ho,rfl,b3,c2⟩:=c.o.heads.crow.cell j (.int .i64 (h:Nat)) (by simp[headsV,hh]);have c1:wr.cell? ⟨g,j,none⟩=some (.slice r.a r.ts.length r.cap):=c.o.rows.cell (by rw[List.getElem?_map,X];rfl);rw[Y,s] at c1;obtain⟨-,x1,x2,-⟩:=zc c.o.box;have q1:((j:Int)<(S.length:Int)):=by omega
   have q2:((j:Int)<(hs.length:Int)):=by have:=HL.o;omega
   have q3:((h:Int)<(W:Int)):=by omega
   obtain⟨bg,cv,HE,b4,b5⟩:=Id d Y (MR.q_at he) hv bf;have aq:=Hi (fun u (hu:Bl wr u)=>Qve r.a r.cap (2*K) e.k r.ts e.x e.y e.z e.q u (bg.o.row.below hu) (by omega) (b4.o.below hu) b5.o bz (fun t ht=>by have:=bg.o.sz t ht;omega) (by omega));rw[s,Y] at aq;have b6:=Hi X;clear hr hh X bd F d he Y hv bf;go_wp2_with fail;go_region_held3 (fun v=>v.cell? ⟨w.heap.size,1,none⟩=some (.slice (some ⟨g,0,none⟩) S.length cap)/\v.cell? ⟨w.heap.size,2,none⟩=some (.slice (some ⟨hb,ho,none⟩) hs.length C)/\v.cell? ⟨g,j,none⟩=some (.slice (some ⟨rb,ro,none⟩) W r.cap)/\v.cell? ⟨hb,ho+j,none⟩=some (.int .i64 h)/\v.cell? ⟨rb,ro+h*3,none⟩=some e.x/\v.cell? ⟨rb,ro+h*3+1,none⟩=some e.y/\v.cell? ⟨rb,ro+h*3+2,none⟩=some e.z) ((first|(simp [*];done)|go_keep)) (first
    |(
     go_at_call 136;apply cM;apply aq.o;(focus(repeat(first|exact Below.refl _ _|apply Qaq|apply Qar)));rintro e5 w5 ⟨⟨g5,us,rfl,b7,ar,L⟩,au⟩;(first
       |have I:O (Bl wr w5):=Hi au
       |have I:O (Bl wr w5):=Hi (bR.drew.trans au))
     obtain⟨Z,aa⟩:=Ia ar L;obtain⟨y1,y2⟩:=Ja I.o c.o.box.lt x1 x2;have y3:=(I.o.cell (p:=⟨g,j,none⟩) (c.o.rows.lt (g:=g) rfl).2).trans c1;have y4:=ce I.o b3 c2;obtain⟨y5,y6,y7⟩:=Jb I.o bx d0 d1 d2;clear ar L au b7
     skip)
    |fail)
   clear x1 x2 c1 c2 d0 d1 d2 y1 y2 y3 y4 y5 y6 y7;have b8:=Hi (c.o.below I.o);obtain⟨r0,ak,M,al⟩:=MOk.made (v:=fun i=>r.q i / r.q h) (K:=K) Z.o s (by rw[s];exact aa.o) a8 (fun i hi=>by rw[HE.o]) (fun i hi=>by
    show r.q i / r.q h=0
    rw[MR.q_beyond (by omega)]
    exact Qv1 _) (fun i _=>be.o.here i)
   obtain⟨bh,am,bi⟩:=Ib M al ak;clear M al ak Z aa aq c;have N:Value.slice (some ⟨g5,0,none⟩) W W=.slice r0.a W r0.cap:=by
    have:=bi.o;unfold MR.val at this;rw[bh.o.len] at this;exact this.symm
   rw[N];clear N;go_wp2_with fail;go_loopw [3,4] (fun rv i wq=>∃(m:Nat) (b:MR),j+1<=m/\m<=S.length/\i=.int .i64 m/\rv=.slice b.a W b.cap/\MOk wq W K b/\CW w wq B W K n hs (.int .i64 wd) (.slice (some ⟨g,0,none⟩) S.length cap) (.slice (some ⟨hb,ho,none⟩) hs.length C)/\red b.q ((n.drop m).map MR.q) (hs.drop m)=red (fun i=>r.q i / r.q h) ((n.drop (j+1)).map MR.q) (hs.drop (j+1))/\redFits K b.q ((n.drop m).map MR.q) (hs.drop m)) (fun _ i _=>S.length - (intOf i).toNat)
   case atStart=>exact⟨j+1,r0,Nat.le_refl _,hk,by go_num,rfl,bh.o,b8.o,by rw[am.o],by rw[am.o];exact be.o⟩
   case round=>
    obtain⟨m,b,cw,hm,rfl,rfl,E,hC,an,bj⟩:=hrel;obtain⟨c,ab,P,bk⟩:=Ic hC E an bj;clear hC an bj;by_cases cx:m<S.length
    .
     obtain⟨t,ht⟩:∃t,n[m]?=some t:=⟨n[m]'(by have:=D.o;omega),gE (by have:=D.o;omega)⟩;obtain⟨A,ad⟩:∃A,hs[m]?=some A:=⟨hs[m]'(by have:=HL.o;omega),gE (by have:=HL.o;omega)⟩;have Q:=c.o.ok t (mO ht);have cy:=a9.o A (mO ad);have av:=E.len;have b9:=Q.len;obtain⟨f,hf⟩:∃f,b.ts[A]?=some f:=⟨b.ts[A]'(by omega),gE (by omega)⟩;obtain⟨qb,qo,aw,ar,d0,d1,d2⟩:=E.row.at hf;obtain⟨ax,ao,bl⟩:=E.row.get hf;have cz:=E.sz f (mO hf);obtain⟨o1,o2,o3⟩:=ax.one;have s0:=Qao prog o1;have s1:=Qao prog o2;have s2:=Qao prog o3;obtain⟨c0,c3,ca,cr,c2⟩:=c.o.heads.crow.cell m (.int .i64 (A:Nat)) (by simp[headsV,ad]);cases ca
     have c1:wr.cell? ⟨g,m,none⟩=some (.slice t.a t.ts.length t.cap):=c.o.rows.cell (by rw[List.getElem?_map,ht];rfl);rw[b9] at c1;have bm:=(c.o.rows.lt (g:=g) rfl).2;have cb:=c.o.box.lt;obtain⟨-,x1,x2,-⟩:=zc c.o.box;have q4:((m:Int)<(S.length:Int)):=by omega
     have q5:((m:Int)<(hs.length:Int)):=by have:=HL.o;omega
     have q6:((A:Int)<(W:Int)):=by omega
     obtain⟨HT,cc,bn,bo,bp,ay,az⟩:=If Q aw (MR.q_at hf) ax ao (Qdk ht) (Qdk ad);have bq:=Hi (fun u (hu:Bl wr u)=>Qg4 b.a t.a b.cap t.cap (4*K+1) f.k b.ts t.ts f.x f.y f.z f.q u (ab.o.row.below hu) (HT.o.row.below hu) (by omega) (by omega) (bo.o.below hu) bp.o bl (fun x hx y hy=>by have:=ab.o.sz x hx;have:=HT.o.sz y hy;omega) (by omega));rw[av] at bq;obtain⟨cd,X1⟩:=Ia c1 x1;rw[aw];obtain⟨V2,ae⟩:=nm (wr.alloc (.cells #[f.x,f.y,f.z] 141));have a0:=Ua ae;have br:=Uc ae;have cf:=Hi ae;clear ht ad Q hf aw ax ao ae o1 o2 o3 E;go_wp2_with fail;rw[cf.o];go_fit (Qcd (bo.o.below a0.o))
     rintro e' w4 ⟨rfl,a1⟩;have J:=Hi (a0.o.trans (a1.mono a0.o.size));obtain⟨a3,cg,a4⟩:=Ib (c.o.below J.o) (ab.o.fr (Fr.of_below J.o)) (br.o.below a1 br.o.lt);clear a1 c1 c2 d0 d1 d2 s0 s1 s2 x1 x2;rw[<-cc.o];by_cases h0:f.q=0
     .
      rw[decide_eq_true h0];have HZ:=Hi (bn.o.trans h0);clear h0;go_wp2;go_roundw
      case rel=>
       have h1:=P.o;have h2:=bk.o;rw[ay.o,az.o,List.map_cons] at h1 h2;rw[Qv3 HZ.o] at h1;exact⟨m+1,b,by omega,by omega,by go_num,rfl,cg.o,a3.o,h1,h2.skip HZ.o⟩
      case measure=>simp[intOf];omega
     .
      rw[decide_eq_false h0];clear h0;obtain⟨-,y1,-⟩:=zc a3.o.box;have y2:=ce J.o bm cd.o;obtain⟨b0,b1,b2,-⟩:=zc a4.o;obtain⟨Y1,Y2⟩:=Ia y1 y2;have bs:=Nat.lt_of_lt_of_le bm J.o.size;have bt:=Nat.lt_of_lt_of_le cb J.o.size;go_wp2_with fail;go_region_held3 (fun v=>v.cell? ⟨w.heap.size,1,none⟩=some (.slice (some ⟨g,0,none⟩) S.length cap)/\v.cell? ⟨g,m,none⟩=some (.slice t.a W t.cap)/\v.cell? ⟨wr.heap.size,0,none⟩=some f.x/\v.cell? ⟨wr.heap.size,1,none⟩=some f.y/\v.cell? ⟨wr.heap.size,2,none⟩=some f.z) ((first|(simp [*];done)|go_keep)) (first
       |(
        go_at_call 128;apply cM;apply bq.o;(focus(repeat(first|exact J.o|apply Qaq|apply Qar)));rintro e6 w6 ⟨⟨g6,us,rfl,ch,ap,L⟩,a5⟩;(first
          |have R:O (Bl w4 w6):=Hi a5
          |have R:O (Bl w4 w6):=Hi (bR.drew.trans a5))
        obtain⟨Z,aa,ci⟩:=Ib ap L (a4.o.below R.o a4.o.lt);have z1:=ce R.o bt Y1.o;have z2:=ce R.o bs Y2.o;obtain⟨z3,z4,z5,-⟩:=zc ci.o;clear ap L a5 ch
        skip)
       |fail)
      all_goals
       clear y1 y2 b0 b1 b2 z1 z2 z3 z4 z5;have F:=bk.o;rw[ay.o,az.o,List.map_cons] at F;obtain⟨r6,H,G,T⟩:=MOk.made (v:=fun i=>b.q i - t.q i*b.q A) (K:=K) Z.o av (by rw[av];exact aa.o) a8 (fun i hi=>by
        show b.q i - qAt t.ts i*f.q=_
        rw[qAt_q,bn.o]) (fun i hi=>by
        show b.q i - t.q i*b.q A=0
        rw[MR.q_beyond (r:=b) (by omega),MR.q_beyond (r:=t) (by omega)]
        exact Qv2 _) (fun i _=>F.next.here i)
       have U:Value.slice (some ⟨g6,0,none⟩) W W=.slice r6.a W r6.cap:=by
        unfold MR.val at H;rw[G.len] at H;exact H.symm
       have cj:O (red r6.q ((n.drop (m+1)).map MR.q) (hs.drop (m+1))=red (fun i=>r.q i / r.q h) ((n.drop (j+1)).map MR.q) (hs.drop (j+1))):=Hi (by
        have h1:=P.o;rw[ay.o,az.o,List.map_cons] at h1;rw[T]
        exact h1)
       have ck:O (redFits K r6.q ((n.drop (m+1)).map MR.q) (hs.drop (m+1))):=Hi (by rw[T];exact F.next);obtain⟨cl,cm⟩:=Ia G U;clear F H G T U;go_wp2_with fail;refine⟨⟨m+1,r6,by omega,by omega,by go_num,cm.o,cl.o,a3.o.below R.o,cj.o,ck.o⟩,?_⟩;simp[intOf];omega
    .
     have cn:m=S.length:=by omega
     subst cn;have er:b.val=.slice b.a W b.cap:=by unfold MR.val;rw[E.len]
     have hq:b.q=red (fun i=>r.q i / r.q h) ((n.drop (j+1)).map MR.q) (hs.drop (j+1)):=by
      have h1:=P.o;rw[List.drop_of_length_le (by rw[D.o];exact Nat.le_refl _)] at h1
      simpa [red] using h1
     obtain⟨cp,HQ⟩:=Ia er hq;obtain⟨-,x1,-⟩:=zc c.o.box;have f0:=c.o.rows.free j;have t0:=c.o.rows.cell (by rw[List.getElem?_map,b6.o];rfl);clear er hq E;go_wp2_with fail;refine⟨⟨j,n.set j b,by omega,by go_num,by rw[List.length_set];exact D.o,fun p hp=>?_,?_,?_⟩,?_⟩
     . rw[List.getElem?_set_ne (by omega)]
       exact aj.o p (by omega)
     .
      have cq:j<n.length:=by have:=D.o;omega
      rw[Qdk (List.getElem?_set_self cq),List.drop_set,if_pos (by omega),List.map_cons,HQ.o];exact bw.o.symm
     . rw[<-cp.o]
       exact c.o.set D.o.symm (by have:=D.o;omega) ab.o
     . simp[intOf]
theorem Qls:(prog.info? 54).map (fun i=>(i.zero,i.size,i.bytes))=some (some (.string ⟨#[]⟩),1,16):=by kernel_rfl
def textsV(ss:Vt):List Value:=ss.map Value.string
theorem Qwf(n:Nat):madeCells (Value.cells (.string ⟨#[]⟩)) n=(textsV (List.replicate n ⟨#[]⟩)).toArray:=by
 have e:Value.cells (.string ⟨#[]⟩)=#[.string ⟨#[]⟩]:=by rfl
 rw[e];apply Array.ext';rw[toList_madeCells_one];simp[textsV]
theorem Qwg(n:Nat)(d:n<=1048576)(w:Vz):(Instr.makeSlice 48 (.int .i64 n) (.int .i64 n)).run prog w=.ok (.slice (some ⟨w.heap.size,0,.none⟩) n n) (w.alloc (.cells (textsV (List.replicate n ⟨#[]⟩)).toArray 54)):=by
 obtain⟨i,a,h⟩:=Option.map_eq_some_iff.1 Qls;simp only[Prod.mk.injEq] at h;obtain⟨b,hs,c⟩:=h;have:=run_make w 48 54 i _ underlying48 a b .i64 .i64 n n (by omega) (by omega) (by rw[c];omega) (by omega);rw[Int.toNat_natCast,hs,Nat.mul_one,Qwf] at this;exact this
theorem Qwh(a:Vt)(k:Nat)(s:Vs):textsV (a.set k s)=(textsV a).set k (.string s):=by simp[textsV]
theorem Qlt(a:Vx)(cap K:Nat)(b:List FE)(w:Vz)(l:Glob w)(h:QRow w a cap b)(hk:∀t,t∈ b->t.k<=K)(hK:K<=274877906944)(hl:b.length<=1000):
 Calls prog 87 #[.slice a b.length cap] w fun e w'=>(∃(g:Nat) (c:Vt),e=.returned (.slice (some ⟨g,0,none⟩) b.length b.length)/\(c.length=b.length/\w.heap.size<=g)/\SB w' g 54 (textsV c).toArray/\∀(i:Nat) (t:FE) (s:Vs),b[i]?=some t->c[i]?=some s->QText s.data.toList t.q)/\Below w.heap.size w w':=by
 obtain⟨Y,H,HK⟩:=Ib h l hk;have A:=fun w=>Qwg b.length (by omega) w
 obtain⟨MC,r⟩:=nm ((textsV (List.replicate b.length ⟨#[]⟩)).toArray);rw[r] at A;have I:=Hi r;clear h l hk r;go_enter func87,ntmps87;go_wp2_with fail;clear A;obtain⟨g,l⟩:=nm w.heap.size;obtain⟨V,F⟩:=nm (w.alloc (.cells MC 54));have J:O (Below g w V):=Hi (by rw[<-F,<-l];exact(Below.refl _ _).alloc lZ _);have L:O (SB V g 54 (textsV (List.replicate b.length ⟨#[]⟩)).toArray):=Hi (by rw[<-F,<-l,I.o];exact SB.new w _ _)
 try rw[F]
 try rw[l]
 clear F;go_loopw [10] (fun i wr=>∃(k:Nat) (c:Vt),k<=b.length/\i=.int .i64 k/\c.length=b.length/\SB wr g 54 (textsV c).toArray/\(∀(i:Nat) (t:FE) (s:Vs),i<k->b[i]?=some t->c[i]?=some s->QText s.data.toList t.q)/\Below g w wr) (fun i _=>b.length - (intOf i).toNat)
 case atStart=>exact⟨0,_,by omega,rfl,by simp,L.o,fun i t s hi=>by omega,J.o⟩
 case round=>
  obtain⟨k,c,hk,rfl,B,u,m,Z⟩:=hrel;obtain⟨M,v,HA⟩:=Ib Z u m;have N:=u.lt;have d:=Hi B;clear Z u m B;by_cases P:k<b.length
  .
   obtain⟨t,n⟩:∃t,b[k]?=some t:=⟨b[k],gE P⟩;have j:Bl w wr:=by rw[l];exact M.o
   obtain⟨fb,aa,rfl,ab,d0,d1,d2⟩:=(Y.o.below j).at n;obtain⟨C,Q,R⟩:=Ib ((Y.o.below j).get n) (HK.o t (mO n)) (H.o.below j);have q1:((k:Int)<(b.length:Int)):=by omega
   have HT:=Hi n;obtain⟨S,D⟩:∃S,c[k]?=some S:=⟨c[k]'(by have:=d.o;omega),gE (by have:=d.o;omega)⟩;have T:=Hi D;clear n j D;go_wp2_with fail;go_fit (Qfr R.o.tab C.o.1 (C.o.2.1.mono Q.o) hK);rintro e w2 ⟨⟨s,rfl,E⟩,z⟩;obtain⟨U,W,f⟩:=Ib E z (v.o.below z v.o.lt);have f0:=f.o.free k;have t0:w2.cell? ⟨g,k,none⟩=some (.string S):=by
    rw[f.o.cell];simp[textsV,T.o]
   clear E z d0 d1 d2;go_wp2;go_roundw
   case rel=>
    refine⟨k+1,c.set k s,by omega,by go_num,by rw[List.length_set];exact d.o,?_,fun i x y hi hx G=>?_,(M.o.trans (W.o.mono (Nat.le_of_lt N))).setCell (p:=⟨g,k,none⟩) lZ _⟩
    .
     have:=f.o.set k (.string s);rw[Qwh]
     simpa using this
    .
     rcases Nat.lt_or_ge i k with h1|h1
     . rw[List.getElem?_set_ne (by omega)] at G
       exact HA.o i x y h1 hx G
     .
      obtain rfl:i=k:=by omega
      rw[List.getElem?_set_self (by have:=d.o;omega)] at G;obtain rfl:=Option.some.inj G;obtain rfl:=Option.some.inj (HT.o.symm.trans hx);exact U.o
   case measure=>simp[intOf];omega
  .
   have X:k=b.length:=by omega
   subst X;go_wp2;go_ret;rw[l];exact⟨⟨g,c,rfl,⟨d.o,Nat.le_of_eq rfl⟩,v.o,fun i t s n hs=>HA.o i t s (gZ n).1 n hs⟩,M.o⟩
theorem Tryz.stressInfo:(prog.info? 50).map (·.size)=some 2:=by kernel_rfl
theorem QRow.take{w:Vz}{a:Vx}{cap:Nat}{b:List FE}(h:QRow w a cap b)(n:Nat):QRow w a cap (b.take n):=by
 refine⟨⟨?_,⟨fun j u c=>h.row.row.cell j u ?_⟩⟩,fun t d=>h.ts t (List.mem_of_mem_take d)⟩
 .
  have:=h.row.fit;rw[List.length_take];omega
 .
  have e:b.flatMap FE.cells=(b.take n).flatMap FE.cells++(b.drop n).flatMap FE.cells:=by rw[<-List.flatMap_append,List.take_append_drop]
  rw[e,List.getElem?_append_left (gZ c).1];exact c
theorem QRow.drop{w:Vz}{b a cap:Nat}{d:List FE}(h:QRow w (some ⟨b,a,none⟩) cap d){n:Nat}(g:n<=d.length):QRow w (some ⟨b,a+n*3,none⟩) (cap - n) (d.drop n):=by
 refine⟨⟨?_,⟨fun j u i=>?_⟩⟩,fun t k=>h.ts t (List.mem_of_mem_drop k)⟩
 .
  have:=h.row.fit;rw[List.length_drop];omega
 .
  have e:d.flatMap FE.cells=(d.take n).flatMap FE.cells++(d.drop n).flatMap FE.cells:=by rw[<-List.flatMap_append,List.take_append_drop]
  have hl:((d.take n).flatMap FE.cells).length=n*3:=by
   rw[Qa9 (c:=FE.cells) (sz:=3) (fun _=>rfl),List.length_take,Nat.min_eq_left g]
  obtain⟨p,f,l,m,o⟩:=h.row.row.cell (n*3+j) u (by rw[e,List.getElem?_append_right (by omega),hl,Nat.add_sub_cancel_left];exact i);cases l;exact⟨b,a+n*3,rfl,m,by rw[Nat.add_assoc];exact o⟩
theorem QRow.empty(w:Vz)(a:Vx)(cap:Nat):QRow w a cap []:=⟨⟨Nat.zero_le _,⟨fun j u b=>by simp at b⟩⟩,fun t c=>by cases c⟩
def Told(ts:List FE)(ss:Vt):Prop:=ss.length=ts.length/\∀(i:Nat) (t:FE) (s:Vs),ts[i]?=some t->ss[i]?=some s->QText s.data.toList t.q
theorem Qlu(R S:Value)(a2:Vx)(c2 nb b c cap K:Nat)(a:List FE)(w:Vz)(T:Glob w)(h:QRow w (some ⟨b,c,none⟩) cap a)(hk:∀t,t∈ a->t.k<=K)(hK:K<=274877906944)(hl:a.length<=1000)(hn:nb<=a.length)(ad:cap<=1000)(o1:R.oneCell'=true)(o3:S.oneCell'=true):
 Calls prog 42 #[.agg #[R,.slice a2 nb c2,S],.slice (some ⟨b,c,none⟩) a.length cap] w fun e w'=>(∃(m n:Nat) (x y:Vt),e=.returned (.agg #[.slice (some ⟨m,0,none⟩) nb nb,.slice (some ⟨n,0,none⟩) (a.length - nb) (a.length - nb)])/\SB w' m 54 (textsV x).toArray/\SB w' n 54 (textsV y).toArray/\Told (a.take nb) x/\Told (a.drop nb) y/\w.heap.size<=m/\w.heap.size<=n)/\Below w.heap.size w w':=by
 have s:=h.row.fit;have U:(a.take nb).length=nb:=by rw[List.length_take];omega
 have W:(a.drop nb).length=a.length - nb:=List.length_drop;obtain⟨A,hA,z⟩:∃A:Addr,(if cap=nb then some (⟨b,c,none⟩:Addr) else some ⟨b,c+nb*3,none⟩)=some A/\QRow w (some A) (cap - nb) (a.drop nb):=by
  by_cases e:cap=nb
  .
   refine⟨⟨b,c,none⟩,by simp[e],?_⟩;have:a.drop nb= []:=List.drop_of_length_le (by omega);rw[this];exact QRow.empty _ _ _
  . exact⟨⟨b,c+nb*3,none⟩,by simp[e],h.drop hn⟩
 obtain⟨B,C⟩:=Ia (fun u (D:Bl w u)=>Qlt (some ⟨b,c,none⟩) cap K (a.take nb) u (T.below D) ((h.take nb).below D) (fun t X=>hk t (List.mem_of_mem_take X)) hK (by omega)) (fun u (D:Bl w u)=>Qlt (some A) (cap - nb) K (a.drop nb) u (T.below D) (z.below D) (fun t X=>hk t (List.mem_of_mem_drop X)) hK (by omega));rw[U] at B;rw[W] at C;obtain⟨Y,Z⟩:=Ia U W;clear h T hk z U W;go_enter func42,ntmps42;obtain⟨V,E⟩:=nm ((w.alloc (.cells #[R,.slice a2 nb c2,S] 26)).alloc (.cells #[.slice none 0 0,.slice none 0 0] 50));have f:=Ub E;have ae:=Ud E
 have g:=Ue E;have HV:=Hi E;clear E;have q1:nb<=cap:=by omega
 have q2:a.length<=cap:=s;go_wp2_with fail;rw[HV.o];go_region_held3 (fun _=>True) (trivial) (first
  |(
   go_at_call_of 87 (Value.slice (some ⟨b,c,none⟩) nb cap);apply cM;apply B.o;(focus(repeat(first|exact f.o|apply Qaq|apply Qar)));rintro e1 r ⟨⟨m,x,rfl,F,G,H⟩,p⟩;(first
     |have i:O (Bl V r):=Hi p
     |have i:O (Bl V r):=Hi (bR.drew.trans p))
   obtain⟨I,J,aa,j⟩:=Ic F G H (f.o.trans (i.o.mono f.o.size));clear F G H p
   skip)
  |(
   go_at_call_of 87 (Value.slice (some A) (a.length - nb) (cap - nb));apply cM;apply C.o;(focus(repeat(first|exact j.o|apply Qaq|apply Qar)));rintro e2 w2 ⟨⟨n,y,rfl,L,M,N⟩,q⟩;(first
     |have l:O (Bl r w2):=Hi q
     |have l:O (Bl r w2):=Hi (bR.drew.trans q))
   obtain⟨P,Q,ab,d⟩:=Ic L M N ((g.o.below i.o g.o.lt).below l.o (g.o.below i.o g.o.lt).lt);obtain⟨r0,r1,-⟩:=zc d.o;have f0:=d.o.free 0;have f1:=d.o.free 1;clear L M N q
   skip)
  |fail)
 all_goals
  go_wp2;have hx:=J.o.below l.o J.o.lt;have nx:=hx.unlike d.o (by decide);have ny:=Q.o.unlike d.o (by decide);refine bodyPost_ret (v:=.agg #[.slice (some ⟨m,0,none⟩) nb nb,.slice (some ⟨n,0,none⟩) (a.length - nb) (a.length - nb)]) (results_cell_row rfl _ _ (w.heap.size+1) 50 #[.slice (some ⟨m,0,none⟩) nb nb,.slice (some ⟨n,0,none⟩) (a.length - nb) (a.length - nb)] (0,0) _ rfl ((d.o.set 0 _).set 1 _) underlying50 rfl Tryz.stressInfo) rfl ?_;exact⟨⟨m,n,x,y,rfl,(hx.other nx _ _).other nx _ _,(Q.o.other ny _ _).other ny _ _,⟨by rw[Y.o];exact I.o.1,aa.o⟩,⟨by rw[Z.o];exact P.o.1,ab.o⟩,Nat.le_trans f.o.size I.o.2,Nat.le_trans j.o.size P.o.2⟩,((j.o.trans (l.o.mono j.o.size)).setCell (Nat.le_succ _) _).setCell (Nat.le_succ _) _⟩
def agnStep(v:Vec)(p:Nat × Rat × Rat):Vec:=upd (upd v (2*p.1) (v (2*p.1) - p.2.1)) (2*p.1+1) (v (2*p.1+1) - p.2.2)
def agn(vs:List (Nat × Rat × Rat)):Vec:=vs.foldl agnStep (fun _=>0)
theorem Qg9{vs:List (Nat × Rat × Rat)}{k:Nat}{p:Nat × Rat × Rat}(h:vs[k]?=some p):agn (vs.take (k+1))=agnStep (agn (vs.take k)) p:=by
 unfold agn;rw[List.take_add_one,h];simp[List.foldl_append]
theorem agn_x{v:Vec}{p:Nat × Rat × Rat}:agnStep v p (2*p.1)=v (2*p.1) - p.2.1:=by
 unfold agnStep;rw[Qad _ _ (by omega),Qan]
theorem agn_y{v:Vec}{p:Nat × Rat × Rat}:agnStep v p (2*p.1+1)=v (2*p.1+1) - p.2.2:=Qan _ _ _
theorem Qlv{v:Vec}{p:Nat × Rat × Rat}{i:Nat}(a:i≠2*p.1)(b:i≠2*p.1+1):agnStep v p i=v i:=by
 unfold agnStep;rw[Qad _ _ b,Qad _ _ a]
structure LoadV (n:Nat) (l:L3) (p:Nat × Rat × Rat):Prop where
 j:l.j=(p.1:Nat)
 lt:p.1<n
 x:QOf l.x.data.toList p.2.1
 y:QOf l.y.data.toList p.2.2
 sx:l.x.size<=1048576
 sy:l.y.size<=1048576
theorem of_val{s:Vs}{q:Rat}{w:Vz}(a:Glob w)(b:QOf s.data.toList q)(hs:s.size<=1048576):Calls prog 82 #[.string s] w (FNew w q):=by
 obtain⟨m,c⟩:=a.most;refine(Qj9 s m w c (by omega)).mono ?_;rintro e w' ⟨g,d,f⟩;rw[b.inj d];exact f
theorem Qev{w:Vz}{g K i:Nat}{us:List FE}{x y z:Value}{q:Rat}(h:QBlk w g us)(a:i<us.length)(b:FracV w (.agg #[x,y,z]) q)(c:Fits q K)(d:0<K):QBlk (((w.setCell ⟨g,i*3,none⟩ x).setCell ⟨g,i*3+1,none⟩ y).setCell ⟨g,i*3+2,none⟩ z) g (us.set i ⟨x,y,z,q,K⟩):=
 h.set (k:=i) (e:=⟨x,y,z,q,K⟩) a ⟨b,c,d⟩
theorem Qwi(a1 a2 a3 al:Vx)(c1 c2 c3 cl nj nb nh K:Nat)(z:List L3)(vs:List (Nat × Rat × Rat))(w:Vz)(hg:Glob w)(hl:ARow L3.cells w al cl z)(bx:z.length<=1000)(hn:nj<=10)(aq:vs.length=z.length)(ar:∀(i:Nat) (l:L3) (p:Nat × Rat × Rat),z[i]?=some l->vs[i]?=some p->LoadV nj l p)
 (ag:0<K) (hK:K+4194305<68719476000) (ab:∀k i,Fits (agn (vs.take k) i) K):
 Calls prog 60 #[.agg #[.slice a1 nj c1,.slice a2 nb c2,.slice a3 nh c3],.slice al z.length cl] w fun e w'=>(∃(g N:Nat) (us:List FE),N=2*nj/\e=.returned (.slice (some ⟨g,0,none⟩) N N)/\QBlk w' g us/\us.length=N/\∀(i:Nat) (t:FE),us[i]?=some t->t.q=agn vs i/\t.k<=K)/\Below w.heap.size w w':=by
 obtain⟨HG,ah,ai,bi,HF⟩:=Id hg hl aq ar ab;obtain⟨N,hN⟩:=nm (2*nj);have au:=fun w=>Qcu N (by omega) w
 obtain⟨MC,aj⟩:=nm (((List.replicate N FE.zero).flatMap FE.cells).toArray);rw[aj] at au;have bj:=Hi aj.symm;have av:2*(nj:Int)=(N:Int):=by omega
 have aw:=Hi (fun u=>Qeu a1 a2 a3 c1 c2 c3 nj nb nh u hn);simp only[av] at aw;have HN:=Hi hN;clear hN av;clear hg hl aq ar ab aj;go_enter func60,ntmps60;go_wp2_with fail;go_fit (aw.o _);rintro e w1 ⟨rfl,ax⟩;have ak:=Hi ((bR.alloc lZ _).trans (ax.mono (by simp)));clear ax;obtain⟨g,hg⟩:=nm w1.heap.size;obtain⟨V,hV⟩:=nm (w1.alloc (.cells MC 141));have m:w.heap.size<=g:=by rw[<-hg];exact ak.o.size
 have bk:O (Bl w V):=Hi (by rw[<-hV];exact ak.o.alloc ak.o.size _);have bl:O (QBlk V g (List.replicate N FE.zero)):=Hi (by rw[<-hV,<-hg];exact QBlk.new w1 N MC bj.o);have HV:=Hi hV;clear hV;go_wp2_with fail;rw[HV.o]
 try rw[hg]
 clear au;go_loopw [14] (fun i wr=>∃(k:Nat) (us:List FE),k<=z.length/\i=.int .i64 k/\us.length=N/\QBlk wr g us/\(∀(i:Nat) (t:FE),us[i]?=some t->t.q=agn (vs.take k) i/\t.k<=K)/\Below w.heap.size w wr) (fun i _=>z.length - (intOf i).toNat)
 case atStart=>
  refine⟨0,_,Nat.zero_le _,rfl,by simp,bl.o,fun i t f=>?_,bk.o⟩;obtain⟨_,rfl⟩:=List.mem_replicate.1 (mO f);exact⟨rfl,ag⟩
 case round=>
  obtain⟨k,us,hk,rfl,ay,az,a0,hb⟩:=hrel;obtain⟨HU,HQ,am,HB⟩:=Ic ay az a0 hb;clear ay az a0 hb;by_cases bm:k<z.length
  .
   obtain⟨l,hl⟩:∃l,z[k]?=some l:=⟨z[k],gE bm⟩;obtain⟨p,hp⟩:∃p,vs[k]?=some p:=⟨vs[k]'(by have:=ai.o;omega),gE (by have:=ai.o;omega)⟩;have M:=bi.o k l p hl hp;obtain⟨lb,lo,rfl,a4,d0,d1,d2⟩:=(ah.o.below HB.o).load hl;obtain⟨bz,b0,e',b1,_⟩:=ah.o.load hl;cases e';rw[M.j] at d0;have bn:lb≠g:=by omega
   have bw:=bn.symm;obtain⟨X,hX⟩:=nm (2*p.1);obtain⟨Y,hY⟩:=nm (2*p.1+1);have a6:2*(p.1:Int)=(X:Int):=by omega
   have a7:2*(p.1:Int)+1=(Y:Int):=by omega
   have a8:=M.lt;have b2:X<N:=by have:=HN.o;omega
   have b3:Y<N:=by have:=HN.o;omega
   obtain⟨a9,ba⟩:=Ia (fun u=>Qdn p.1 u (by omega)) (fun u=>Qdo p.1 u (by omega));simp only[a7] at ba;simp only[a6] at a9;have bb:X≠Y:=by omega
   obtain⟨HX,HY,HP,c⟩:=Ic hX hY hp M;have q1:((k:Int)<(z.length:Int)):=by omega
   have q2:((X:Int)<(N:Int)):=by omega
   have q3:((Y:Int)<(N:Int)):=by omega
   have bo:=Hi hl;clear hl hp M hX hY a6 a7 a8;go_wp2_with fail;go_region_held3 (fun v=>v.cell? ⟨lb,lo+k*3,none⟩=some (.int .i64 (p.1:Nat))) ((first|(simp [*];done)|go_keep)) (first
    |(
     go_at_call 80;apply cM;apply a9.o
     rintro e2 w2 ⟨rfl,rfl⟩)
    |(
     go_at_call 81;apply cM;apply ba.o
     rintro e2 w2 ⟨rfl,rfl⟩)
    |fail)
   obtain⟨z0,P⟩:∃z0,us[X]?=some z0:=⟨us[X]'(by have:=HU.o;omega),gE (by have:=HU.o;omega)⟩;obtain⟨HZ,an⟩:=Ia (HQ.o.row.get P) (am.o _ _ P);obtain⟨gy,oy,ao,_,t0,t1,t2⟩:=HQ.o.row.at P;cases ao;simp only[Nat.zero_add] at t0 t1 t2;obtain⟨B,C,D,bc⟩:=Ic t0 t1 t2 d1;have bd:=HQ.o.blk.lt;obtain⟨ap,E⟩:=Ia (fun u (hu:Bl wr u)=>of_val ((HG.o.below HB.o).below hu) c.o.x c.o.sx) (c.o.x.fits (n:=1048576) (by have:=c.o.sx;simpa using this));have bp:=an.o.2;clear P;go_wp2_with fail
   first|(go_region_with (first
    |(
     go_at_call 82;apply cM;apply ap.o;(focus(repeat(first|exact Below.refl _ _|apply Qaq|apply Qar)));rintro e2 w2 ⟨⟨v2,rfl,hv2⟩,b⟩;obtain⟨n2,F,l2,G,m2,o2,p2,rfl,hv2⟩:=hv2;(first
       |have a:O (Bl wr w2):=Hi b
       |have a:O (Bl wr w2):=Hi (bR.drew.trans b)
       |have a:O (Bl wr w2):=Hi (bR.drew.drew.trans b))
     have r:O (FracV w2 (.agg #[.bool n2,.slice F l2 G,.slice m2 o2 p2]) p.2.1):=Hi ⟨n2,F,l2,G,m2,o2,p2,rfl,hv2⟩;clear hv2 b t0 t1 t2 d1;obtain⟨t0,t1,t2⟩:=Jb a.o bd B.o C.o D.o;have d1:=ce a.o a4 bc.o
     skip)
    |(
     go_at_call 101;apply cM;(first
       |exact Qbj (HZ.o.1.below a.o) r.o HZ.o.2.1 E.o (by omega)
       |exact Qbj (HZ.o.1.below a.o.drew) (r.o.below bR.drew) HZ.o.2.1 E.o (by omega))
     rintro e3 w3 ⟨⟨v3,rfl,hv3⟩,d⟩;obtain⟨n3,Q,l3,R,m3,o3,p3,rfl,hv3⟩:=hv3;(first
       |have s:=Hi (a.o.trans (d.mono a.o.size))
       |have s:O (Bl wr w3):=Hi (a.o.trans (((bR.drew).trans d).mono a.o.size)))
     have be:O (FracV w3 (.agg #[.bool n3,.slice Q l3 R,.slice m3 o3 p3]) (z0.q - p.2.1)):=Hi ⟨n3,Q,l3,R,m3,o3,p3,rfl,hv3⟩;have H:=Hi (HQ.o.below s.o);clear hv3 d t0 t1 t2 d1;obtain⟨t0,t1,t2⟩:=Jb s.o bd B.o C.o D.o;have d1:=ce s.o a4 bc.o;have f0:=H.o.blk.free (X*3);have f1:=H.o.blk.free (X*3+1);have f2:=H.o.blk.free (X*3+2)
     skip)
    |fail))|fail
   all_goals
    have bf:Fits (z0.q - p.2.1) K:=by
     have h1:=HF.o (k+1) X;rw[Qg9 HP.o,<-HX.o,agn_x,HX.o,<-an.o.1] at h1;exact h1
    obtain⟨us1,h⟩:=nm (us.set X ⟨.bool n3,.slice Q l3 R,.slice m3 o3 p3,z0.q - p.2.1,K⟩);obtain⟨A,S⟩:=nm (((w3.setCell ⟨g,X*3,none⟩ (.bool n3)).setCell ⟨g,X*3+1,none⟩ (.slice Q l3 R)).setCell ⟨g,X*3+2,none⟩ (.slice m3 o3 p3));have T:O (QBlk A g us1):=Hi (by rw[<-S,<-h];exact Qev H.o (by have:=HU.o;omega) be.o bf ag);have I:O (us1.length=N):=Hi (by rw[<-h,List.length_set];exact HU.o);have ad:O (∀(i:Nat) (t:FE),us1[i]?=some t->t.q=(if i=X then z0.q - p.2.1 else agn (vs.take k) i)/\t.k<=K):=Hi (fun i t f=>by
     rw[<-h] at f;by_cases e:i=X
     .
      subst e;rw[List.getElem?_set_self (by have:=HU.o;omega)] at f;obtain rfl:=Option.some.inj f;rw[if_pos rfl];exact⟨rfl,Nat.le_refl _⟩
     .
      rw[List.getElem?_set_ne (Ne.symm e)] at f;rw[if_neg e]
      exact am.o i t f)
    have U:O (Bl w A):=Hi (by rw[<-S];exact(((HB.o.trans (s.o.mono HB.o.size)).setCell (p:=⟨g,X*3,none⟩) m _).setCell (p:=⟨g,X*3+1,none⟩) m _).setCell (p:=⟨g,X*3+2,none⟩) m _);obtain⟨b4,b5,bq,ae,d0,d1,d2⟩:=(ah.o.below U.o).load bo.o;cases bq;obtain⟨br,bs⟩:=Ia an.o.1 S;clear bf h S t0 t1 t2 f0 f1 f2 d0 d1 a r H s be;go_wp2_with fail;rw[bs.o];obtain⟨z1,W⟩:∃z1,us1[Y]?=some z1:=⟨us1[Y]'(by have:=I.o;omega),gE (by have:=I.o;omega)⟩;obtain⟨Z,J⟩:=Ia (T.o.row.get W) (ad.o _ _ W);obtain⟨gy,oy,ao,_,t0,t1,t2⟩:=T.o.row.at W;cases ao;simp only[Nat.zero_add] at t0 t1 t2;obtain⟨B,C,D,bg⟩:=Ic t0 t1 t2 d2;have af:=T.o.blk.lt
    obtain⟨ap,E⟩:=Ia (fun u (hu:Bl A u)=>of_val ((HG.o.below U.o).below hu) c.o.y c.o.sy) (c.o.y.fits (n:=1048576) (by have:=c.o.sy;simpa using this));have bp:=J.o.2;clear W
    first|(go_region_with (first
     |(
      go_at_call 82;apply cM;apply ap.o;(focus(repeat(first|exact Below.refl _ _|apply Qaq|apply Qar)));rintro e2 w4 ⟨⟨v2,rfl,hv2⟩,b⟩;obtain⟨n2,F,l2,G,m2,o2,p2,rfl,hv2⟩:=hv2;(first
        |have a:O (Bl A w4):=Hi b
        |have a:O (Bl A w4):=Hi (bR.drew.trans b)
        |have a:O (Bl A w4):=Hi (bR.drew.drew.trans b))
      have r:O (FracV w4 (.agg #[.bool n2,.slice F l2 G,.slice m2 o2 p2]) p.2.2):=Hi ⟨n2,F,l2,G,m2,o2,p2,rfl,hv2⟩;clear hv2 b t0 t1 t2 d2;obtain⟨t0,t1,t2⟩:=Jb a.o af B.o C.o D.o;have d2:=ce a.o ae bg.o
      skip)
     |(
      go_at_call 101;apply cM;(first
        |exact Qbj (Z.o.1.below a.o) r.o Z.o.2.1 E.o (by omega)
        |exact Qbj (Z.o.1.below a.o.drew) (r.o.below bR.drew) Z.o.2.1 E.o (by omega))
      rintro e3 w5 ⟨⟨v3,rfl,hv3⟩,d⟩;obtain⟨n5,a5,l5,c5,m5,o5,p5,rfl,hv3⟩:=hv3;(first
        |have L:=Hi (a.o.trans (d.mono a.o.size))
        |have L:O (Bl A w5):=Hi (a.o.trans (((bR.drew).trans d).mono a.o.size)))
      have bt:O (FracV w5 (.agg #[.bool n5,.slice a5 l5 c5,.slice m5 o5 p5]) (z1.q - p.2.2)):=Hi ⟨n5,a5,l5,c5,m5,o5,p5,rfl,hv3⟩;have aa:=Hi (T.o.below L.o);clear hv3 d t0 t1 t2 d2;obtain⟨t0,t1,t2⟩:=Jb L.o af B.o C.o D.o;have d2:=ce L.o ae bg.o;have f0:=aa.o.blk.free (Y*3);have f1:=aa.o.blk.free (Y*3+1);have f2:=aa.o.blk.free (Y*3+2)
      skip)
     |fail))|fail
    all_goals
     have bh:Fits (z1.q - p.2.2) K:=by
      have h1:=HF.o (k+1) Y;have h2:=J.o.1;rw[if_neg (Ne.symm bb)] at h2;rw[Qg9 HP.o,<-HY.o,agn_y,HY.o,<-h2] at h1;exact h1
     have bu:=Hi bh;clear bh t0 t1 t2 f0 f1 f2 d2;go_wp2_with fail;refine⟨⟨k+1,_,by omega,by go_num,by rw[List.length_set];exact I.o,Qev aa.o (by have:=I.o;omega) bt.o bu.o ag,fun i t f=>?_,(((U.o.trans (L.o.mono U.o.size)).setCell (p:=⟨g,Y*3,none⟩) m _).setCell (p:=⟨g,Y*3+1,none⟩) m _).setCell (p:=⟨g,Y*3+2,none⟩) m _⟩,?_⟩
     .
      rw[Qg9 HP.o];by_cases e:i=Y
      .
       subst e;rw[List.getElem?_set_self (by have:=I.o;omega)] at f;obtain rfl:=Option.some.inj f;have h2:=J.o.1;rw[if_neg (Ne.symm bb)] at h2;refine⟨?_,Nat.le_refl _⟩;rw[<-HY.o,agn_y,HY.o,<-h2]
      .
       rw[List.getElem?_set_ne (Ne.symm e)] at f;obtain⟨h3,h4⟩:=ad.o i t f;refine⟨?_,h4⟩;by_cases e2:i=X
       .
        subst e2;rw[if_pos rfl] at h3;rw[h3,<-HX.o,agn_x,HX.o,br.o]
       . rw[if_neg e2] at h3
         rw[h3,Qlv (by rw[HX.o];exact e2) (by rw[HY.o];exact e)]
     . simp[intOf]
       omega
  .
   have bv:k=z.length:=by omega
   subst bv;go_wp2;go_ret;refine⟨⟨g,N,us,HN.o.symm,rfl,HQ.o,HU.o,fun i t f=>?_⟩,HB.o⟩;have:=am.o i t f;rw[List.take_of_length_le (by have:=ai.o;omega)] at this;exact this
open Go
section
variable {P:Program} {ops:Array Oper} {Q:Exit->Act->World->Prop} {md:Region.Mode} {S:World->Prop} {D:Vy}
def NoneOf(D:Vy)(listed:Array Bool):Prop:=∀d∈ D,listed.getD d true=false
theorem NoneOf.set{a:Array Bool}{j:Nat}(h:NoneOf D a)(f:j ∉ D):NoneOf D (a.setIfInBounds j true):=fun d c=>by
 have b:j≠d:=fun e=>f (e ▸ c)
 rw[_root_.Go.getD_set_ne true b];exact h d c
theorem NoneOf.back{a:Array Bool}{j:Nat}(h:NoneOf D (a.setIfInBounds j true)):j ∉ D/\NoneOf D a:=by
 have f:j ∉ D:=fun b=>by
  have:=h j b;simp at this
 refine⟨f,fun d b=>?_⟩;have c:j≠d:=fun e=>f (e ▸ b)
 have:=h d b;rw[_root_.Go.getD_set_ne true c] at this;exact this
def AnyDs(P:Program)(md:Region.Mode)(ops:Array Oper)(Q:Exit->Act->World->Prop)(S:World->Prop)(D:Vy):Nat->Array Bool->Act->World->Prop
 |0,listed,a,w=>Region.ready md ops listed= []/\Q .normal a w
 |fuel+1,listed,a,w=>(Region.ready md ops listed= []->Q .normal a w)/\∀i∈ Region.ready md ops listed,wpOp P ops Q i (fun a' w'=>(i ∉ D->NoneOf D listed->S w')/\AnyDs P md ops Q S D fuel (listed.setIfInBounds i true) a' w') a w
theorem AnyDs.any:∀(b:Nat) (c:Array Bool) (a:Act) (w:Vz),AnyDs P md ops Q S D b c a w->wpAny P md ops Q b c a w
 |0,_,_,_,h=>h
 |b+1,_,_,_,h=>⟨h.1,fun i d=>wpOp_mono (fun e w' f=>AnyDs.any b _ e w' f.2) (h.2 i d)⟩
theorem Qck{i j:Nat}{a:Array Bool}{g:Oper}(k:i∈ Region.ready md ops a)(b:∀e∈ g.after,Region.binds md e=true->a.getD e.on false=true):∀e∈ g.after,Region.binds md e=true->e.on≠i:=fun e l m d=>by
 have c:=b e l m;have h:=(mem_ready.1 k).1;rw[d] at c;rcases Nat.lt_or_ge i a.size with f|f
 . simp[f] at h c;rw[h] at c;cases c
 . simp[Array.getElem?_eq_none f] at c
theorem AnyDs.first{i:Nat}{u:Oper}{v:Value}(N:ops[i]?=some u)(r:∀(j:Nat) (o:Oper) z b,ops[j]?=some o->o.op≠.select z b)
 (V:∀c a w,Q (.panic c) (a.put u.dst v) w->Q (.panic c) a w) (hk:D.all (fun k=>waits md ops k i)=true):
 ∀(f:Nat) (d:Array Bool) (a:Act) (w:Vz),
  (∀j y,ops[j]?=some y->j≠i->d.getD j true=false->(∀e∈ y.after,Region.binds md e=true->e.on≠i)->u.apart ops y=true)->
  i∈ Region.ready md ops d->YieldsIf P ops S u v a->NoneOf D d->S w->
  AnyDs P md ops Q S D f (d.setIfInBounds i true) (a.put u.dst v) w->AnyDs P md ops Q S D (f+1) d a w:=by
 intro f
 induction f with
 |zero=>
  intro d a w _ n K O A H;refine⟨fun h=>(by rw[h] at n;cases n),fun j L=>?_⟩;by_cases g:j=i
  . subst g;exact K.wpOp N A ⟨fun _ _=>A,H⟩
  .
   have:=ready_mono L g;rw[H.1] at this;cases this
 |succ f W=>
  intro d a w l n K O A H;refine⟨fun h=>(by rw[h] at n;cases n),fun j L=>?_⟩;by_cases g:j=i
  . subst g;exact K.wpOp N A ⟨fun _ _=>A,H⟩
  .
   have X:=H.2 j (ready_mono L g);obtain⟨s,y,p,B⟩:=mem_ready.1 L;have t:=Qck (j:=j) n B;have C:j ∉ D:=fun e=>Qdh (k:=j) (List.all_eq_true.1 hk j e) p t
   have E:NoneOf D (d.setIfInBounds i true):=O.set (fun e=>by
    obtain⟨_,Y,F,x⟩:=mem_ready.1 n
    exact Qdh (k:=i) (List.all_eq_true.1 hk i e) F (Qck (j:=i) n x))
   have Z:=wpOp_putIf p (l j y p g s t) (fun z b=>r i u z b N) (fun z b=>r j y z b p) V K X;have q:∀m G,ops[m]?=some G->m≠i->(d.setIfInBounds j true).getD m true=false->
    (∀e∈ G.after,Region.binds md e=true->e.on≠i)->u.apart ops G=true:=fun m G hm R I T=>by
    refine l m G hm R ?_ T;by_cases J:j=m
    . subst J;exact s
    . rw[_root_.Go.getD_set_ne true J] at I;exact I
   refine wpOp_mono (fun a' w' M=>⟨fun U _=>M.2.1 U E,W (d.setIfInBounds j true) a' w' q (ready_mono n (Ne.symm g)) M.1 (O.set C) (M.2.1 C E) ?_⟩) Z;rw[Array.setIfInBounds_comm _ _ g];exact M.2.2
theorem AnyDs.firstP{i:Nat}{q:Oper}{v:Value}(J:ops[i]?=some q)(n:∀(j:Nat) (o:Oper) u b,ops[j]?=some o->o.op≠.select u b)
 (O:∀c a w,Q (.panic c) (a.put q.dst v) w->Q (.panic c) a w) (x:i ∉ D):
 ∀(f:Nat) (d:Array Bool) (a:Act) (w:Vz),
  (∀j t,ops[j]?=some t->j≠i->d.getD j true=false->(∀e∈ t.after,Region.binds md e=true->e.on≠i)->q.apart ops t=true)->
  i∈ Region.ready md ops d->YieldsIf P ops (fun _=>True) q v a->(NoneOf D d->S w)->
  AnyDs P md ops Q S D f (d.setIfInBounds i true) (a.put q.dst v) w->AnyDs P md ops Q S D (f+1) d a w:=by
 intro f
 induction f with
 |zero=>
  intro d a w _ r E K H;refine⟨fun h=>(by rw[h] at r;cases r),fun j F=>?_⟩;by_cases g:j=i
  . subst g;exact E.wpOp J trivial ⟨fun _=>K,H⟩
  .
   have:=ready_mono F g;rw[H.1] at this;cases this
 |succ f R=>
  intro d a w k r E K H;refine⟨fun h=>(by rw[h] at r;cases r),fun j F=>?_⟩;by_cases g:j=i
  . subst g;exact E.wpOp J trivial ⟨fun _=>K,H⟩
  .
   have T:=H.2 j (ready_mono F g);obtain⟨p,t,s,y⟩:=mem_ready.1 F;have z:=Qck (j:=j) r y;have U:=wpOp_putIf s (k j t s g p z) (fun u b=>n i q u b J) (fun u b=>n j t u b s) O E T;have l:∀m A,ops[m]?=some A->m≠i->(d.setIfInBounds j true).getD m true=false->
    (∀e∈ A.after,Region.binds md e=true->e.on≠i)->q.apart ops A=true:=fun m A V L B M=>by
    refine k m A V L ?_ M;by_cases C:j=m
    . subst C;exact p
    . rw[_root_.Go.getD_set_ne true C] at B;exact B
   refine wpOp_mono (fun W w' G=>⟨?_,R (d.setIfInBounds j true) W w' l (ready_mono r (Ne.symm g)) G.1 ?_ ?_⟩) U
   . intro N I
     exact G.2.1 N (I.set x)
   . intro I
     exact G.2.1 I.back.1 (I.back.2.set x)
   . rw[Array.setIfInBounds_comm _ _ g]
     exact G.2.2
theorem Qkc{a:Array Bool}(h:D.all (fun d=>!(a.getD d true))=true):NoneOf D a:=fun d b=>by
 have:=List.all_eq_true.1 h d b
 simpa using this
theorem Qcl{a:Array Bool}{d:Nat}(b:D.contains d=true)(h:a.getD d true=true):¬NoneOf D a:=fun c=>by
 have:=c d (by simpa using b);rw[h] at this;cases this
theorem AnyDs.take{i:Nat}{f:Oper}{v:Value}{e:Nat}{b:Array Bool}{a:Act}{w:Vz}(g:ops[i]?=some f)
 (hs:Region.noSelect ops=true) (j:Region.free md ops b i=true) (l:(Region.ready md ops b).contains i=true) (hk:D.all (fun k=>waits md ops k i)=true) (m:D.all (fun d=>!(b.getD d true))=true)
 (n:∀c a w,Q (.panic c) (a.put f.dst v) w->Q (.panic c) a w) (o:YieldsIf P ops S f v a) (p:S w)
 (h:AnyDs P md ops Q S D e (b.setIfInBounds i true) (a.put f.dst v) w):AnyDs P md ops Q S D (e+1) b a w:=
 AnyDs.first g (Region.noSelect_spec hs) n hk e b a w (Region.free_spec g j) (by simpa using l) o (Qkc m) p h
theorem AnyDs.takeP{i:Nat}{e:Oper}{v:Value}{d:Nat}{b:Array Bool}{a:Act}{w:Vz}(f:ops[i]?=some e)
 (hs:Region.noSelect ops=true) (j:Region.free md ops b i=true) (k:(Region.ready md ops b).contains i=true) (g:D.contains i=false)
 (l:∀c a w,Q (.panic c) (a.put e.dst v) w->Q (.panic c) a w) (m:YieldsIf P ops (fun _=>True) e v a) (n:NoneOf D b->S w)
 (h:AnyDs P md ops Q S D d (b.setIfInBounds i true) (a.put e.dst v) w):AnyDs P md ops Q S D (d+1) b a w:=
 AnyDs.firstP f (Region.noSelect_spec hs) l (fun o=>by rw[List.contains_iff_mem.2 o] at g;cases g) d b a w (Region.free_spec f j) (by simpa using k) m n h
def AllDs(P:Program)(md:Region.Mode)(ops:Array Oper)(Q:Exit->Act->World->Prop)(S:World->Prop)(D:Vy)(fuel:Nat)(listed:Array Bool)(a:Act)(w:Vz)(rs:Vy):Prop:=
 ∀i∈ rs,wpOp P ops Q i (fun a' w'=>(i ∉ D->NoneOf D listed->S w')/\AnyDs P md ops Q S D fuel (listed.setIfInBounds i true) a' w') a w
theorem AllDs.nil{c:Nat}{b:Array Bool}{a:Act}{w:Vz}:AllDs P md ops Q S D c b a w []:=fun _ h=>by cases h
theorem AllDs.cons{c:Nat}{b:Array Bool}{a:Act}{w:Vz}{i:Nat}{o:Oper}{rs:Vy}(e:ops[i]?=some o)
 (h:∀K':Act->World->Prop,Shut (∀a w,(i ∉ D->NoneOf D b->S w)->AnyDs P md ops Q S D c (b.setIfInBounds i true) a w->K' a w)->if Region.wanted o (yielded ops a.tmps)=true then Oper.wp P o a w K' Q else K' (a.put o.dst undef) w)
 (hs:AllDs P md ops Q S D c b a w rs):AllDs P md ops Q S D c b a w (i :: rs):=fun j d=>by
 rcases List.mem_cons.1 d with rfl|d
 . exact wpOp_step e (fun K' f=>h K' (fun a w g k=>f a w ⟨g,k⟩))
 . exact hs j d
theorem AnyDs.ready{rs:Vy}{c:Nat}{b:Array Bool}{a:Act}{w:Vz}(e:Region.ready md ops b=rs)(d:rs≠ [])
 (h:AllDs P md ops Q S D c b a w rs):AnyDs P md ops Q S D (c+1) b a w:=by
 refine⟨(fun f=>by rw[e] at f;exact absurd f d),fun j g=>?_⟩;rw[e] at g;exact h j g
theorem AnyDs.done{b:Array Bool}{a:Act}{w:Vz}(d:Region.ready md ops b= [])(h:Q .normal a w):∀c,AnyDs P md ops Q S D c b a w
 |0=>⟨d,h⟩
 |_+1=>⟨fun _=>h,by rw[d];simp⟩
theorem AnyDs.begin{id:Nat}{a:Act}{w:Vz}(b:P.follows .mixedOrders=true)
 (h:AnyDs P .any ops Q S D ops.size (Array.replicate ops.size false) a w.drew):(Code.region id ops true).wp P Q a w:=
 wp_region_any b (AnyDs.any _ _ _ _ h)
end
section
variable {P:Program} {ops:Array Oper} {Q:Exit->Act->World->Prop} {md:Region.Mode} {S T:World->Prop} {D:Vy}
def AnyE(P:Program)(md:Region.Mode)(ops:Array Oper)(Q:Exit->Act->World->Prop)(S T:World->Prop)(D:Vy):Nat->Array Bool->Act->World->Prop
 |0,listed,a,w=>Region.ready md ops listed= []/\Q .normal a w
 |fuel+1,listed,a,w=>(Region.ready md ops listed= []->Q .normal a w)/\∀i∈ Region.ready md ops listed,wpOp P ops Q i (fun a' w'=>((i ∉ D->NoneOf D listed->S w')/\T w')/\AnyE P md ops Q S T D fuel (listed.setIfInBounds i true) a' w') a w
theorem AnyE.any:∀(b:Nat) (c:Array Bool) (a:Act) (w:Vz),AnyE P md ops Q S T D b c a w->wpAny P md ops Q b c a w
 |0,_,_,_,h=>h
 |b+1,_,_,_,h=>⟨h.1,fun i d=>wpOp_mono (fun e w' f=>AnyE.any b _ e w' f.2) (h.2 i d)⟩
theorem AnyE.first{i:Nat}{u:Oper}{v:Value}(N:ops[i]?=some u)(r:∀(j:Nat) (o:Oper) A b,ops[j]?=some o->o.op≠.select A b)
 (X:∀c a w,Q (.panic c) (a.put u.dst v) w->Q (.panic c) a w) (hk:D.all (fun k=>waits md ops k i)=true):
 ∀(f:Nat) (d:Array Bool) (a:Act) (w:Vz),
  (∀j y,ops[j]?=some y->j≠i->d.getD j true=false->(∀e∈ y.after,Region.binds md e=true->e.on≠i)->u.apart ops y=true)->
  i∈ Region.ready md ops d->YieldsIf P ops S u v a->NoneOf D d->S w->T w->
  AnyE P md ops Q S T D f (d.setIfInBounds i true) (a.put u.dst v) w->AnyE P md ops Q S T D (f+1) d a w:=by
 intro f
 induction f with
 |zero=>
  intro d a w _ n L O B R H;refine⟨fun h=>(by rw[h] at n;cases n),fun j M=>?_⟩;by_cases g:j=i
  . subst g;exact L.wpOp N B ⟨⟨fun _ _=>B,R⟩,H⟩
  .
   have:=ready_mono M g;rw[H.1] at this;cases this
 |succ f Y=>
  intro d a w l n L O B R H;refine⟨fun h=>(by rw[h] at n;cases n),fun j M=>?_⟩;by_cases g:j=i
  . subst g;exact L.wpOp N B ⟨⟨fun _ _=>B,R⟩,H⟩
  .
   have Z:=H.2 j (ready_mono M g);obtain⟨s,y,p,C⟩:=mem_ready.1 M;have t:=Qck (j:=j) n C;have E:j ∉ D:=fun e=>Qdh (k:=j) (List.all_eq_true.1 hk j e) p t
   have F:NoneOf D (d.setIfInBounds i true):=O.set (fun e=>by
    obtain⟨_,aa,G,x⟩:=mem_ready.1 n
    exact Qdh (k:=i) (List.all_eq_true.1 hk i e) G (Qck (j:=i) n x))
   have h2:=wpOp_putIf p (l j y p g s t) (fun A b=>r i u A b N) (fun A b=>r j y A b p) X L Z;have q:∀m I,ops[m]?=some I->m≠i->(d.setIfInBounds j true).getD m true=false->
    (∀e∈ I.after,Region.binds md e=true->e.on≠i)->u.apart ops I=true:=fun m I hm U J V=>by
    refine l m I hm U ?_ V;by_cases K:j=m
    . subst K;exact s
    . rw[_root_.Go.getD_set_ne true K] at J;exact J
   refine wpOp_mono (fun a' w' z=>⟨⟨fun W _=>z.2.1.1 W F,z.2.1.2⟩,Y (d.setIfInBounds j true) a' w' q (ready_mono n (Ne.symm g)) z.1 (O.set E) (z.2.1.1 E F) z.2.1.2 ?_⟩) h2;rw[Array.setIfInBounds_comm _ _ g];exact z.2.2
theorem AnyE.firstT{i:Nat}{q:Oper}{v:Value}(K:ops[i]?=some q)(n:∀(j:Nat) (o:Oper) x b,ops[j]?=some o->o.op≠.select x b)
 (R:∀c a w,Q (.panic c) (a.put q.dst v) w->Q (.panic c) a w) (y:i ∉ D):
 ∀(f:Nat) (d:Array Bool) (a:Act) (w:Vz),
  (∀j t,ops[j]?=some t->j≠i->d.getD j true=false->(∀e∈ t.after,Region.binds md e=true->e.on≠i)->q.apart ops t=true)->
  i∈ Region.ready md ops d->YieldsIf P ops T q v a->(NoneOf D d->S w)->T w->
  AnyE P md ops Q S T D f (d.setIfInBounds i true) (a.put q.dst v) w->AnyE P md ops Q S T D (f+1) d a w:=by
 intro f
 induction f with
 |zero=>
  intro d a w _ r G L z H;refine⟨fun h=>(by rw[h] at r;cases r),fun j I=>?_⟩;by_cases g:j=i
  . subst g;exact G.wpOp K z ⟨⟨fun _=>L,z⟩,H⟩
  .
   have:=ready_mono I g;rw[H.1] at this;cases this
 |succ f U=>
  intro d a w k r G L z H;refine⟨fun h=>(by rw[h] at r;cases r),fun j I=>?_⟩;by_cases g:j=i
  . subst g;exact G.wpOp K z ⟨⟨fun _=>L,z⟩,H⟩
  .
   have V:=H.2 j (ready_mono I g);obtain⟨p,t,s,A⟩:=mem_ready.1 I;have B:=Qck (j:=j) r A;have W:=wpOp_putIf s (k j t s g p B) (fun x b=>n i q x b K) (fun x b=>n j t x b s) R G V;have l:∀m C,ops[m]?=some C->m≠i->(d.setIfInBounds j true).getD m true=false->
    (∀e∈ C.after,Region.binds md e=true->e.on≠i)->q.apart ops C=true:=fun m C X M E N=>by
    refine k m C X M ?_ N;by_cases F:j=m
    . subst F;exact p
    . rw[_root_.Go.getD_set_ne true F] at E;exact E
   refine wpOp_mono (fun Y w' u=>⟨⟨?_,u.2.1.2⟩,U (d.setIfInBounds j true) Y w' l (ready_mono r (Ne.symm g)) u.1 ?_ u.2.1.2 ?_⟩) W
   . intro O J
     exact u.2.1.1 O (J.set y)
   . intro J
     exact u.2.1.1 J.back.1 (J.back.2.set y)
   . rw[Array.setIfInBounds_comm _ _ g]
     exact u.2.2
theorem AnyE.take{i:Nat}{f:Oper}{v:Value}{e:Nat}{b:Array Bool}{a:Act}{w:Vz}(g:ops[i]?=some f)
 (hs:Region.noSelect ops=true) (j:Region.free md ops b i=true) (l:(Region.ready md ops b).contains i=true) (hk:D.all (fun k=>waits md ops k i)=true) (m:D.all (fun d=>!(b.getD d true))=true)
 (n:∀c a w,Q (.panic c) (a.put f.dst v) w->Q (.panic c) a w) (o:YieldsIf P ops S f v a) (p:S w) (q:T w)
 (h:AnyE P md ops Q S T D e (b.setIfInBounds i true) (a.put f.dst v) w):AnyE P md ops Q S T D (e+1) b a w:=
 AnyE.first g (Region.noSelect_spec hs) n hk e b a w (Region.free_spec g j) (by simpa using l) o (Qkc m) p q h
theorem AnyE.takeT{i:Nat}{e:Oper}{v:Value}{d:Nat}{b:Array Bool}{a:Act}{w:Vz}(f:ops[i]?=some e)
 (hs:Region.noSelect ops=true) (j:Region.free md ops b i=true) (k:(Region.ready md ops b).contains i=true) (g:D.contains i=false)
 (l:∀c a w,Q (.panic c) (a.put e.dst v) w->Q (.panic c) a w) (m:YieldsIf P ops T e v a) (n:NoneOf D b->S w) (o:T w)
 (h:AnyE P md ops Q S T D d (b.setIfInBounds i true) (a.put e.dst v) w):AnyE P md ops Q S T D (d+1) b a w:=
 AnyE.firstT f (Region.noSelect_spec hs) l (fun p=>by rw[List.contains_iff_mem.2 p] at g;cases g) d b a w (Region.free_spec f j) (by simpa using k) m n o h
theorem AnyE.one{i:Nat}{o:Oper}{c:Nat}{b:Array Bool}{a:Act}{w:Vz}(d:Region.ready md ops b= [i])(g:ops[i]?=some o)
 (h:∀K':Act->World->Prop,Shut (∀a w,((i ∉ D->NoneOf D b->S w)/\T w)->AnyE P md ops Q S T D c (b.setIfInBounds i true) a w->K' a w)->if Region.wanted o (yielded ops a.tmps)=true then Oper.wp P o a w K' Q else K' (a.put o.dst undef) w):AnyE P md ops Q S T D (c+1) b a w:=by
 refine⟨(fun e=>by rw[d] at e;cases e),fun j f=>?_⟩;rw[d] at f;obtain rfl:=List.mem_singleton.1 f;exact wpOp_step g (fun K' k=>h K' (fun a w l m=>k a w ⟨l,m⟩))
theorem AnyE.done{b:Array Bool}{a:Act}{w:Vz}(d:Region.ready md ops b= [])(h:Q .normal a w):∀c,AnyE P md ops Q S T D c b a w
 |0=>⟨d,h⟩
 |_+1=>⟨fun _=>h,by rw[d];simp⟩
theorem AnyE.begin{id:Nat}{a:Act}{w:Vz}(b:P.follows .mixedOrders=true)
 (h:AnyE P .any ops Q S T D ops.size (Array.replicate ops.size false) a w.drew):(Code.region id ops true).wp P Q a w:=
 wp_region_any b (AnyE.any _ _ _ _ h)
end
def Plan(is:Vy)(p:Prop):Prop:=p
theorem Plan.of{p:Prop}(is:Vy)(h:Plan is p):p:=h
theorem Plan.done{p:Prop}(h:p):Plan [] p:=h
section
variable {P:Program} {ops:Array Oper} {Q:Exit->Act->World->Prop} {md:Region.Mode} {S T:World->Prop} {D is:Vy} {i:Nat} {oi:Oper} {v:Value} {fuel:Nat} {listed:Array Bool} {a:Act} {w:Vz}
theorem AnyBut.beg{id k:Nat}(b:P.follows .mixedOrders=true)(c:S w.drew)(h:AnyBut P .any ops Q S k ops.size (Array.replicate ops.size false) a w.drew):(Code.region id ops true).wp P Q a w:=AnyBut.begin b h
theorem AnyDs.beg{id:Nat}(b:P.follows .mixedOrders=true)(c:S w.drew)(h:AnyDs P .any ops Q S D ops.size (Array.replicate ops.size false) a w.drew):(Code.region id ops true).wp P Q a w:=AnyDs.begin b h
theorem AnyE.beg{id:Nat}(b:P.follows .mixedOrders=true)(c:S w.drew)(d:T w.drew)(h:AnyE P .any ops Q S T D ops.size (Array.replicate ops.size false) a w.drew):(Code.region id ops true).wp P Q a w:=AnyE.begin b h
theorem AnyE.tp(b:ops[i]?=some oi)(hs:Region.noSelect ops=true)(d:Region.free md ops listed i=true)(e:(Region.ready md ops listed).contains i=true)(f:D.contains i=false)
 (g:∀c a w,Q (.panic c) (a.put oi.dst v) w->Q (.panic c) a w) (j:NoneOf D listed->S w) (l:T w) (m:YieldsIf P ops T oi v a)
 (h:Plan is (AnyE P md ops Q S T D fuel (listed.setIfInBounds i true) (a.put oi.dst v) w)):Plan (i :: is) (AnyE P md ops Q S T D (fuel+1) listed a w):=
 AnyE.takeT b hs d e f g m j l h
theorem AnyE.sp(b:ops[i]?=some oi)(hs:Region.noSelect ops=true)(e:Region.free md ops listed i=true)(f:(Region.ready md ops listed).contains i=true)(hk:D.all (fun k=>waits md ops k i)=true)(g:D.all (fun d=>!(listed.getD d true))=true)
 (j:∀c a w,Q (.panic c) (a.put oi.dst v) w->Q (.panic c) a w) (l:S w) (m:T w) (n:YieldsIf P ops S oi v a)
 (h:Plan is (AnyE P md ops Q S T D fuel (listed.setIfInBounds i true) (a.put oi.dst v) w)):Plan (i :: is) (AnyE P md ops Q S T D (fuel+1) listed a w):=
 AnyE.take b hs e f hk g j n l m h
theorem AnyE.op{o:Oper}(b:Region.ready md ops listed= [i])(c:ops[i]?=some o)
 (h:∀K':Act->World->Prop,Shut (∀a w,((i ∉ D->NoneOf D listed->S w)/\T w)->Plan is (AnyE P md ops Q S T D fuel (listed.setIfInBounds i true) a w)->K' a w)->if Region.wanted o (yielded ops a.tmps)=true then Oper.wp P o a w K' Q else K' (a.put o.dst undef) w):Plan (i :: is) (AnyE P md ops Q S T D (fuel+1) listed a w):=
 AnyE.one b c h
theorem AnyDs.pp(b:ops[i]?=some oi)(hs:Region.noSelect ops=true)(d:Region.free md ops listed i=true)(e:(Region.ready md ops listed).contains i=true)(f:D.contains i=false)
 (g:∀c a w,Q (.panic c) (a.put oi.dst v) w->Q (.panic c) a w) (j:NoneOf D listed->S w) (l:YieldsIf P ops (fun _=>True) oi v a)
 (h:Plan is (AnyDs P md ops Q S D fuel (listed.setIfInBounds i true) (a.put oi.dst v) w)):Plan (i :: is) (AnyDs P md ops Q S D (fuel+1) listed a w):=
 AnyDs.takeP b hs d e f g l j h
theorem AnyDs.sp(b:ops[i]?=some oi)(hs:Region.noSelect ops=true)(e:Region.free md ops listed i=true)(f:(Region.ready md ops listed).contains i=true)(hk:D.all (fun k=>waits md ops k i)=true)(g:D.all (fun d=>!(listed.getD d true))=true)
 (j:∀c a w,Q (.panic c) (a.put oi.dst v) w->Q (.panic c) a w) (l:S w) (m:YieldsIf P ops S oi v a)
 (h:Plan is (AnyDs P md ops Q S D fuel (listed.setIfInBounds i true) (a.put oi.dst v) w)):Plan (i :: is) (AnyDs P md ops Q S D (fuel+1) listed a w):=
 AnyDs.take b hs e f hk g j m l h
variable {k:Nat}
theorem AnyBut.bp(b:ops[i]?=some oi)(hs:Region.noSelect ops=true)(d:Region.free md ops listed i=true)(e:(Region.ready md ops listed).contains i=true)(hk:waits md ops k i=true)
 (f:∀c a w,Q (.panic c) (a.put oi.dst v) w->Q (.panic c) a w) (g:S w) (j:YieldsIf P ops S oi v a)
 (h:Plan is (AnyBut P md ops Q S k fuel (listed.setIfInBounds i true) (a.put oi.dst v) w)):Plan (i :: is) (AnyBut P md ops Q S k (fuel+1) listed a w):=
 AnyBut.take b hs d e hk f j g h
theorem AnyBut.op{o:Oper}(b:Region.ready md ops listed= [i])(c:ops[i]?=some o)
 (h:∀K':Act->World->Prop,Shut (∀a w,(i≠k->S w)->Plan is (AnyBut P md ops Q S k fuel (listed.setIfInBounds i true) a w)->K' a w)->if Region.wanted o (yielded ops a.tmps)=true then Oper.wp P o a w K' Q else K' (a.put o.dst undef) w):Plan (i :: is) (AnyBut P md ops Q S k (fuel+1) listed a w):=
 AnyBut.one b c h
end
end Go.Proofs.YtppkmifkpjkgpaaGreatDoor
