import Derived.Test.YtppkmifkpjkgpaaGreatDoorE12RowsK
namespace Go.Proofs.YtppkmifkpjkgpaaGreatDoor
open Go.RowKit
open Go.Proofs.Tryz
set_option linter.unusedSimpArgs false
set_option linter.unusedVariables false
set_option maxHeartbeats 8000000
set_option maxRecDepth 1000000
theorem Qvp(a:Vx)(cap c:Nat)(hs:Vy)(w:Vz)(h:CRow w a (headsV hs))(hl:hs.length<=1000):
 Calls prog 137 #[.slice a hs.length cap,.int .i64 c] w fun e w'=>(∃v:Int,e=.returned (.int .i64 v)/\(0<=v↔c∈ hs))/\w'=w:=by
 have t:=Hi h;clear h;go_enter func137,ntmps137;go_wp2_with fail;go_loopw [8] (fun i wr=>∃k:Nat,k<=hs.length/\i=.int .i64 k/\(∀j,j<k->hs[j]?≠some c)/\wr=w) (fun i _=>hs.length - (intOf i).toNat)
 case atStart=>exact⟨0,Nat.zero_le _,rfl,fun j g=>by omega,rfl⟩
 case round=>
  obtain⟨k,hk,rfl,f,rfl⟩:=hrel;have p:=Hi f;clear f;by_cases l:k<hs.length
  .
   obtain⟨x,m⟩:∃x,hs[k]?=some x:=⟨hs[k],gE l⟩;obtain⟨b,u,rfl,z,d⟩:=t.o.cell k (.int .i64 (x:Nat)) (by simp[headsV,m]);have q:=Hi m;have A:((k:Int)<(hs.length:Int)):=by omega
   clear m;by_cases r:c=x
   .
    subst r;have y:((c:Int) == (c:Int))=true:=by simp
    go_wp2;go_ret;exact⟨⟨k,rfl,⟨fun _=>mO q.o,fun _=>by omega⟩⟩,rfl⟩
   .
    have y:((c:Int) == (x:Int))=false:=by rw[beq_eq_false_iff_ne];omega
    go_wp2;go_roundw
    case rel=>
     refine⟨k+1,by omega,by go_num,fun j g=>?_,by first|rfl|trivial⟩;rcases Nat.lt_or_ge j k with s|s
     . exact p.o j s
     .
      obtain rfl:j=k:=by omega
      rw[q.o];intro e;injection e with e
      exact r e.symm
    case measure=>simp[intOf];omega
  .
   have n:k=hs.length:=by omega
   subst n;go_wp2;go_ret;refine⟨⟨-1,rfl,⟨fun h=>by omega,fun h=>?_⟩⟩,rfl⟩;obtain⟨j,g⟩:=List.mem_iff_getElem?.1 h;exact absurd g (p.o j (gZ g).1)
theorem Qlj(a:Vx)(cap c:Nat)(hs:Vy)(w:Vz)(h:CRow w a (headsV hs))(hl:hs.length<=1000):
 Calls prog 85 #[.slice a hs.length cap,.int .i64 c] w fun e w'=>e=.returned (.bool (decide (c∈ hs)))/\w'=w:=by
 have g:=Hi h;clear h;go_enter func85,ntmps85;go_wp2_with fail;go_fit (Qvp a cap c hs w g.o hl);rintro e i ⟨⟨v,rfl,d⟩,rfl⟩;by_cases b:c∈ hs
 .
  have q:(0:Int)<=v:=d.2 b;have f:=Hi b;clear d b;go_wp2;go_ret;exact⟨by rw[decide_eq_true f.o];rfl,rfl⟩
 .
  have q:decide ((0:Int)<=v)=false:=decide_eq_false fun h=>b (d.1 h)
  have f:=Hi b;clear d b;go_wp2;go_ret;exact⟨by rw[decide_eq_false f.o];rfl,rfl⟩
theorem Qlk:∀u:Value,u∈ (Value.agg #[.bool false,.slice none 0 0,.slice none 0 0]).cells.toList->True:=fun _ _=>trivial
theorem QRow.one{w:Vz}{a:Vx}{cap:Nat}{c:List FE}(h:QRow w a cap c):∀u,u∈ c.flatMap FE.cells->u.oneCell'=true:=fun u b=>by
 obtain⟨t,d,b⟩:=List.mem_flatMap.1 b;obtain⟨e,f,g⟩:=(h.ts t d).1.one;simp[FE.cells] at b;rcases b with rfl|rfl|rfl
 . exact e
 . exact f
 . exact g
theorem Qvq(a:Vx)(cap:Nat)(d:List FE)(w:Vz)(h:QRow w a cap d)(hl:d.length<=1000):
 Calls prog 145 #[.slice a d.length cap] w fun e w'=>(∃v,e=.returned v/\Grow w' w.heap.size 141 3 (fun _=>True) v d.length (d.flatMap FE.cells))/\Below w.heap.size w w':=by
 obtain⟨L,x,D⟩:=Option.map_eq_some_iff.1 Qer;simp only[Prod.mk.injEq] at D;obtain⟨g,m,hz2⟩:=D;have M:∀(w:Vz) (a:Vx) (n c n' y:Nat),(binOp .eql 93 (.slice a n c) (.slice none n' y)).run prog w=.ok (.bool a.isNone) w:=fun w a n c n' y=>Lib.run_eql_slice_nil w _ _ a n c n' y underlying93
 have H:=Hi h;clear h;cases a with
 |none=>
  have z:d= []:=by
   cases d with
   |nil=>rfl
   |cons r l=>
    obtain⟨b,A,e,_⟩:=H.o.at (i:=0) (e:=r) rfl;cases e
  subst z;clear x g m hz2;go_enter func145,ntmps145;go_wp2;go_ret;exact⟨⟨_,rfl,Grow.nil _ _ _ _ _⟩,Below.refl _ _⟩
 |some ad=>
  obtain⟨W,t⟩:=nm (w.alloc (.cells #[] 141));have f:Below w.heap.size w W:=by rw[<-t];exact(Below.refl _ _).alloc lZ _
  have p:Grow W w.heap.size 141 3 (fun _=>True) (.slice (some ⟨w.heap.size,0,none⟩) 0 0) 0 []:=by rw[<-t];exact Grow.made w _ _ _
  obtain⟨N,w',B,q,s,C⟩:=p.app (P:=prog) (ty:=93) underlying93 x g m hz2 rfl (by decide) Qlk ad d.length cap (d.flatMap FE.cells) (Qa9 (c:=FE.cells) (sz:=3) (fun _=>rfl) d) (fun j u E=>by
   obtain⟨b,A,e,F,G⟩:=H.o.row.row.cell j u E;cases e;rw[Qau]
   exact ce f F G) H.o.one (fun _ _=>trivial) (by omega) (by decide) f.size
  rw[<-t] at B;obtain⟨I,J,K⟩:=Ib B q (f.grown s f.size (fun k hk=>by simp[Value.ownBlock] at hk;omega));clear B q s C p f t x g m hz2;go_enter func145,ntmps145;go_wp2_with (at_builtin;refine Qdp _ rfl _ _ 93 93 rfl (.slice (some ⟨w.heap.size,0,none⟩) 0 0) (.slice (some ad) d.length cap) _ _ rfl rfl I.o ?_);go_wp2;go_ret;refine⟨⟨_,rfl,?_⟩,K.o⟩;have:=J.o;rw[Nat.zero_add,List.nil_append] at this;exact this
theorem Qvr{u:Vz}{B:Nat}{v:Value}{r:MR}{s:FE}{W K:Nat}(j:Grow u B 141 3 (fun _=>True) v (W+1) (r.ts.flatMap FE.cells++FE.cells s))(l:∀t,t∈ r.ts->FracV u (.agg #[t.x,t.y,t.z]) t.q/\Fits t.q t.k/\0<t.k)(hl:r.ts.length=W)(hk:∀t,t∈ r.ts->t.k<=K)(hs:FracV u (.agg #[s.x,s.y,s.z]) s.q/\Fits s.q s.k/\0<s.k)(f:s.k<=K):
 ∃d:MR,v=.slice d.a d.ts.length d.cap/\MOk u (W+1) K d/\d.q=wider W r.q s.q:=by
 obtain⟨a,cap,rfl,m,g,_⟩:=j.slice;have c:(r.ts++ [s]).length=W+1:=by simp[hl]
 have h:(r.ts++ [s]).flatMap FE.cells=r.ts.flatMap FE.cells++FE.cells s:=by simp
 refine⟨⟨a,cap,r.ts++ [s]⟩,by simp[hl],⟨⟨⟨by rw[c];exact m,by rw[h];exact g⟩,fun t b=>?_⟩,c,fun t b=>?_⟩,?_⟩
 .
  rcases List.mem_append.1 b with b|b
  . exact l t b
  . obtain rfl:t=s:=by simpa using b
    exact hs
 .
  rcases List.mem_append.1 b with b|b
  . exact hk t b
  . obtain rfl:t=s:=by simpa using b
    exact f
 .
  funext i;unfold wider;by_cases e:i=W
  .
   rw[if_pos e,MR.q_at (e:=s)];subst e;rw[<-hl];simp
  .
   rw[if_neg e];rcases Nat.lt_or_ge i W with n|n
   . obtain⟨t,b⟩:∃t,r.ts[i]?=some t:=⟨r.ts[i]'(by omega),gE (by omega)⟩
     rw[MR.q_at b,MR.q_at (e:=t) (by rw[List.getElem?_append_left (by omega)];exact b)]
   . rw[MR.q_beyond (by rw[c];omega),MR.q_beyond (by omega)]
theorem Qvs{P:Program}{p:Array Oper}{o:Oper}{a:Act}{u:Vz}{K':Act->World->Prop}{Q:Exit->Act->World->Prop}{E:Prop}(G:o.guard=none)(q x:Operand){t e:Vr}(r:o.op=Op.call { callee:=Callee.builtin Builtin.append,args:=#[q,x],argTypes:=#[t,t] })
 {B:Nat} {i:TypeInfo} {z:Value} {sz bytes:Nat} {K:Value->Prop} {v:Value} {n:Nat} {xs:Vv} {s:Addr} {m c:Nat} (hs:a.eval q=v) (H:a.eval x=.slice (some s) m c) (h:Grow u B e sz K v n xs)
 (I:P.underlying t=some (.slice e)) (J:P.info? e=some i) (L:i.zero=some z) (b:i.size=sz) (y:i.bytes=bytes) (A:z.cells.size=sz) (C:0<sz) (D:∀u,u∈ z.cells.toList->K u)
 (news:Vv) (hl:news.length=m*sz) (d:∀j w,news[j]?=some w->u.cell? (s.add j)=some w) (M:∀u,u∈ news->u.oneCell'=true) (N:∀u,u∈ news->K u)
 (F:n+m<=1048576) (k:bytes<=1000) (f:B<=u.heap.size)
 (O:∀g l,Grow l B e sz K g (n+m) (xs++news)->u.grownBy l v.ownBlock->(g.ownBlock=v.ownBlock∨g.ownBlock=some u.heap.size)->K' (a.put o.dst g) l):
 if Region.wanted o (yielded p a.tmps)=true then Oper.wp P o a u K' Q else E:=by
 obtain⟨g,l,R,S,T,U⟩:=h.app (P:=P) (ty:=o.type) I J L b y A C D s m c news hl d M N F k f;exact Qa4 G q x r hs H R (O g l S T U)
theorem Qvt{w:Vz}{b:Nat}{t:Vr}{x y z:Value}(h:SB w b t #[x,y,z]):∀(j:Nat) (u:Value),[x,y,z][j]?=some u->w.cell? ((⟨b,0,none⟩:Addr).add j)=some u:=fun j u a=>by
 rw[Qau,h.cell,Nat.zero_add,<-a];simp
theorem Qvu{w:Vz}{g k:Nat}{t:Vr}{c:List MR}{b:MR}(h:SB w g t (c.flatMap MR.cells).toArray)(hk:c[k]?=some b):w.cell? ⟨g,k,none⟩=some (.slice b.a b.ts.length b.cap):=by
 rw[h.cell,Qes];simp[hk,MR.val]
theorem Qvv{w:Vz}{g b i:Nat}{t:Vr}{e:List MR}{x y z:Value}{q:Rat}(h:SB w g t (e.flatMap MR.cells).toArray)(f:w.cell? ⟨b,i,none⟩=some x)(n:FracV w (.agg #[x,y,z]) q):b≠g:=by
 rintro rfl;rw[h.cell] at f;obtain⟨_,_,_,j⟩:=mr_sl e x (mO (by simpa using f));obtain⟨neg,a,m,c,b,k,d,l,_⟩:=n;simp at l;rw[l.1] at j;cases j
theorem Qaq{w u:Vz}(h:Below w.heap.size w u)(o:Obj):Below w.heap.size w (u.alloc o):=h.alloc h.size o
theorem Qar{w u:Vz}(h:Below w.heap.size w u):Below w.heap.size w u.drew:=h.drew
theorem Qvw{w:Vz}{B:Nat}{e:Vr}{sz:Nat}{K:Value->Prop}{v:Value}{n:Nat}{xs:Vv}(h:Grow w B e sz K v n xs)(o:Obj):Grow (w.alloc o) B e sz K v n xs:=h.below (bR.alloc lZ _)
theorem Qvx{w:Vz}{B:Nat}{e:Vr}{sz:Nat}{K:Value->Prop}{v:Value}{n:Nat}{xs:Vv}(h:Grow w B e sz K v n xs):Grow w.drew B e sz K v n xs:=h.below bR.drew
theorem Qvy{w u:Vz}{a:Vx}{cap:Nat}{c:List FE}(h:QRow w a cap c)(hl:c.length<=1000)(d:Below w.heap.size w u):
 Calls prog 145 #[.slice a c.length cap] u fun e f=>(∃v,e=.returned v/\Grow f w.heap.size 141 3 (fun _=>True) v c.length (c.flatMap FE.cells))/\Below w.heap.size w f/\∀b t C,SB u b t C->SB f b t C:=by
 refine(Qvq a cap c u (h.below d) hl).mono ?_;rintro e f ⟨⟨v,rfl,i⟩,g⟩;exact⟨⟨v,rfl,i.mono d.size⟩,d.trans (g.mono d.size),fun b t C hs=>hs.below g hs.lt⟩
theorem Qvz{h:Array Oper}{o:Oper}{a:Act}{u:Vz}{K':Act->World->Prop}{Q:Exit->Act->World->Prop}{E:Prop}(I:o.guard=none)(i x:Operand)(j:o.op=Op.call { callee:=Callee.builtin Builtin.append,args:=#[i,x],argTypes:=#[93,93] })
 {w:Vz} {v:Value} {r:MR} {s:FE} {W K nb c:Nat} (J:a.eval i=v) (L:a.eval x=.slice (some ⟨nb,0,none⟩) 1 c) (hG:Grow u w.heap.size 141 3 (fun _=>True) v W (r.ts.flatMap FE.cells)) (hB:Below w.heap.size w u) (hC:SB u nb 141 #[s.x,s.y,s.z])
 (B:QRow w r.a r.cap r.ts) (hl:r.ts.length=W) (T:W<=1000) (hk:∀t,t∈ r.ts->t.k<=K) (hs:FracV w (.agg #[s.x,s.y,s.z]) s.q/\Fits s.q s.k/\0<s.k) (l:s.k<=K)
 (M:∀b m,MOk m (W+1) K b->b.q=wider W r.q s.q->Below w.heap.size w m->K' (a.put o.dst (.slice b.a b.ts.length b.cap)) m):
 if Region.wanted o (yielded h a.tmps)=true then Oper.wp prog o a u K' Q else E:=by
 obtain⟨U,N,C⟩:=Option.map_eq_some_iff.1 Qer;simp only[Prod.mk.injEq] at C;obtain⟨n,p,hz2⟩:=C;obtain⟨O,R,S⟩:=hs.1.one;refine Qvs (P:=prog) I i x j J L hG underlying93 N n p hz2 rfl (by decide) Qlk [s.x,s.y,s.z] rfl (Qvt hC) (fun u D=>by
  simp at D;rcases D with rfl|rfl|rfl
  . exact O
  . exact R
  . exact S) (fun _ _=>trivial) (by omega) (by decide) hB.size ?_
 intro V F e f G;have d:=hB.grown f hB.size (fun k hk=>(hG.lt hk).1);obtain⟨b,rfl,g,A⟩:=Qvr (u:=F) (r:=r) (s:=s) (W:=W) (K:=K) e (fun t H=>⟨(B.ts t H).1.below d,(B.ts t H).2⟩) hl hk ⟨hs.1.below d,hs.2⟩ l;exact M b F g A d
theorem Qv0(a a':Vx)(cap cap' W K:Nat)(rs:List MR)(E:List FE)(w:Vz)(h:QMat w a cap W rs)(hk:∀r,r∈ rs->∀t,t∈ r.ts->t.k<=K)(h':QRow w a' cap' E)(m:∀t,t∈ E->t.k<=K)(P:E.length=rs.length)(hl:rs.length<=1000)(hW:W<=1000):
 Calls prog 100 #[.slice a rs.length cap,.slice a' rs.length cap'] w fun e w'=>(∃(g:Nat) (n:List MR),e=.returned (.slice (some ⟨g,0,none⟩) rs.length rs.length)/\n.length=rs.length/\SB w' g 93 (n.flatMap MR.cells).toArray/\Oks w' (W+1) K n/\∀(i:Nat) (r:MR) (s:FE),rs[i]?=some r->E[i]?=some s->∃c,n[i]?=some c/\c.q=wider W r.q s.q)/\Below w.heap.size w w':=by
 obtain⟨HH,HK⟩:=Ia h hk;have Q:=Hi h';have ai:=Hi m;have A:=Hi P;clear P;have R:=fun w=>Qle rs.length (by omega) w
 obtain⟨MC,I⟩:=nm (((List.replicate rs.length MR.none).flatMap MR.cells).toArray);rw[I] at R;have aj:=Hi I;clear h hk h' m I;obtain⟨i0,J,hz⟩:=Option.map_eq_some_iff.1 Qer;simp only[Prod.mk.injEq] at hz;obtain⟨S,T,hz2⟩:=hz;obtain⟨HI,a1,a2,a3⟩:=Ic J S T hz2;clear J S T hz2;go_enter func100,ntmps100;go_wp2_with fail;clear R;obtain⟨g,U⟩:=nm w.heap.size;obtain⟨V,hV⟩:=nm (w.alloc (.cells MC 93));have ak:O (Below g w V):=Hi (by rw[<-hV,<-U];exact(Below.refl _ _).alloc lZ _);have al:O (SB V g 93 ((List.replicate rs.length MR.none).flatMap MR.cells).toArray):=Hi (by rw[<-hV,<-U,aj.o];exact SB.new w _ _)
 try rw[hV]
 try rw[U]
 clear hV;go_loopw [13] (fun i wr=>∃(k:Nat) (B:List MR),k<=rs.length/\i=.int .i64 k/\B.length=rs.length/\SB wr g 93 (B.flatMap MR.cells).toArray/\(∀(i:Nat) (r:MR) (s:FE),i<k->rs[i]?=some r->E[i]?=some s->∃c,B[i]?=some c/\MOk wr (W+1) K c/\c.q=wider W r.q s.q)/\Below g w wr) (fun i _=>rs.length - (intOf i).toNat)
 case atStart=>exact⟨0,_,by omega,rfl,by simp,al.o,fun i r s J=>by omega,ak.o⟩
 case round=>
  obtain⟨k,B,hk,rfl,X,L,F,hb⟩:=hrel;obtain⟨HB,C,HA⟩:=Ib hb L F;have am:=L.lt;clear hb L F;by_cases an:k<rs.length
  .
   obtain⟨r,l⟩:∃r,rs[k]?=some r:=⟨rs[k],gE an⟩;obtain⟨s,hs⟩:∃s,E[k]?=some s:=⟨E[k]'(by have:=A.o;omega),gE (by have:=A.o;omega)⟩;have f:Below w.heap.size w wr:=by rw[U];exact HB.o
   obtain⟨fb,a4,rfl,a5,d⟩:=(HH.o.below f).at l;obtain⟨hq,Y⟩:=(HH.o.below f).get l;obtain⟨sb,so,rfl,G,d0,d1,d2⟩:=(Q.o.below f).at hs;obtain⟨M,HQ,HR,ao,ap,aq⟩:=Ie ((Q.o.below f).get hs) hq l hs (HK.o r (mO l)) (ai.o s (mO hs));obtain⟨o1,o2,o3⟩:=M.o.1.one;have a6:O (∀u,u∈ [s.x,s.y,s.z]->u.oneCell'=true):=Hi (fun u hu=>by
    simp at hu;rcases hu with rfl|rfl|rfl
    . exact o1
    . exact o2
    . exact o3)
   have q1:((k:Int)<(rs.length:Int)):=by omega
   clear l hs hq f o1 o2 o3;have D:r.ts.length<=1000:=by omega
   have Z:=Hi (fun u=>Qvy (u:=u) HQ.o D);rw[Y] at Z;have az:=C;obtain⟨r0,aa⟩:∃r0,B[k]?=some r0:=⟨B[k]'(by omega),gE (by omega)⟩;obtain⟨ar,D0,D1,D2⟩:=Ic aa d0 d1 d2;clear aa;go_wp2_with fail;go_region_held3 (fun v=>v.cell? ⟨sb,so+k*3,none⟩=some s.x/\v.cell? ⟨sb,so+k*3+1,none⟩=some s.y/\v.cell? ⟨sb,so+k*3+2,none⟩=some s.z) ((first|(simp [*];done)|go_keep)) (first
    |(
     go_at_call 145;apply cM;apply Z.o;(focus(repeat(first|exact Below.refl _ _|apply Qaq|apply Qar)));rintro e1 w1 ⟨⟨v1,rfl,ab⟩,ad,ae⟩;obtain⟨N,au,av⟩:=Ib ad ab ae;clear ab ad ae;obtain⟨d0,d1,d2⟩:=Jb N.o G D0.o D1.o D2.o;have a7:=N.o.size
     skip)
    |(
     refine Qvz rfl (.tmp 21) (.tmp 26) rfl (w:=wr) (v:=v1) (r:=r) (s:=s) (W:=W) (K:=K) rfl rfl ?hG ?hB ?hC HQ.o Y hW ap.o M.o aq.o ?_
     case hG=>(focus(repeat(first|exact au.o|apply Qvw|apply Qvx)))
     case hB=>(focus(repeat(first|exact N.o|apply Qaq|apply Qar)))
     case hC=>(first|exact SB.new _ _ _|exact av.o _ _ _ (SB.new _ _ _))
     intro c w2 H af ag;obtain⟨j,aw⟩:=Ia ag H;have ax:=Hi af;clear H af ag;have b:=Hi (C.o.below j.o C.o.lt);obtain⟨d0,d1,d2⟩:=Jb j.o G D0.o D1.o D2.o;have f0:=b.o.free k;have t0:=Qvu b.o ar.o;have ay:=Qvv b.o d0 (M.o.1.below j.o);have a0:=ay.symm
     skip)
    |fail)
   all_goals
    go_wp2_with fail;have ho:Only g w2 (w2.setCell ⟨g,k,none⟩ (.slice c.a c.ts.length c.cap)):=(Only.refl _ _).setCell _ _;have ah:=Fr.of_only ho b.o (IsSl.plain fun u hu=>mr_sl B u (by simpa using hu));refine⟨⟨k+1,B.set k c,by omega,by go_num,by rw[List.length_set];exact X,?_,?_,(HB.o.trans (j.o.mono (Nat.le_of_lt am))).setCell (p:=⟨g,k,none⟩) lZ _⟩,?_⟩
    .
     have:=b.o.set k (.slice c.a c.ts.length c.cap);rw[Qld]
     simpa using this
    .
     intro i x y J hx hy;rcases Nat.lt_or_ge i k with h1|h1
     . obtain⟨z,z1,z2,z3⟩:=HA.o i x y h1 hx hy
       exact⟨z,by rw[List.getElem?_set_ne (by omega)];exact z1,(z2.fr (Fr.of_below j.o)).fr ah,z3⟩
     .
      obtain rfl:i=k:=by omega
      obtain rfl:=Option.some.inj (HR.o.symm.trans hx);obtain rfl:=Option.some.inj (ao.o.symm.trans hy);exact⟨c,by rw[List.getElem?_set_self (by omega)],aw.o.fr ah,ax.o⟩
    . simp[intOf]
      omega
  .
   have m:k=rs.length:=by omega
   subst m;go_wp2;go_ret;rw[U];refine⟨⟨g,B,rfl,X,C.o,fun r l=>?_,fun i r s l hs=>?_⟩,HB.o⟩
   .
    obtain⟨i,J⟩:=List.mem_iff_getElem?.1 l;have a8:=(gZ J).1;obtain⟨z,z1,z2,_⟩:=HA.o i (rs[i]'(by omega)) (E[i]'(by have:=A.o;omega)) (by omega) (gE (by omega)) (gE (by have:=A.o;omega));obtain rfl:=Option.some.inj (J.symm.trans z1);exact z2
   . obtain⟨z,z1,_,z3⟩:=HA.o i r s (gZ l).1 l hs
     exact⟨z,z1,z3⟩
def redFits(K:Nat)(r:Vec):List Vec->List Nat->Prop
 |t :: T,h :: hs=>(∀i,Fits (r i) K)/\redFits K (fun i=>r i - t i*r h) T hs
 |_,_=>∀i,Fits (r i) K
def clnFits(K:Nat):List Vec->List Nat->Prop
 |r :: S,h :: hs=>clnFits K S hs/\redFits K (fun i=>r i / r h) (cln S hs) hs
 |_,_=>True
theorem redFits.here{K:Nat}{r:Vec}:∀{T:List Vec} {hs:Vy},redFits K r T hs->∀i,Fits (r i) K
 |_ :: _,_ :: _,h=>h.1
 | [],_,h=>by unfold redFits at h;exact h
 |_ :: _,[],h=>by unfold redFits at h;exact h
theorem clnFits.drop{K:Nat}:∀{S:List Vec} {hs:Vy} (i:Nat),clnFits K S hs->clnFits K (S.drop i) (hs.drop i)
 |_,_,0,h=>h
 |r :: S,h :: hs,i+1,k=>clnFits.drop i k.1
 | [],_,i+1,h=>by rw[List.drop_nil];trivial
 |r :: S,[],i+1,h=>by
  rw[List.drop_nil];generalize List.drop (i+1) (r :: S)=T;cases T<;>simp[clnFits]
structure CW (w u:Vz) (B W K:Nat) (S:List MR) (hs:Vy) (wd sv hv:Value):Prop where
 box:SB u w.heap.size 135 #[wd,sv,hv]
 rows:Grow u B 93 1 IsSl sv S.length (S.map MR.val)
 heads:Grow u B 3 1 IsI hv hs.length (headsV hs)
 ok:Oks u W K S
 base:∀k,k<w.heap.size->sv.ownBlock≠some k->u.heap[k]?=w.heap[k]?
 o:u.os=w.os/\u.tape=w.tape/\u.output=w.output/\w.heap.size<=u.heap.size
section
variable {w u:Vz} {B W K:Nat} {S:List MR} {hs:Vy} {wd sv hv:Value}
theorem CW.below{c:Vz}(h:CW w u B W K S hs wd sv hv)(a:Bl u c):CW w c B W K S hs wd sv hv:=
 ⟨h.box.below a h.box.lt,h.rows.below a,h.heads.below a,h.ok.fr (Fr.of_below a),fun k hk b=>(a.block k (Nat.lt_of_lt_of_le hk h.o.2.2.2)).trans (h.base k hk b),⟨a.os.trans h.o.1,a.tape.trans h.o.2.1,a.output.trans h.o.2.2.1,Nat.le_trans h.o.2.2.2 a.size⟩⟩
theorem CW.set{g cap m n:Nat}{r:MR}(h:CW w u B W K S hs wd (.slice (some ⟨g,0,none⟩) n cap) hv)(f:n=S.length)(i:m<S.length)(j:MOk u W K r):CW w (u.setCell ⟨g,m,none⟩ r.val) B W K (S.set m r) hs wd (.slice (some ⟨g,0,none⟩) n cap) hv:=by
 subst f;have a:Only g u (u.setCell ⟨g,m,none⟩ r.val):=(Only.refl _ _).setCell _ _;obtain⟨C,c1,c2⟩:=h.rows.sb (g:=g) rfl;have b:=Fr.of_only a c1 (IsSl.plain c2);refine⟨h.box.only a (h.box.unlike c1 row_stairs.symm),?_,h.heads.keep fun k hk=>a.block k (h.heads.lt hk).2 ?_,fun x d=>?_,fun k hk c=>?_,⟨a.os.trans h.o.1,a.tape.trans h.o.2.1,a.output.trans h.o.2.2.1,Nat.le_trans h.o.2.2.2 a.size⟩⟩
 . rw[List.length_set,List.map_set]
   exact h.rows.set i ⟨_,_,_,rfl⟩
 . obtain⟨D,d1,_⟩:=h.heads.sb hk
   exact d1.unlike c1 int_row
 .
  rcases List.mem_or_eq_of_mem_set d with d|rfl
  . exact(h.ok x d).fr b
  . exact j.fr b
 .
  refine(a.block k (Nat.lt_of_lt_of_le hk h.o.2.2.2) (fun e=>c ?_)).trans (h.base k hk c);subst e;rfl
end
theorem Qv1(x:Rat):(0:Rat) / x=0:=by grind
theorem Qv2(x:Rat):(0:Rat) - 0*x=0:=by grind
theorem Grow.crow{w:Vz}{B sz l cap:Nat}{e:Vr}{K:Value->Prop}{a:Vx}{n:Nat}{xs:Vv}(h:Grow w B e sz K (.slice a l cap) n xs):CRow w a xs:=by
 obtain⟨d,cap',e,_,b,_⟩:=h.slice;injection e with c _ _
 rw[c];exact b
theorem Qv3{r t:Vec}{h:Nat}{T:List Vec}{hs:Vy}(a:r h=0):red r (t :: T) (h :: hs)=red r T hs:=by
 have e:(fun i=>r i - t i*r h)=r:=by funext i;rw[a];grind
 simp only[red];rw[e]
theorem redFits.next{K:Nat}{r t:Vec}{h:Nat}{T:List Vec}{hs:Vy}(k:redFits K r (t :: T) (h :: hs)):redFits K (fun i=>r i - t i*r h) T hs:=k.2
theorem redFits.skip{K:Nat}{r t:Vec}{h:Nat}{T:List Vec}{hs:Vy}(k:redFits K r (t :: T) (h :: hs))(a:r h=0):redFits K r T hs:=by
 have e:(fun i=>r i - t i*r h)=r:=by funext i;rw[a];grind
 have:=k.2;rw[e] at this;exact this
theorem Qdk{α:Type}{l:List α}{i:Nat}{x:α}(h:l[i]?=some x):l.drop i=x :: l.drop (i+1):=by
 obtain⟨a,b⟩:=gZ h;rw[List.drop_eq_getElem_cons a,b]
theorem Qv4{K:Nat}{S a:List MR}{hs:Vy}{j h:Nat}{r:MR}(hl:S.length=hs.length)(e:S[j]?=some r)(f:hs[j]?=some h)(g:(a.drop (j+1)).map MR.q=cln ((S.map MR.q).drop (j+1)) (hs.drop (j+1)))(k:clnFits K (S.map MR.q) hs):
 cln ((S.map MR.q).drop j) (hs.drop j)=red (fun i=>r.q i / r.q h) ((a.drop (j+1)).map MR.q) (hs.drop (j+1)) :: (a.drop (j+1)).map MR.q/\redFits K (fun i=>r.q i / r.q h) ((a.drop (j+1)).map MR.q) (hs.drop (j+1)):=by
 have b:(S.map MR.q).drop j=r.q :: (S.map MR.q).drop (j+1):=Qdk (by rw[List.getElem?_map,e];rfl);have c:=Qdk f;have d:=k.drop j;rw[b,c] at d;rw[b,c,g];exact⟨rfl,d.2⟩
theorem Qf4:∀(W:Nat) (r s x:Vec),dot W (fun i=>r i+s i) x=dot W r x+dot W s x
 |0,_,_,_=>by simp only[dot];grind
 |W+1,r,s,x=>by simp only[dot,Qf4 W r s x];grind
theorem Qc7:∀(W:Nat) (r x:Vec) (q:Rat),dot W (fun i=>r i*q) x=dot W r x*q
 |0,_,_,_=>by simp[dot]
 |W+1,r,x,q=>by simp only[dot,Qc7 W r x q];grind
def Span(k:Nat)(R:Nat->Vec)(v:Vec):Prop:=∃l:Vec,∀j,v j=dot k l (fun i=>R i j)
def MI(W N:Nat)(M:List Vec)(c:Nat)(L S:List Vec)(hs:Vy):Prop:=
 hs.length<=c/\(hs.length+L.length<=N∨hs.length<=N/\W<=N)/\(∀v,v∈ L->∀i,W<=i->v i=0)/\
 ∃R:Nat->Vec,(∀i,i<hs.length->R i∈ M)/\
  (∀m:Vec,(∀h,h∈ hs->dot hs.length m (fun i=>R i h)=0)->∀i,i<hs.length->m i=0)/\
  (∀v,v∈ L->∃r,r∈ M/\∃l:Vec,(∀j,v j=r j - dot hs.length l (fun i=>R i j))/\∀h,h∈ hs->v h=0)/\∀s,s∈ S->Span hs.length R s
theorem MI.start(W N:Nat)(M:List Vec)(b:∀v,v∈ M->∀i,W<=i->v i=0)(e:M.length<=N∨W<=N):MI W N M 0 M [] []:=
 ⟨Nat.le_refl _,by simp only[List.length_nil];omega,b,fun _ _=>0,fun i a=>absurd a (by simp),fun m _ i a=>absurd a (by simp),fun v c=>⟨v,c,fun _=>0,fun j=>by simp[dot,Rat.sub_eq_add_neg,Rat.add_zero],fun h d=>by cases d⟩,fun s hs=>by cases hs⟩
theorem MI.skip{W N:Nat}{M:List Vec}{c:Nat}{L S:List Vec}{hs:Vy}(h:MI W N M c L S hs):MI W N M (c+1) L S hs:=by
 obtain⟨e,a,b,d⟩:=h;exact⟨by omega,a,b,d⟩
theorem MI.step{W N:Nat}{M:List Vec}{c j:Nat}{L S:List Vec}{hs:Vy}{s:Vec}(h:MI W N M c L S hs)(E:L[j]?=some s)(x:s c≠0):
 MI W N M (c+1) ((L.eraseIdx j).map (lessBy c s)) (S++ [s]) (hs++ [c]):=by
 obtain⟨h1,h2,y,R,O,P,F,Q⟩:=h;have k:s∈ L:=mO E;have z:j<L.length:=(gZ E).1;have A:((L.eraseIdx j).map (lessBy c s)).length=L.length - 1:=by rw[List.length_map,List.length_eraseIdx_of_lt z]
 obtain⟨r,T,l,hl,G⟩:=F s k;have a:(hs++ [c]).length=hs.length+1:=by simp
 have U:c<W:=bC fun hn=>x (y s k c (by omega))
 have b:∀(m:Vec) (i:Nat),dot (hs.length+1) m (fun t=>(if t=hs.length then r else R t) i)=dot hs.length m (fun t=>R t i)+m hs.length*r i:=fun m i=>by
  simp only[dot];rw[Qai hs.length m _ m (fun t=>R t i) (fun t o=>by rw[if_neg (by omega)])];simp
 refine⟨by rw[a];omega,by rw[a,A];omega,?_,fun t=>if t=hs.length then r else R t,?_,?_,?_,?_⟩
 .
  intro v e i p;obtain⟨u,B,rfl⟩:=List.mem_map.1 e;have n:=List.mem_of_mem_eraseIdx B;simp only[lessBy];rw[y u n i p,y s k i p];grind
 .
  intro i p;rw[a] at p;by_cases w:i=hs.length
  . show (if i=hs.length then r else R i)∈ M
    rw[if_pos w];exact T
  . show (if i=hs.length then r else R i)∈ M
    rw[if_neg w];exact O i (by omega)
 .
  intro m H;rw[a] at H ⊢;have q:∀h,h∈ hs++ [c]->dot hs.length m (fun t=>R t h)+m hs.length*r h=0:=fun h d=>by rw[<-b];exact H h d
  have f:∀i,r i=s i+dot hs.length l (fun t=>R t i):=fun i=>by rw[hl i];grind
  have g:∀h,dot hs.length (fun t=>m t+l t*m hs.length) (fun t=>R t h)=dot hs.length m (fun t=>R t h)+dot hs.length l (fun t=>R t h)*m hs.length:=fun h=>by rw[Qf4,Qc7]
  have hk:=P (fun t=>m t+l t*m hs.length) (fun h d=>by
   rw[g];have V:=q h (by simp[d]);rw[f h,G h d] at V
   grind)
  have X:=q c (by simp);rw[f c] at X;have Y:dot hs.length (fun t=>m t+l t*m hs.length) (fun t=>R t c)=0:=Qbm _ _ _ (fun t o=>by rw[hk t o];grind);rw[g] at Y;have Z:m hs.length*s c=0:=by grind
  have I:m hs.length=0:=by
   rcases Rat.mul_eq_zero.1 Z with h|h
   . exact h
   . exact absurd h x
  intro i p;by_cases w:i=hs.length
  . rw[w];exact I
  .
   have:=hk i (by omega);simp only[I] at this;grind
 .
  intro v e;obtain⟨u,B,rfl⟩:=List.mem_map.1 e;have n:=List.mem_of_mem_eraseIdx B;obtain⟨r',C,J,D,f⟩:=F u n;refine⟨r',C,fun t=>if t=hs.length then u c / s c else J t - l t*(u c / s c),fun i=>?_,fun h d=>?_⟩
  .
   rw[a,b];rw[Qai hs.length _ _ (fun t=>J t - l t*(u c / s c)) (fun t=>R t i) (fun t o=>by rw[if_neg (by omega)]),Qbn];simp only[lessBy,if_true];rw[D i,hl i];grind
  .
   simp only[lessBy];rcases List.mem_append.1 d with d|d
   . rw[f h d,G h d];grind
   .
    simp only[List.mem_singleton] at d;subst d;rw[Rat.div_def,Rat.mul_comm (u h),<-Rat.mul_assoc,Rat.mul_inv_cancel _ x];grind
 .
  intro v e;rw[a];rcases List.mem_append.1 e with e|e
  .
   obtain⟨K,e0⟩:=Q v e;refine⟨fun t=>if t=hs.length then 0 else K t,fun i=>?_⟩;rw[b,Qai hs.length _ _ K (fun t=>R t i) (fun t o=>by rw[if_neg (by omega)]),e0 i];simp only[if_true];grind
  .
   simp only[List.mem_singleton] at e;subst e;refine⟨fun t=>if t=hs.length then 1 else l t*(-1),fun i=>?_⟩;rw[b,Qai hs.length _ _ (fun t=>l t*(-1)) (fun t=>R t i) (fun t o=>by rw[if_neg (by omega)]),Qc7,hl i];simp only[if_true];grind
theorem Qf5:∀(n:Nat) (u x:Nat->Int),((Sg.isum n (fun j=>u j*x j):Int):Rat)=dot n (fun j=>(x j:Rat)) (fun j=>(u j:Rat))
 |0,_,_=>by simp[Sg.isum,dot]
 |n+1,u,x=>by
  simp only[Sg.isum,dot];rw[Rat.intCast_add,Rat.intCast_mul,Qf5 n u x];grind
theorem Qf6:∀(W:Nat) (r x:Vec) (q:Rat),dot W r (fun i=>x i*q)=dot W r x*q
 |0,_,_,_=>by simp[dot]
 |W+1,r,x,q=>by simp only[dot,Qf6 W r x q];grind
theorem Qf7{v:Rat}{Z y:Int}{d K:Nat}(c:y≠0)(f:0<d)(e:v*((y:Rat)*(d:Rat))=(Z:Rat))(q:Z.natAbs<2 ^ K)(g:y.natAbs*d<2 ^ K)(i:0<K):Fits v K:=by
 have j:(y:Rat)≠0:=by
  intro h;exact c (Rat.intCast_inj.1 (by rw[h];rfl))
 have k:(d:Rat)≠0:=by
  intro h;have:d=0:=Rat.natCast_inj.1 (by rw[h];rfl);omega
 have l:∃a:Int,a.natAbs=Z.natAbs/\v*((y.natAbs*d:Nat):Rat)=(a:Rat):=by
  rw[Rat.natCast_mul];rcases Int.natAbs_eq y with b|b
  .
   refine⟨Z,rfl,?_⟩;rw[<-e];have:(y:Rat)=((y.natAbs:Nat):Rat):=by
    rw[<-Rat.intCast_natCast,<-b]
   rw[this]
  .
   refine⟨-Z,Int.natAbs_neg Z,?_⟩;have:(y:Rat)= -((y.natAbs:Nat):Rat):=by
    rw[<-Rat.intCast_natCast,<-Rat.intCast_neg,<-b]
   rw[Rat.intCast_neg,<-e,this];grind
 obtain⟨a,r,m⟩:=l;have n:0<y.natAbs*d:=Nat.mul_pos (by omega) f;have o:((y.natAbs*d:Nat):Rat)≠0:=by
  intro h;have:y.natAbs*d=0:=Rat.natCast_inj.1 (by rw[h];rfl);omega
 have p:v=mkRat a (y.natAbs*d):=by
  rw[Rat.mkRat_eq_div,<-m,Rat.div_def,Rat.mul_assoc,Rat.mul_inv_cancel _ o,Rat.mul_one]
 rw[p];exact Fits.mk (by omega) g i
theorem MI.fit{W0 W a K:Nat}{M:List Vec}{D:Nat->Nat}(U:0<a)(C:∀j,0<D j/\D j<=a)(hM:∀r,r∈ M->∀j,∃z:Int,r j*(D j:Rat)=(z:Rat)/\z.natAbs<=a)
 (hK:(W+1)*(a*(2*((W+1)*a)) ^ W)<2 ^ K) (E:0<K) {c:Nat} {L S:List Vec} {hs:Vy} (h:MI W0 W M c L S hs):∀v,v∈ L->∀j,Fits (v j) K:=by
 obtain⟨_,F,_,R,V,G,hL,_⟩:=h;intro v hv j;obtain⟨r,hr,l,hl,H⟩:=hL v hv;obtain⟨k,hk⟩:=nm hs.length;rw[hk] at F V G hl;replace F:k<=W:=by omega
 have I:∀t,t<k+1->(if t=k then r else R t)∈ M:=fun t b=>by
  by_cases A:t=k
  . rw[if_pos A];exact hr
  . rw[if_neg A];exact V t (by omega)
 have d:∀t,t<k+1->∀i,(if t=k then r else R t) i*(D i:Rat)=((((if t=k then r else R t) i*(D i:Rat)).num:Int):Rat)/\(((if t=k then r else R t) i*(D i:Rat)).num).natAbs<=a:=fun t b i=>by
  obtain⟨z,e,H⟩:=hM _ (I t b) i;rw[e,Rat.num_intCast];exact⟨rfl,H⟩
 obtain⟨y,⟨X,aa,o⟩,hy,s⟩:=Sg.siegel k a U (fun t i=>((if i=k then r else R i) (hs.getD t 0)*(D (hs.getD t 0):Rat)).num) (fun t i b hi=>by
  have:=(d i hi (hs.getD t 0)).2
  omega)
 have u:∀i,dot (k+1) (fun t=>(y t:Rat)) (fun t=>(if t=k then r else R t) i)=dot k (fun t=>(y t:Rat)) (fun t=>R t i)+(y k:Rat)*r i:=fun i=>by
  simp only[dot];rw[Qai k _ _ (fun t=>(y t:Rat)) (fun t=>R t i) (fun t b=>by rw[if_neg (by omega)])];simp
 have m:∀i,((Sg.isum (k+1) (fun t=>((if t=k then r else R t) i*(D i:Rat)).num*y t):Int):Rat)=(dot k (fun t=>(y t:Rat)) (fun t=>R t i)+(y k:Rat)*r i)*(D i:Rat):=fun i=>by
  rw[Qf5,<-u,<-Qf6];exact Qai _ _ _ _ _ (fun t b=>by rw[<-(d t b i).1])
 have J:∀i,(D i:Rat)≠0:=fun i h=>by
  have p:D i=0:=Rat.natCast_inj.1 (by rw[h];rfl);have:=(C i).1;omega
 have f:∀h,h∈ hs->dot k (fun t=>(y t:Rat)) (fun t=>R t h)+(y k:Rat)*r h=0:=fun h q=>by
  obtain⟨t,b,e⟩:=List.mem_iff_getElem.1 q;have p:=hy t (by omega);have N:hs.getD t 0=h:=by rw[List.getD_eq_getElem?_getD,gE b,e];rfl
  simp only[N] at p;have B:=m h;rw[p] at B;rcases Rat.mul_eq_zero.1 B.symm with O|O
  . exact O
  . exact absurd O (J h)
 have P:y k≠0:=by
  intro Z;have w:=G (fun t=>(y t:Rat)) (fun h q=>by
   have:=f h q;rw[Z,show ((0:Int):Rat)=0 from rfl] at this
   grind)
  by_cases A:X=k
  . rw[A] at o;exact o Z
  . have:=w X (by omega)
    exact o (Rat.intCast_inj.1 (by rw[this];rfl))
 have n:∀i,dot k (fun t=>(y t:Rat)+l t*(y k:Rat)) (fun t=>R t i)=dot k (fun t=>(y t:Rat)) (fun t=>R t i)+dot k l (fun t=>R t i)*(y k:Rat):=fun i=>by rw[Qf4,Qc7]
 have x:=G (fun t=>(y t:Rat)+l t*(y k:Rat)) (fun h q=>by
  rw[n];have e1:=f h q;have N:=hl h;rw[H h q] at N
  grind)
 have Q:dot k (fun t=>(y t:Rat)+l t*(y k:Rat)) (fun t=>R t j)=0:=Qbm _ _ _ (fun t b=>by rw[x t b];grind);rw[n] at Q;have T:v j*((y k:Rat)*(D j:Rat))=((Sg.isum (k+1) (fun t=>((if t=k then r else R t) j*(D j:Rat)).num*y t):Int):Rat):=by
  rw[m,hl j];grind
 have g:(2*((k+1)*a)) ^ k<=(2*((W+1)*a)) ^ W:=
  Nat.le_trans (Nat.pow_le_pow_left (Nat.mul_le_mul_left _ (Nat.mul_le_mul_right _ (by omega))) k) (Nat.pow_le_pow_right (Nat.mul_pos (by omega) (Nat.mul_pos (by omega) U)) F)
 obtain⟨Y,hY⟩:=nm ((2*((W+1)*a)) ^ W);rw[hY] at g hK;have hb:=Sg.isum_le (k+1) (fun t=>((if t=k then r else R t) j*(D j:Rat)).num*y t) (-((a*Y:Nat):Int)) ((a*Y:Nat):Int) (fun t b=>by
  have p:=(d t b j).2;have B:(((if t=k then r else R t) j*(D j:Rat)).num*y t).natAbs<=a*Y:=by
   rw[Int.natAbs_mul];exact Nat.mul_le_mul p (Nat.le_trans (s t) g)
  omega)
 have ab:(k+1)*(a*Y)<=(W+1)*(a*Y):=Nat.mul_le_mul_right _ (by omega);refine Qf7 P (C j).1 T ?_ ?_ E
 . rw[Int.mul_neg,<-Int.natCast_mul] at hb
   omega
 .
  have p:(y k).natAbs*D j<=Y*a:=Nat.mul_le_mul (Nat.le_trans (s k) g) (C j).2;have B:a*Y<=(W+1)*(a*Y):=Nat.le_mul_of_pos_left _ (by omega);rw[Nat.mul_comm Y a] at p;omega
theorem Span.less{k:Nat}{R:Nat->Vec}{v u:Vec}(h:Span k R v)(a:Span k R u)(q:Rat):Span k R (fun i=>v i - u i*q):=by
 obtain⟨l,e⟩:=h;obtain⟨b,c⟩:=a;refine⟨fun t=>l t - b t*q,fun j=>?_⟩
 show v j - u j*q=_
 rw[Qbn,e j,c j];grind
theorem Span.over{k:Nat}{R:Nat->Vec}{v:Vec}(h:Span k R v)(q:Rat):Span k R (fun i=>v i / q):=by
 obtain⟨l,e⟩:=h;refine⟨fun t=>l t / q,fun j=>?_⟩
 show v j / q=_
 rw[Qc6,e j]
theorem Qf8{k:Nat}{R:Nat->Vec}:∀(T:List Vec) (hs:Vy) (r:Vec),Span k R r->(∀t,t∈ T->Span k R t)->Span k R (red r T hs)
 |t :: T,h :: hs,r,hr,hT=>by
  simp only[red];exact Qf8 T hs _ (hr.less (hT t (by simp)) _) (fun t a=>hT t (by simp[a]))
 | [],_,r,hr,hT=>by unfold red;exact hr
 |_ :: _,[],r,hr,hT=>by unfold red;exact hr
theorem Qjk{k:Nat}{R:Nat->Vec}:∀(S:List Vec) (hs:Vy),(∀s,s∈ S->Span k R s)->∀v,v∈ cln S hs->Span k R v
 |r :: S,h :: hs,hS,v,a=>by
  have b:=Qjk S hs (fun s hs=>hS s (by simp[hs]));simp only[cln,List.mem_cons] at a;rcases a with rfl|a
  . exact Qf8 _ _ _ ((hS r (by simp)).over _) b
  . exact b v a
 | [],_,_,v,a=>by unfold cln at a;cases a
 |_ :: _,[],_,v,a=>by unfold cln at a;cases a
theorem Qf9{W a K k:Nat}{M:List Vec}{D:Nat->Nat}{R:Nat->Vec}{H:Vy}(ha:0<a)(N:∀j,0<D j/\D j<=a)(hM:∀r,r∈ M->∀j,∃z:Int,r j*(D j:Rat)=(z:Rat)/\z.natAbs<=a)
 (hK:(W+1)*(a*(2*((W+1)*a)) ^ W)*a<2 ^ K) (P:0<K) (Q:H.length=k) (hW:k<=W) (hR:∀i,i<k->R i∈ M)
 (hI:∀m:Vec,(∀h,h∈ H->dot k m (fun i=>R i h)=0)->∀i,i<k->m i=0) {v:Vec} (hv:Span k R v) {h:Nat} (hh:h∈ H) (A:v h=1) (h0:∀x,x∈ H->x≠h->v x=0) (j:Nat):Fits (v j) K:=by
 obtain⟨B,C,hH⟩:=List.append_of_mem hh;obtain⟨n,hn⟩:=nm ((B++C).length);have S:k=n+1:=by rw[<-Q,hH,<-hn];simp;omega
 subst S;obtain⟨l,hl⟩:=hv;have c:∀t,t<n+1->∀i,R t i*(D i:Rat)=(((R t i*(D i:Rat)).num:Int):Rat)/\((R t i*(D i:Rat)).num).natAbs<=a:=fun t p i=>by
  obtain⟨z,e,hz⟩:=hM _ (hR t p) i;rw[e,Rat.num_intCast];exact⟨rfl,hz⟩
 obtain⟨y,⟨j0,T,U⟩,hy,V⟩:=Sg.siegel n a ha (fun t i=>(R i ((B++C).getD t 0)*(D ((B++C).getD t 0):Rat)).num) (fun t i p hi=>by
  have:=(c i hi ((B++C).getD t 0)).2
  omega)
 have f:∀i,((Sg.isum (n+1) (fun t=>(R t i*(D i:Rat)).num*y t):Int):Rat)=dot (n+1) (fun t=>(y t:Rat)) (fun t=>R t i)*(D i:Rat):=fun i=>by
  rw[Qf5,<-Qf6];exact Qai _ _ _ _ _ (fun t p=>by rw[<-(c t p i).1])
 have F:∀i,(D i:Rat)≠0:=fun i h=>by
  have A:D i=0:=Rat.natCast_inj.1 (by rw[h];rfl);have:=(N i).1;omega
 have o:∀x,x∈ B++C->dot (n+1) (fun t=>(y t:Rat)) (fun t=>R t x)=0:=fun x b=>by
  obtain⟨t,p,e⟩:=List.mem_iff_getElem.1 b;have A:=hy t (by omega);have e2:(B++C).getD t 0=x:=by rw[List.getD_eq_getElem?_getD,gE p,e];rfl
  simp only[e2] at A;have X:=f x;rw[A] at X;rcases Rat.mul_eq_zero.1 X.symm with q|q
  . exact q
  . exact absurd q (F x)
 have s:∀x,x∈ H->x=h∨x∈ B++C:=fun x b=>by
  rw[hH] at b;simp only[List.mem_append,List.mem_cons] at b ⊢;rcases b with b|b|b
  . exact .inr (.inl b)
  . exact .inl b
  . exact .inr (.inr b)
 obtain⟨g,G⟩:∃g:Vec,∀i,g i=dot (n+1) (fun t=>(y t:Rat)) (fun t=>R t i):=⟨fun i=>dot (n+1) (fun t=>(y t:Rat)) (fun t=>R t i),fun _=>rfl⟩;have aa:g h≠0:=by
  intro e;have:=hI (fun t=>(y t:Rat)) (fun x b=>by
   rcases s x b with rfl|b
   . rw[<-G];exact e
   . exact o x b) j0 T
  exact U (Rat.intCast_inj.1 (by rw[this];rfl))
 have I:=hI (fun t=>(y t:Rat) - l t*g h) (fun x b=>by
  rw[Qbn,<-G,<-hl];by_cases he:x=h
  . rw[he,A];grind
  .
   rcases s x b with E|E
   . exact absurd E he
   . rw[G,o x E,h0 x b he];grind)
 have ab:g j=v j*g h:=by
  have q:dot (n+1) (fun t=>(y t:Rat) - l t*g h) (fun t=>R t j)=0:=Qbm _ _ _ (fun t p=>by rw[I t p];grind);rw[Qbn,<-G,<-hl] at q;grind
 have u:(2*((n+1)*a)) ^ n<=(2*((W+1)*a)) ^ W:=
  Nat.le_trans (Nat.pow_le_pow_left (Nat.mul_le_mul_left _ (Nat.mul_le_mul_right _ (by omega))) n) (Nat.pow_le_pow_right (Nat.mul_pos (by omega) (Nat.mul_pos (by omega) ha)) (by omega))
 obtain⟨Y,hY⟩:=nm ((2*((W+1)*a)) ^ W);rw[hY] at u hK;have O:∀i,(Sg.isum (n+1) (fun t=>(R t i*(D i:Rat)).num*y t)).natAbs<=(W+1)*(a*Y):=fun i=>by
  have O:=Sg.isum_le (n+1) (fun t=>(R t i*(D i:Rat)).num*y t) (-((a*Y:Nat):Int)) ((a*Y:Nat):Int) (fun t p=>by
   have A:=(c t p i).2;have X:((R t i*(D i:Rat)).num*y t).natAbs<=a*Y:=by
    rw[Int.natAbs_mul];exact Nat.mul_le_mul A (Nat.le_trans (V t) u)
   omega)
  have af:(n+1)*(a*Y)<=(W+1)*(a*Y):=Nat.mul_le_mul_right _ (by omega);rw[Int.mul_neg,<-Int.natCast_mul] at O;omega
 have ej:=f j;have J:=f h;rw[<-G] at ej J;have bj:=O j;have bh:=O h;obtain⟨Gj,ad⟩:∃z,Sg.isum (n+1) (fun t=>(R t j*(D j:Rat)).num*y t)=z:=⟨_,rfl⟩;obtain⟨Gh,ae⟩:∃z,Sg.isum (n+1) (fun t=>(R t h*(D h:Rat)).num*y t)=z:=⟨_,rfl⟩;rw[ad] at ej bj;rw[ae] at J bh;have L:Gh≠0:=by
  intro e;rw[e] at J;rcases Rat.mul_eq_zero.1 J.symm with q|q
  . exact aa q
  . exact F h q
 have w:∀x d:Nat,x<=(W+1)*(a*Y)->d<=a->x*d<2 ^ K:=fun x d b hd=>Nat.lt_of_le_of_lt (Nat.mul_le_mul b hd) hK
 refine Qf7 (Z:=Gj*(D h:Int)) L (N j).1 ?_ ?_ ?_ P
 . rw[Rat.intCast_mul,Rat.intCast_natCast,ej,J,ab]
   grind
 . rw[Int.natAbs_mul,Int.natAbs_natCast]
   exact w _ _ bj (N h).2
 . exact w _ _ bh (N j).2
theorem Qjl{K B j:Nat}(hB:0<B):∀{T:List Vec} {hs:Vy} {J lo a:Nat} {r:Vec},Cln lo a T hs->(∀t,t∈ T->∀i,Fits (t i) B)->(∀i,Fits (r i) J)->(∀h,h∈ hs->Fits (r h) j)->J+T.length*(B+j+1)<=K->redFits K r T hs/\∀i,Fits (red r T hs i) (J+T.length*(B+j+1))
 | [],[],J,lo,a,r,hc,hT,hr,hh,hK=>by
   simp only[List.length_nil,Nat.zero_mul,Nat.add_zero] at hK ⊢;unfold redFits red;exact⟨fun i=>(hr i).mono hK,hr⟩
 |t :: T,h :: hs,J,lo,a,r,⟨c1,c2,c3,c4,c5⟩,hT,hr,hh,hK=>by
  have d:(t :: T).length*(B+j+1)=T.length*(B+j+1)+(B+j+1):=by rw[List.length_cons,Nat.succ_mul]
  rw[d] at hK ⊢;have e:∀i,Fits (r i - t i*r h) (J+(B+j)+1):=fun i=>(hr i).sub ((hT t (by simp) i).mul (hh h (by simp)) hB)
  have b:=Qjl (K:=K) (j:=j) hB (J:=J+(B+j)+1) (r:=fun i=>r i - t i*r h) c5 (fun t f=>hT t (by simp[f])) e (fun x c=>by
   have:r x - t x*r h=r x:=by rw[c4 x c];grind
   rw[this]
   exact hh x (by simp[c])) (by omega)
  refine⟨⟨fun i=>(hr i).mono (by omega),b.1⟩,fun i=>?_⟩;have:=b.2 i;rw[show J+(B+j)+1+T.length*(B+j+1)=J+(T.length*(B+j+1)+(B+j+1)) by omega] at this;exact this
 | [],_ :: _,_,_,_,_,hc,_,_,_,_=>absurd hc (by simp[Cln])
 |_ :: _,[],_,_,_,_,hc,_,_,_,_=>absurd hc (by simp[Cln])
theorem Qjm{K a k n:Nat}{R:Nat->Vec}{H:Vy}(w:0<a)(A:a+n*(a+a+1)<=K)
 (c:∀(v:Vec) (h:Nat),Span k R v->h∈ H->v h=1->(∀x,x∈ H->x≠h->v x=0)->∀j,Fits (v j) a):
 ∀{S:List Vec} {hs:Vy} {lo l:Nat} {P:Vy},H=P++hs->(∀p,p∈ P->p<lo)->Ech lo l S hs->S.length<=n->(∀s,s∈ S->Span k R s)->(∀(t:Nat) (s:Vec) (h:Nat),S[t]?=some s->hs[t]?=some h->∀i,Fits (s i / s h) a)->
  clnFits K S hs/\∀v,v∈ cln S hs->∀i,Fits (v i) a
 | [],[],lo,l,P,hH,hP,he,hn,hS,hf=>by
   unfold clnFits cln;exact⟨trivial,fun v d=>by cases d⟩
 |r :: S,h :: hs,lo,l,P,hH,hP,he,hn,hS,hf=>by
  have m:=he;obtain⟨L,M,N,o⟩:=m;have B:S.length+1<=n:=by simpa using hn
  have q:=Qjm w A c (P:=P++ [h]) (by rw[hH];simp) (fun p f=>by
   rcases List.mem_append.1 f with f|f
   . have:=hP p f;omega
   . simp only[List.mem_singleton] at f;omega) o (by omega) (fun s hs=>hS s (by simp[hs])) (fun t s x e C=>hf (t+1) s x (by simpa using e) (by simpa using C))
  have D:=(Qci 0 o).1;have g:=(Qci 0 he).1;have y:∀i,Fits (r i / r h) a:=hf 0 r h rfl rfl;have z:=Qf1 S hs o.len;have O:(cln S hs).length*(a+a+1)<=n*(a+a+1):=Nat.mul_le_mul_right _ (by omega);have E:=Qjl (K:=K) (j:=a) w (J:=a) (r:=fun i=>r i / r h) D q.2 y (fun x _=>y x) (by omega);refine⟨?_,fun v d=>?_⟩
  . unfold clnFits
    exact⟨q.1,E.1⟩
  .
   simp only[cln] at g d;obtain⟨Q,F,G,I,T⟩:=g;rcases List.mem_cons.1 d with d|d
   .
    subst d;refine c _ h (Qf8 _ _ _ ((hS r (by simp)).over _) (Qjk S hs (fun s hs=>hS s (by simp[hs])))) (by rw[hH];simp) F (fun x b u=>?_);rw[hH] at b;rcases List.mem_append.1 b with b|b
    . exact G x (by have:=hP x b;omega)
    .
     rcases List.mem_cons.1 b with b|b
     . exact absurd b u
     . exact I x b
   . exact q.2 v d
 | [],_ :: _,_,_,_,_,_,he,_,_,_=>absurd he (by simp[Ech])
 |_ :: _,[],_,_,_,_,_,he,_,_,_=>absurd he (by simp[Ech])
def MJ(W N K2:Nat)(M:List Vec)(c:Nat)(L S:List Vec)(hs:Vy):Prop:=
 Elim W M c L S hs/\MI W N M c L S hs/\∀(t:Nat) (s:Vec) (h:Nat),S[t]?=some s->hs[t]?=some h->∀i,Fits (s i / s h) K2
theorem MJ.start(W N a:Nat)(M:List Vec)(b:∀v,v∈ M->∀i,W<=i->v i=0)(c:M.length<=N∨W<=N):MJ W N a M 0 M [] []:=
 ⟨Elim.start W M,MI.start W N M b c,fun t s h e=>by simp at e⟩
theorem MJ.going{w W a K k:Nat}{M:List Vec}{D:Nat->Nat}(p:0<a)(q:∀j,0<D j/\D j<=a)(v:∀r,r∈ M->∀j,∃z:Int,r j*(D j:Rat)=(z:Rat)/\z.natAbs<=a)
 (y:(W+1)*(a*(2*((W+1)*a)) ^ W)<2 ^ K) (l:0<K) (m:(W+1)*(a*(2*((W+1)*a)) ^ W)*a<2 ^ k) (A:0<k):Going K (MJ w W k M) where
 fit:=fun h=>MI.fit p q v y l h.2.1
 skip:=fun h b=>⟨h.1.skip b,h.2.1.skip,h.2.2⟩
 step:=fun {c j L S hs s} h g b=>by
  refine⟨h.1.step g b,h.2.1.step g b,fun t u x e d i=>?_⟩;have hl:=h.1.1.len;by_cases B:t<S.length
  .
   rw[List.getElem?_append_left B] at e;rw[List.getElem?_append_left (by omega)] at d;exact h.2.2 t u x e d i
  .
   have n:t=S.length:=by
    have:=(gZ e).1;simp at this;omega
   subst n;rw[List.getElem?_append_right (by omega)] at e;rw[List.getElem?_append_right (by omega)] at d;simp at e;rw[hl] at d;simp at d;subst e d;obtain⟨_,_,_,_,_,_,C,_⟩:=h.2.1;obtain⟨_,_,_,_,E⟩:=C s (mO g);obtain⟨_,J,_,R,F,G,_,I⟩:=h.2.1.step g b;refine Qf9 (H:=hs++ [c]) p q v m A rfl (by omega) F G ((I s (by simp)).over (s c)) (h:=c) (by simp) ?_ (fun x f o=>?_) i
   . rw[Rat.div_def,Rat.mul_inv_cancel _ b]
   .
    rcases List.mem_append.1 f with f|f
    .
     show s x / s c=0
     rw[E x f,Rat.div_def];grind
    . simp only[List.mem_singleton] at f
      exact absurd f o
theorem MJ.clean{m W a K b:Nat}{M:List Vec}{D:Nat->Nat}(o:0<a)(q:∀j,0<D j/\D j<=a)(s:∀r,r∈ M->∀j,∃z:Int,r j*(D j:Rat)=(z:Rat)/\z.natAbs<=a)
 (d:(W+1)*(a*(2*((W+1)*a)) ^ W)*a<2 ^ b) (g:0<b) (t:b+W*(b+b+1)<=K) {c:Nat} {L S:List Vec} {hs:Vy} (h:MJ m W b M c L S hs):clnFits K S hs/\∀v,v∈ cln S hs->∀i,Fits (v i) b:=by
 obtain⟨l,⟨_,F,_,R,u,w,_,y⟩,A⟩:=h;exact Qjm (H:=hs) (R:=R) (k:=hs.length) (n:=W) g t (fun v x B C e f j=>Qf9 o q s d g rfl (by omega) u w B C e f j) (P:=[]) rfl (fun p E=>by cases E) l.1 (by rw[l.1.len];omega) y A
theorem Qll(B W K:Nat)(S:List MR)(hs:Vy)(sv hv:Value)(wd:Int)(w:Vz)(hr:Grow w B 93 1 IsSl sv S.length (S.map MR.val))(hh:Grow w B 3 1 IsI hv hs.length (headsV hs))(a6:Oks w W K S)(af:S.length=hs.length)(a7:∀h,h∈ hs->h<W)(ag:clnFits K (S.map MR.q) hs)(cs:S.length<=1000)(hW:W<=1000)(a8:0<K)(hK:4*K+1<68719476000):
 Calls prog 84 #[.agg #[.int .i64 wd,sv,hv]] w fun e w'=>e=.returned (.tuple #[])/\∃S':List MR,S'.length=S.length/\S'.map MR.q=cln (S.map MR.q) hs/\CW w w' B W K S' hs (.int .i64 wd) sv hv:=by
 obtain⟨a,cap,rfl,_,_,ah⟩:=hr.slice;obtain⟨a2,C,rfl,_,_,_⟩:=hh.slice;obtain⟨HR,HH,HO,HL,a9,HF,HP⟩:=If hr hh a6 af a7 ag ah;clear hr hh a6 af a7 ag ah;go_enter func84,ntmps84;obtain⟨V,hV⟩:=nm (w.alloc (.cells #[.int .i64 wd,.slice a S.length cap,.slice a2 hs.length C] 135));have l:Bl w V:=by rw[<-hV];exact(Below.refl _ _).alloc lZ _
 have bu:O (CW w V B W K S hs (.int .i64 wd) (.slice a S.length cap) (.slice a2 hs.length C)):=Hi ⟨by rw[<-hV];exact SB.new w _ _,HR.o.below l,HH.o.below l,HO.o.fr (Fr.of_below l),fun k hk _=>l.block k hk,l.os,l.tape,l.output,l.size⟩;have HV:=Hi hV;clear hV l;go_wp2_with fail;rw[HV.o];go_loopw [2] (fun i wr=>∃(k:Nat) (n:List MR),k<=S.length/\i=.int .i64 ((k:Int) - 1)/\n.length=S.length/\(∀p,p<k->n[p]?=S[p]?)/\(n.drop k).map MR.q=cln ((S.map MR.q).drop k) (hs.drop k)/\CW w wr B W K n hs (.int .i64 wd) (.slice a S.length cap) (.slice a2 hs.length C)) (fun i _=>(intOf i+1).toNat)
 case atStart=>
  refine⟨S.length,S,Nat.le_refl _,by go_num,rfl,fun _ _=>rfl,?_,bu.o⟩;rw[List.drop_of_length_le lZ,List.drop_of_length_le (by simp)];rfl
 case round=>
  obtain⟨k,n,hk,rfl,ba,ai,bb,hC⟩:=hrel;obtain⟨c,aj,bc,D⟩:=Ic hC ai bb ba;clear hC ai bb ba;by_cases h0:k=0
  .
   subst h0;go_wp2;go_end0;exact⟨rfl,n,D.o,by have:=bc.o;simpa using this,c.o⟩
  .
   obtain⟨j,rfl⟩:∃j,k=j+1:=⟨k - 1,by omega⟩;have ej:((j+1:Nat):Int) - 1=(j:Int):=by omega
   rw[ej];clear ej h0;obtain⟨g,rfl,bv⟩:=HP.o (by omega);clear bv;obtain⟨r,hr⟩:∃r,S[j]?=some r:=⟨S[j]'(by omega),gE (by omega)⟩;obtain⟨h,hh⟩:∃h,hs[j]?=some h:=⟨hs[j]'(by have:=HL.o;omega),gE (by have:=HL.o;omega)⟩;have ct:=a9.o h (mO hh);have X:n[j]?=some r:=by rw[aj.o j (by omega)];exact hr
   obtain⟨bd,F⟩:=Qv4 HL.o hr hh bc.o HF.o;obtain⟨bw,be⟩:=Ia bd F;have d:=c.o.ok r (mO X);have s:=d.len;obtain⟨e,he⟩:∃e,r.ts[h]?=some e:=⟨r.ts[h]'(by omega),gE (by omega)⟩;obtain⟨rb,ro,Y,bx,d0,d1,d2⟩:=d.row.at he;obtain⟨hv,bf,bz⟩:=d.row.get he;have cu:=d.sz e (mO he);obtain⟨hb,ho,rfl,b3,c2⟩:=c.o.heads.crow.cell j (.int .i64 (h:Nat)) (by simp[headsV,hh]);have c1:wr.cell? ⟨g,j,none⟩=some (.slice r.a r.ts.length r.cap):=c.o.rows.cell (by rw[List.getElem?_map,X];rfl);rw[Y,s] at c1;obtain⟨-,x1,x2,-⟩:=zc c.o.box;have q1:((j:Int)<(S.length:Int)):=by omega
   have q2:((j:Int)<(hs.length:Int)):=by have:=HL.o;omega
   have q3:((h:Int)<(W:Int)):=by omega
   obtain⟨bg,cv,HE,b4,b5⟩:=Id d Y (MR.q_at he) hv bf;have aq:=Hi (fun u (hu:Bl wr u)=>Qve r.a r.cap (2*K) e.k r.ts e.x e.y e.z e.q u (bg.o.row.below hu) (by omega) (b4.o.below hu) b5.o bz (fun t ht=>by have:=bg.o.sz t ht;omega) (by omega));rw[s,Y] at aq;have b6:=Hi X;clear hr hh X bd F d he Y hv bf;go_wp2_with fail;go_region_held3 (fun v=>v.cell? ⟨w.heap.size,1,none⟩=some (.slice (some ⟨g,0,none⟩) S.length cap)/\v.cell? ⟨w.heap.size,2,none⟩=some (.slice (some ⟨hb,ho,none⟩) hs.length C)/\v.cell? ⟨g,j,none⟩=some (.slice (some ⟨rb,ro,none⟩) W r.cap)/\v.cell? ⟨hb,ho+j,none⟩=some (.int .i64 h)/\v.cell? ⟨rb,ro+h*3,none⟩=some e.x/\v.cell? ⟨rb,ro+h*3+1,none⟩=some e.y/\v.cell? ⟨rb,ro+h*3+2,none⟩=some e.z) ((first|(simp [*];done)|go_keep)) (first
    |(
     go_at_call 136;apply cM;apply aq.o;(focus(repeat(first|exact Below.refl _ _|apply Qaq|apply Qar)));rintro e5 w5 ⟨⟨g5,us,rfl,b7,ar,L⟩,au⟩;(first
       |have I:O (Bl wr w5):=Hi au
       |have I:O (Bl wr w5):=Hi (bR.drew.trans au))
     obtain⟨Z,aa⟩:=Ia ar L;obtain⟨y1,y2⟩:=Ja I.o c.o.box.lt x1 x2;have y3:=(I.o.cell (p:=⟨g,j,none⟩) (c.o.rows.lt (g:=g) rfl).2).trans c1;have y4:=ce I.o b3 c2;obtain⟨y5,y6,y7⟩:=Jb I.o bx d0 d1 d2;clear ar L au b7
     skip)
    |fail)
   clear x1 x2 c1 c2 d0 d1 d2 y1 y2 y3 y4 y5 y6 y7;have b8:=Hi (c.o.below I.o);obtain⟨r0,ak,M,al⟩:=MOk.made (v:=fun i=>r.q i / r.q h) (K:=K) Z.o s (by rw[s];exact aa.o) a8 (fun i hi=>by rw[HE.o]) (fun i hi=>by
    show r.q i / r.q h=0
    rw[MR.q_beyond (by omega)]
    exact Qv1 _) (fun i _=>be.o.here i)
   obtain⟨bh,am,bi⟩:=Ib M al ak;clear M al ak Z aa aq c;have N:Value.slice (some ⟨g5,0,none⟩) W W=.slice r0.a W r0.cap:=by
    have:=bi.o;unfold MR.val at this;rw[bh.o.len] at this;exact this.symm
   rw[N];clear N;go_wp2_with fail;go_loopw [3,4] (fun rv i wq=>∃(m:Nat) (b:MR),j+1<=m/\m<=S.length/\i=.int .i64 m/\rv=.slice b.a W b.cap/\MOk wq W K b/\CW w wq B W K n hs (.int .i64 wd) (.slice (some ⟨g,0,none⟩) S.length cap) (.slice (some ⟨hb,ho,none⟩) hs.length C)/\red b.q ((n.drop m).map MR.q) (hs.drop m)=red (fun i=>r.q i / r.q h) ((n.drop (j+1)).map MR.q) (hs.drop (j+1))/\redFits K b.q ((n.drop m).map MR.q) (hs.drop m)) (fun _ i _=>S.length - (intOf i).toNat)
   case atStart=>exact⟨j+1,r0,Nat.le_refl _,hk,by go_num,rfl,bh.o,b8.o,by rw[am.o],by rw[am.o];exact be.o⟩
   case round=>
    obtain⟨m,b,cw,hm,rfl,rfl,E,hC,an,bj⟩:=hrel;obtain⟨c,ab,P,bk⟩:=Ic hC E an bj;clear hC an bj;by_cases cx:m<S.length
    .
     obtain⟨t,ht⟩:∃t,n[m]?=some t:=⟨n[m]'(by have:=D.o;omega),gE (by have:=D.o;omega)⟩;obtain⟨A,ad⟩:∃A,hs[m]?=some A:=⟨hs[m]'(by have:=HL.o;omega),gE (by have:=HL.o;omega)⟩;have Q:=c.o.ok t (mO ht);have cy:=a9.o A (mO ad);have av:=E.len;have b9:=Q.len;obtain⟨f,hf⟩:∃f,b.ts[A]?=some f:=⟨b.ts[A]'(by omega),gE (by omega)⟩;obtain⟨qb,qo,aw,ar,d0,d1,d2⟩:=E.row.at hf;obtain⟨ax,ao,bl⟩:=E.row.get hf;have cz:=E.sz f (mO hf);obtain⟨o1,o2,o3⟩:=ax.one;have s0:=Qao prog o1;have s1:=Qao prog o2;have s2:=Qao prog o3;obtain⟨c0,c3,ca,cr,c2⟩:=c.o.heads.crow.cell m (.int .i64 (A:Nat)) (by simp[headsV,ad]);cases ca
     have c1:wr.cell? ⟨g,m,none⟩=some (.slice t.a t.ts.length t.cap):=c.o.rows.cell (by rw[List.getElem?_map,ht];rfl);rw[b9] at c1;have bm:=(c.o.rows.lt (g:=g) rfl).2;have cb:=c.o.box.lt;obtain⟨-,x1,x2,-⟩:=zc c.o.box;have q4:((m:Int)<(S.length:Int)):=by omega
     have q5:((m:Int)<(hs.length:Int)):=by have:=HL.o;omega
     have q6:((A:Int)<(W:Int)):=by omega
     obtain⟨HT,cc,bn,bo,bp,ay,az⟩:=If Q aw (MR.q_at hf) ax ao (Qdk ht) (Qdk ad);have bq:=Hi (fun u (hu:Bl wr u)=>Qg4 b.a t.a b.cap t.cap (4*K+1) f.k b.ts t.ts f.x f.y f.z f.q u (ab.o.row.below hu) (HT.o.row.below hu) (by omega) (by omega) (bo.o.below hu) bp.o bl (fun x hx y hy=>by have:=ab.o.sz x hx;have:=HT.o.sz y hy;omega) (by omega));rw[av] at bq;obtain⟨cd,X1⟩:=Ia c1 x1;rw[aw];obtain⟨V2,ae⟩:=nm (wr.alloc (.cells #[f.x,f.y,f.z] 141));have a0:=Ua ae;have br:=Uc ae;have cf:=Hi ae;clear ht ad Q hf aw ax ao ae o1 o2 o3 E;go_wp2_with fail;rw[cf.o];go_fit (Qcd (bo.o.below a0.o))
     rintro e' w4 ⟨rfl,a1⟩;have J:=Hi (a0.o.trans (a1.mono a0.o.size));obtain⟨a3,cg,a4⟩:=Ib (c.o.below J.o) (ab.o.fr (Fr.of_below J.o)) (br.o.below a1 br.o.lt);clear a1 c1 c2 d0 d1 d2 s0 s1 s2 x1 x2;rw[<-cc.o];by_cases h0:f.q=0
     .
      rw[decide_eq_true h0];have HZ:=Hi (bn.o.trans h0);clear h0;go_wp2;go_roundw
      case rel=>
       have h1:=P.o;have h2:=bk.o;rw[ay.o,az.o,List.map_cons] at h1 h2;rw[Qv3 HZ.o] at h1;exact⟨m+1,b,by omega,by omega,by go_num,rfl,cg.o,a3.o,h1,h2.skip HZ.o⟩
      case measure=>simp[intOf];omega
     .
      rw[decide_eq_false h0];clear h0;obtain⟨-,y1,-⟩:=zc a3.o.box;have y2:=ce J.o bm cd.o;obtain⟨b0,b1,b2,-⟩:=zc a4.o;obtain⟨Y1,Y2⟩:=Ia y1 y2;have bs:=Nat.lt_of_lt_of_le bm J.o.size;have bt:=Nat.lt_of_lt_of_le cb J.o.size;go_wp2_with fail;go_region_held3 (fun v=>v.cell? ⟨w.heap.size,1,none⟩=some (.slice (some ⟨g,0,none⟩) S.length cap)/\v.cell? ⟨g,m,none⟩=some (.slice t.a W t.cap)/\v.cell? ⟨wr.heap.size,0,none⟩=some f.x/\v.cell? ⟨wr.heap.size,1,none⟩=some f.y/\v.cell? ⟨wr.heap.size,2,none⟩=some f.z) ((first|(simp [*];done)|go_keep)) (first
       |(
        go_at_call 128;apply cM;apply bq.o;(focus(repeat(first|exact J.o|apply Qaq|apply Qar)));rintro e6 w6 ⟨⟨g6,us,rfl,ch,ap,L⟩,a5⟩;(first
          |have R:O (Bl w4 w6):=Hi a5
          |have R:O (Bl w4 w6):=Hi (bR.drew.trans a5))
        obtain⟨Z,aa,ci⟩:=Ib ap L (a4.o.below R.o a4.o.lt);have z1:=ce R.o bt Y1.o;have z2:=ce R.o bs Y2.o;obtain⟨z3,z4,z5,-⟩:=zc ci.o;clear ap L a5 ch
        skip)
       |fail)
      all_goals
       clear y1 y2 b0 b1 b2 z1 z2 z3 z4 z5;have F:=bk.o;rw[ay.o,az.o,List.map_cons] at F;obtain⟨r6,H,G,T⟩:=MOk.made (v:=fun i=>b.q i - t.q i*b.q A) (K:=K) Z.o av (by rw[av];exact aa.o) a8 (fun i hi=>by
        show b.q i - qAt t.ts i*f.q=_
        rw[qAt_q,bn.o]) (fun i hi=>by
        show b.q i - t.q i*b.q A=0
        rw[MR.q_beyond (r:=b) (by omega),MR.q_beyond (r:=t) (by omega)]
        exact Qv2 _) (fun i _=>F.next.here i)
       have U:Value.slice (some ⟨g6,0,none⟩) W W=.slice r6.a W r6.cap:=by
        unfold MR.val at H;rw[G.len] at H;exact H.symm
       have cj:O (red r6.q ((n.drop (m+1)).map MR.q) (hs.drop (m+1))=red (fun i=>r.q i / r.q h) ((n.drop (j+1)).map MR.q) (hs.drop (j+1))):=Hi (by
        have h1:=P.o;rw[ay.o,az.o,List.map_cons] at h1;rw[T]
        exact h1)
       have ck:O (redFits K r6.q ((n.drop (m+1)).map MR.q) (hs.drop (m+1))):=Hi (by rw[T];exact F.next);obtain⟨cl,cm⟩:=Ia G U;clear F H G T U;go_wp2_with fail;refine⟨⟨m+1,r6,by omega,by omega,by go_num,cm.o,cl.o,a3.o.below R.o,cj.o,ck.o⟩,?_⟩;simp[intOf];omega
    .
     have cn:m=S.length:=by omega
     subst cn;have er:b.val=.slice b.a W b.cap:=by unfold MR.val;rw[E.len]
     have hq:b.q=red (fun i=>r.q i / r.q h) ((n.drop (j+1)).map MR.q) (hs.drop (j+1)):=by
      have h1:=P.o;rw[List.drop_of_length_le (by rw[D.o];exact Nat.le_refl _)] at h1
      simpa [red] using h1
     obtain⟨cp,HQ⟩:=Ia er hq;obtain⟨-,x1,-⟩:=zc c.o.box;have f0:=c.o.rows.free j;have t0:=c.o.rows.cell (by rw[List.getElem?_map,b6.o];rfl);clear er hq E;go_wp2_with fail;refine⟨⟨j,n.set j b,by omega,by go_num,by rw[List.length_set];exact D.o,fun p hp=>?_,?_,?_⟩,?_⟩
     . rw[List.getElem?_set_ne (by omega)]
       exact aj.o p (by omega)
     .
      have cq:j<n.length:=by have:=D.o;omega
      rw[Qdk (List.getElem?_set_self cq),List.drop_set,if_pos (by omega),List.map_cons,HQ.o];exact bw.o.symm
     . rw[<-cp.o]
       exact c.o.set D.o.symm (by have:=D.o;omega) ab.o
     . simp[intOf]
theorem Qls:(prog.info? 54).map (fun i=>(i.zero,i.size,i.bytes))=some (some (.string ⟨#[]⟩),1,16):=by kernel_rfl
def textsV(ss:Vt):List Value:=ss.map Value.string
theorem Qwf(n:Nat):madeCells (Value.cells (.string ⟨#[]⟩)) n=(textsV (List.replicate n ⟨#[]⟩)).toArray:=by
 have e:Value.cells (.string ⟨#[]⟩)=#[.string ⟨#[]⟩]:=by rfl
 rw[e];apply Array.ext';rw[toList_madeCells_one];simp[textsV]
theorem Qwg(n:Nat)(d:n<=1048576)(w:Vz):(Instr.makeSlice 48 (.int .i64 n) (.int .i64 n)).run prog w=.ok (.slice (some ⟨w.heap.size,0,.none⟩) n n) (w.alloc (.cells (textsV (List.replicate n ⟨#[]⟩)).toArray 54)):=by
 obtain⟨i,a,h⟩:=Option.map_eq_some_iff.1 Qls;simp only[Prod.mk.injEq] at h;obtain⟨b,hs,c⟩:=h;have:=run_make w 48 54 i _ underlying48 a b .i64 .i64 n n (by omega) (by omega) (by rw[c];omega) (by omega);rw[Int.toNat_natCast,hs,Nat.mul_one,Qwf] at this;exact this
theorem Qwh(a:Vt)(k:Nat)(s:Vs):textsV (a.set k s)=(textsV a).set k (.string s):=by simp[textsV]
theorem Qlt(a:Vx)(cap K:Nat)(b:List FE)(w:Vz)(l:Glob w)(h:QRow w a cap b)(hk:∀t,t∈ b->t.k<=K)(hK:K<=274877906944)(hl:b.length<=1000):
 Calls prog 87 #[.slice a b.length cap] w fun e w'=>(∃(g:Nat) (c:Vt),e=.returned (.slice (some ⟨g,0,none⟩) b.length b.length)/\(c.length=b.length/\w.heap.size<=g)/\SB w' g 54 (textsV c).toArray/\∀(i:Nat) (t:FE) (s:Vs),b[i]?=some t->c[i]?=some s->QText s.data.toList t.q)/\Below w.heap.size w w':=by
 obtain⟨Y,H,HK⟩:=Ib h l hk;have A:=fun w=>Qwg b.length (by omega) w
 obtain⟨MC,r⟩:=nm ((textsV (List.replicate b.length ⟨#[]⟩)).toArray);rw[r] at A;have I:=Hi r;clear h l hk r;go_enter func87,ntmps87;go_wp2_with fail;clear A;obtain⟨g,l⟩:=nm w.heap.size;obtain⟨V,F⟩:=nm (w.alloc (.cells MC 54));have J:O (Below g w V):=Hi (by rw[<-F,<-l];exact(Below.refl _ _).alloc lZ _);have L:O (SB V g 54 (textsV (List.replicate b.length ⟨#[]⟩)).toArray):=Hi (by rw[<-F,<-l,I.o];exact SB.new w _ _)
 try rw[F]
 try rw[l]
 clear F;go_loopw [10] (fun i wr=>∃(k:Nat) (c:Vt),k<=b.length/\i=.int .i64 k/\c.length=b.length/\SB wr g 54 (textsV c).toArray/\(∀(i:Nat) (t:FE) (s:Vs),i<k->b[i]?=some t->c[i]?=some s->QText s.data.toList t.q)/\Below g w wr) (fun i _=>b.length - (intOf i).toNat)
 case atStart=>exact⟨0,_,by omega,rfl,by simp,L.o,fun i t s hi=>by omega,J.o⟩
 case round=>
  obtain⟨k,c,hk,rfl,B,u,m,Z⟩:=hrel;obtain⟨M,v,HA⟩:=Ib Z u m;have N:=u.lt;have d:=Hi B;clear Z u m B;by_cases P:k<b.length
  .
   obtain⟨t,n⟩:∃t,b[k]?=some t:=⟨b[k],gE P⟩;have j:Below w.heap.size w wr:=by rw[l];exact M.o
   obtain⟨fb,aa,rfl,ab,d0,d1,d2⟩:=(Y.o.below j).at n;obtain⟨C,Q,R⟩:=Ib ((Y.o.below j).get n) (HK.o t (mO n)) (H.o.below j);have q1:((k:Int)<(b.length:Int)):=by omega
   have HT:=Hi n;obtain⟨S,D⟩:∃S,c[k]?=some S:=⟨c[k]'(by have:=d.o;omega),gE (by have:=d.o;omega)⟩;have T:=Hi D;clear n j D;go_wp2_with fail;go_fit (Qfr R.o.tab C.o.1 (C.o.2.1.mono Q.o) hK);rintro e w2 ⟨⟨s,rfl,E⟩,z⟩;obtain⟨U,W,f⟩:=Ib E z (v.o.below z v.o.lt);have f0:=f.o.free k;have t0:w2.cell? ⟨g,k,none⟩=some (.string S):=by
    rw[f.o.cell];simp[textsV,T.o]
   clear E z d0 d1 d2;go_wp2;go_roundw
   case rel=>
    refine⟨k+1,c.set k s,by omega,by go_num,by rw[List.length_set];exact d.o,?_,fun i x y hi hx G=>?_,(M.o.trans (W.o.mono (Nat.le_of_lt N))).setCell (p:=⟨g,k,none⟩) lZ _⟩
    .
     have:=f.o.set k (.string s);rw[Qwh]
     simpa using this
    .
     rcases Nat.lt_or_ge i k with h1|h1
     . rw[List.getElem?_set_ne (by omega)] at G
       exact HA.o i x y h1 hx G
     .
      obtain rfl:i=k:=by omega
      rw[List.getElem?_set_self (by have:=d.o;omega)] at G;obtain rfl:=Option.some.inj G;obtain rfl:=Option.some.inj (HT.o.symm.trans hx);exact U.o
   case measure=>simp[intOf];omega
  .
   have X:k=b.length:=by omega
   subst X;go_wp2;go_ret;rw[l];exact⟨⟨g,c,rfl,⟨d.o,Nat.le_of_eq rfl⟩,v.o,fun i t s n hs=>HA.o i t s (gZ n).1 n hs⟩,M.o⟩
theorem Tryz.stressInfo:(prog.info? 50).map (·.size)=some 2:=by kernel_rfl
theorem QRow.take{w:Vz}{a:Vx}{cap:Nat}{b:List FE}(h:QRow w a cap b)(n:Nat):QRow w a cap (b.take n):=by
 refine⟨⟨?_,⟨fun j u c=>h.row.row.cell j u ?_⟩⟩,fun t d=>h.ts t (List.mem_of_mem_take d)⟩
 .
  have:=h.row.fit;rw[List.length_take];omega
 .
  have e:b.flatMap FE.cells=(b.take n).flatMap FE.cells++(b.drop n).flatMap FE.cells:=by rw[<-List.flatMap_append,List.take_append_drop]
  rw[e,List.getElem?_append_left (gZ c).1];exact c
theorem QRow.drop{w:Vz}{b a cap:Nat}{d:List FE}(h:QRow w (some ⟨b,a,none⟩) cap d){n:Nat}(g:n<=d.length):QRow w (some ⟨b,a+n*3,none⟩) (cap - n) (d.drop n):=by
 refine⟨⟨?_,⟨fun j u i=>?_⟩⟩,fun t k=>h.ts t (List.mem_of_mem_drop k)⟩
 .
  have:=h.row.fit;rw[List.length_drop];omega
 .
  have e:d.flatMap FE.cells=(d.take n).flatMap FE.cells++(d.drop n).flatMap FE.cells:=by rw[<-List.flatMap_append,List.take_append_drop]
  have hl:((d.take n).flatMap FE.cells).length=n*3:=by
   rw[Qa9 (c:=FE.cells) (sz:=3) (fun _=>rfl),List.length_take,Nat.min_eq_left g]
  obtain⟨p,f,l,m,o⟩:=h.row.row.cell (n*3+j) u (by rw[e,List.getElem?_append_right (by omega),hl,Nat.add_sub_cancel_left];exact i);cases l;exact⟨b,a+n*3,rfl,m,by rw[Nat.add_assoc];exact o⟩
theorem QRow.empty(w:Vz)(a:Vx)(cap:Nat):QRow w a cap []:=⟨⟨Nat.zero_le _,⟨fun j u b=>by simp at b⟩⟩,fun t c=>by cases c⟩
def Told(ts:List FE)(ss:Vt):Prop:=ss.length=ts.length/\∀(i:Nat) (t:FE) (s:Vs),ts[i]?=some t->ss[i]?=some s->QText s.data.toList t.q
theorem Qlu(R S:Value)(a2:Vx)(c2 nb b c cap K:Nat)(a:List FE)(w:Vz)(T:Glob w)(h:QRow w (some ⟨b,c,none⟩) cap a)(hk:∀t,t∈ a->t.k<=K)(hK:K<=274877906944)(hl:a.length<=1000)(hn:nb<=a.length)(ad:cap<=1000)(o1:R.oneCell'=true)(o3:S.oneCell'=true):
 Calls prog 42 #[.agg #[R,.slice a2 nb c2,S],.slice (some ⟨b,c,none⟩) a.length cap] w fun e w'=>(∃(m n:Nat) (x y:Vt),e=.returned (.agg #[.slice (some ⟨m,0,none⟩) nb nb,.slice (some ⟨n,0,none⟩) (a.length - nb) (a.length - nb)])/\SB w' m 54 (textsV x).toArray/\SB w' n 54 (textsV y).toArray/\Told (a.take nb) x/\Told (a.drop nb) y/\w.heap.size<=m/\w.heap.size<=n)/\Below w.heap.size w w':=by
 have s:=h.row.fit;have U:(a.take nb).length=nb:=by rw[List.length_take];omega
 have W:(a.drop nb).length=a.length - nb:=List.length_drop;obtain⟨A,hA,z⟩:∃A:Addr,(if cap=nb then some (⟨b,c,none⟩:Addr) else some ⟨b,c+nb*3,none⟩)=some A/\QRow w (some A) (cap - nb) (a.drop nb):=by
  by_cases e:cap=nb
  .
   refine⟨⟨b,c,none⟩,by simp[e],?_⟩;have:a.drop nb= []:=List.drop_of_length_le (by omega);rw[this];exact QRow.empty _ _ _
  . exact⟨⟨b,c+nb*3,none⟩,by simp[e],h.drop hn⟩
 obtain⟨B,C⟩:=Ia (fun u (D:Bl w u)=>Qlt (some ⟨b,c,none⟩) cap K (a.take nb) u (T.below D) ((h.take nb).below D) (fun t X=>hk t (List.mem_of_mem_take X)) hK (by omega)) (fun u (D:Bl w u)=>Qlt (some A) (cap - nb) K (a.drop nb) u (T.below D) (z.below D) (fun t X=>hk t (List.mem_of_mem_drop X)) hK (by omega));rw[U] at B;rw[W] at C;obtain⟨Y,Z⟩:=Ia U W;clear h T hk z U W;go_enter func42,ntmps42;obtain⟨V,E⟩:=nm ((w.alloc (.cells #[R,.slice a2 nb c2,S] 26)).alloc (.cells #[.slice none 0 0,.slice none 0 0] 50));have f:=Ub E;have ae:=Ud E
 have g:=Ue E;have HV:=Hi E;clear E;have q1:nb<=cap:=by omega
 have q2:a.length<=cap:=s;go_wp2_with fail;rw[HV.o];go_region_held3 (fun _=>True) (trivial) (first
  |(
   go_at_call_of 87 (Value.slice (some ⟨b,c,none⟩) nb cap);apply cM;apply B.o;(focus(repeat(first|exact f.o|apply Qaq|apply Qar)));rintro e1 r ⟨⟨m,x,rfl,F,G,H⟩,p⟩;(first
     |have i:O (Bl V r):=Hi p
     |have i:O (Bl V r):=Hi (bR.drew.trans p))
   obtain⟨I,J,aa,j⟩:=Ic F G H (f.o.trans (i.o.mono f.o.size));clear F G H p
   skip)
  |(
   go_at_call_of 87 (Value.slice (some A) (a.length - nb) (cap - nb));apply cM;apply C.o;(focus(repeat(first|exact j.o|apply Qaq|apply Qar)));rintro e2 w2 ⟨⟨n,y,rfl,L,M,N⟩,q⟩;(first
     |have l:O (Bl r w2):=Hi q
     |have l:O (Bl r w2):=Hi (bR.drew.trans q))
   obtain⟨P,Q,ab,d⟩:=Ic L M N ((g.o.below i.o g.o.lt).below l.o (g.o.below i.o g.o.lt).lt);obtain⟨r0,r1,-⟩:=zc d.o;have f0:=d.o.free 0;have f1:=d.o.free 1;clear L M N q
   skip)
  |fail)
 all_goals
  go_wp2;have hx:=J.o.below l.o J.o.lt;have nx:=hx.unlike d.o (by decide);have ny:=Q.o.unlike d.o (by decide);refine bodyPost_ret (v:=.agg #[.slice (some ⟨m,0,none⟩) nb nb,.slice (some ⟨n,0,none⟩) (a.length - nb) (a.length - nb)]) (results_cell_row rfl _ _ (w.heap.size+1) 50 #[.slice (some ⟨m,0,none⟩) nb nb,.slice (some ⟨n,0,none⟩) (a.length - nb) (a.length - nb)] (0,0) _ rfl ((d.o.set 0 _).set 1 _) underlying50 rfl Tryz.stressInfo) rfl ?_;exact⟨⟨m,n,x,y,rfl,(hx.other nx _ _).other nx _ _,(Q.o.other ny _ _).other ny _ _,⟨by rw[Y.o];exact I.o.1,aa.o⟩,⟨by rw[Z.o];exact P.o.1,ab.o⟩,Nat.le_trans f.o.size I.o.2,Nat.le_trans j.o.size P.o.2⟩,((j.o.trans (l.o.mono j.o.size)).setCell (Nat.le_succ _) _).setCell (Nat.le_succ _) _⟩
def agnStep(v:Vec)(p:Nat × Rat × Rat):Vec:=upd (upd v (2*p.1) (v (2*p.1) - p.2.1)) (2*p.1+1) (v (2*p.1+1) - p.2.2)
def agn(vs:List (Nat × Rat × Rat)):Vec:=vs.foldl agnStep (fun _=>0)
theorem Qg9{vs:List (Nat × Rat × Rat)}{k:Nat}{p:Nat × Rat × Rat}(h:vs[k]?=some p):agn (vs.take (k+1))=agnStep (agn (vs.take k)) p:=by
 unfold agn;rw[List.take_add_one,h];simp[List.foldl_append]
theorem agn_x{v:Vec}{p:Nat × Rat × Rat}:agnStep v p (2*p.1)=v (2*p.1) - p.2.1:=by
 unfold agnStep;rw[Qad _ _ (by omega),Qan]
theorem agn_y{v:Vec}{p:Nat × Rat × Rat}:agnStep v p (2*p.1+1)=v (2*p.1+1) - p.2.2:=Qan _ _ _
theorem Qlv{v:Vec}{p:Nat × Rat × Rat}{i:Nat}(a:i≠2*p.1)(b:i≠2*p.1+1):agnStep v p i=v i:=by
 unfold agnStep;rw[Qad _ _ b,Qad _ _ a]
structure LoadV (n:Nat) (l:L3) (p:Nat × Rat × Rat):Prop where
 j:l.j=(p.1:Nat)
 lt:p.1<n
 x:QOf l.x.data.toList p.2.1
 y:QOf l.y.data.toList p.2.2
 sx:l.x.size<=1048576
 sy:l.y.size<=1048576
theorem of_val{s:Vs}{q:Rat}{w:Vz}(a:Glob w)(b:QOf s.data.toList q)(hs:s.size<=1048576):Calls prog 82 #[.string s] w (FNew w q):=by
 obtain⟨m,c⟩:=a.most;refine(Qj9 s m w c (by omega)).mono ?_;rintro e w' ⟨g,d,f⟩;rw[b.inj d];exact f
theorem Qev{w:Vz}{g K i:Nat}{us:List FE}{x y z:Value}{q:Rat}(h:QBlk w g us)(a:i<us.length)(b:FracV w (.agg #[x,y,z]) q)(c:Fits q K)(d:0<K):QBlk (((w.setCell ⟨g,i*3,none⟩ x).setCell ⟨g,i*3+1,none⟩ y).setCell ⟨g,i*3+2,none⟩ z) g (us.set i ⟨x,y,z,q,K⟩):=
 h.set (k:=i) (e:=⟨x,y,z,q,K⟩) a ⟨b,c,d⟩
theorem Qwi(a1 a2 a3 al:Vx)(c1 c2 c3 cl nj nb nh K:Nat)(z:List L3)(vs:List (Nat × Rat × Rat))(w:Vz)(hg:Glob w)(hl:ARow L3.cells w al cl z)(bx:z.length<=1000)(hn:nj<=10)(aq:vs.length=z.length)(ar:∀(i:Nat) (l:L3) (p:Nat × Rat × Rat),z[i]?=some l->vs[i]?=some p->LoadV nj l p)
 (ag:0<K) (hK:K+4194305<68719476000) (ab:∀k i,Fits (agn (vs.take k) i) K):
 Calls prog 60 #[.agg #[.slice a1 nj c1,.slice a2 nb c2,.slice a3 nh c3],.slice al z.length cl] w fun e w'=>(∃(g N:Nat) (us:List FE),N=2*nj/\e=.returned (.slice (some ⟨g,0,none⟩) N N)/\QBlk w' g us/\us.length=N/\∀(i:Nat) (t:FE),us[i]?=some t->t.q=agn vs i/\t.k<=K)/\Below w.heap.size w w':=by
 obtain⟨HG,ah,ai,bi,HF⟩:=Id hg hl aq ar ab;obtain⟨N,hN⟩:=nm (2*nj);have au:=fun w=>Qcu N (by omega) w
 obtain⟨MC,aj⟩:=nm (((List.replicate N FE.zero).flatMap FE.cells).toArray);rw[aj] at au;have bj:=Hi aj.symm;have av:2*(nj:Int)=(N:Int):=by omega
 have aw:=Hi (fun u=>Qeu a1 a2 a3 c1 c2 c3 nj nb nh u hn);simp only[av] at aw;have HN:=Hi hN;clear hN av;clear hg hl aq ar ab aj;go_enter func60,ntmps60;go_wp2_with fail;go_fit (aw.o _);rintro e w1 ⟨rfl,ax⟩;have ak:=Hi ((bR.alloc lZ _).trans (ax.mono (by simp)));clear ax;obtain⟨g,hg⟩:=nm w1.heap.size;obtain⟨V,hV⟩:=nm (w1.alloc (.cells MC 141));have m:w.heap.size<=g:=by rw[<-hg];exact ak.o.size
 have bk:O (Bl w V):=Hi (by rw[<-hV];exact ak.o.alloc ak.o.size _);have bl:O (QBlk V g (List.replicate N FE.zero)):=Hi (by rw[<-hV,<-hg];exact QBlk.new w1 N MC bj.o);have HV:=Hi hV;clear hV;go_wp2_with fail;rw[HV.o]
 try rw[hg]
 clear au;go_loopw [14] (fun i wr=>∃(k:Nat) (us:List FE),k<=z.length/\i=.int .i64 k/\us.length=N/\QBlk wr g us/\(∀(i:Nat) (t:FE),us[i]?=some t->t.q=agn (vs.take k) i/\t.k<=K)/\Below w.heap.size w wr) (fun i _=>z.length - (intOf i).toNat)
 case atStart=>
  refine⟨0,_,Nat.zero_le _,rfl,by simp,bl.o,fun i t f=>?_,bk.o⟩;obtain⟨_,rfl⟩:=List.mem_replicate.1 (mO f);exact⟨rfl,ag⟩
 case round=>
  obtain⟨k,us,hk,rfl,ay,az,a0,hb⟩:=hrel;obtain⟨HU,HQ,am,HB⟩:=Ic ay az a0 hb;clear ay az a0 hb;by_cases bm:k<z.length
  .
   obtain⟨l,hl⟩:∃l,z[k]?=some l:=⟨z[k],gE bm⟩;obtain⟨p,hp⟩:∃p,vs[k]?=some p:=⟨vs[k]'(by have:=ai.o;omega),gE (by have:=ai.o;omega)⟩;have M:=bi.o k l p hl hp;obtain⟨lb,lo,rfl,a4,d0,d1,d2⟩:=(ah.o.below HB.o).load hl;obtain⟨bz,b0,e',b1,_⟩:=ah.o.load hl;cases e';rw[M.j] at d0;have bn:lb≠g:=by omega
   have bw:=bn.symm;obtain⟨X,hX⟩:=nm (2*p.1);obtain⟨Y,hY⟩:=nm (2*p.1+1);have a6:2*(p.1:Int)=(X:Int):=by omega
   have a7:2*(p.1:Int)+1=(Y:Int):=by omega
   have a8:=M.lt;have b2:X<N:=by have:=HN.o;omega
   have b3:Y<N:=by have:=HN.o;omega
   obtain⟨a9,ba⟩:=Ia (fun u=>Qdn p.1 u (by omega)) (fun u=>Qdo p.1 u (by omega));simp only[a7] at ba;simp only[a6] at a9;have bb:X≠Y:=by omega
   obtain⟨HX,HY,HP,c⟩:=Ic hX hY hp M;have q1:((k:Int)<(z.length:Int)):=by omega
   have q2:((X:Int)<(N:Int)):=by omega
   have q3:((Y:Int)<(N:Int)):=by omega
   have bo:=Hi hl;clear hl hp M hX hY a6 a7 a8;go_wp2_with fail;go_region_held3 (fun v=>v.cell? ⟨lb,lo+k*3,none⟩=some (.int .i64 (p.1:Nat))) ((first|(simp [*];done)|go_keep)) (first
    |(
     go_at_call 80;apply cM;apply a9.o
     rintro e2 w2 ⟨rfl,rfl⟩)
    |(
     go_at_call 81;apply cM;apply ba.o
     rintro e2 w2 ⟨rfl,rfl⟩)
    |fail)
   obtain⟨z0,P⟩:∃z0,us[X]?=some z0:=⟨us[X]'(by have:=HU.o;omega),gE (by have:=HU.o;omega)⟩;obtain⟨HZ,an⟩:=Ia (HQ.o.row.get P) (am.o _ _ P);obtain⟨gy,oy,ao,_,t0,t1,t2⟩:=HQ.o.row.at P;cases ao;simp only[Nat.zero_add] at t0 t1 t2;obtain⟨B,C,D,bc⟩:=Ic t0 t1 t2 d1;have bd:=HQ.o.blk.lt;obtain⟨ap,E⟩:=Ia (fun u (hu:Bl wr u)=>of_val ((HG.o.below HB.o).below hu) c.o.x c.o.sx) (c.o.x.fits (n:=1048576) (by have:=c.o.sx;simpa using this));have bp:=an.o.2;clear P;go_wp2_with fail
   first|(go_region_with (first
    |(
     go_at_call 82;apply cM;apply ap.o;(focus(repeat(first|exact Below.refl _ _|apply Qaq|apply Qar)));rintro e2 w2 ⟨⟨v2,rfl,hv2⟩,b⟩;obtain⟨n2,F,l2,G,m2,o2,p2,rfl,hv2⟩:=hv2;(first
       |have a:O (Bl wr w2):=Hi b
       |have a:O (Bl wr w2):=Hi (bR.drew.trans b)
       |have a:O (Bl wr w2):=Hi (bR.drew.drew.trans b))
     have r:O (FracV w2 (.agg #[.bool n2,.slice F l2 G,.slice m2 o2 p2]) p.2.1):=Hi ⟨n2,F,l2,G,m2,o2,p2,rfl,hv2⟩;clear hv2 b t0 t1 t2 d1;obtain⟨t0,t1,t2⟩:=Jb a.o bd B.o C.o D.o;have d1:=ce a.o a4 bc.o
     skip)
    |(
     go_at_call 101;apply cM;(first
       |exact Qbj (HZ.o.1.below a.o) r.o HZ.o.2.1 E.o (by omega)
       |exact Qbj (HZ.o.1.below a.o.drew) (r.o.below bR.drew) HZ.o.2.1 E.o (by omega))
     rintro e3 w3 ⟨⟨v3,rfl,hv3⟩,d⟩;obtain⟨n3,Q,l3,R,m3,o3,p3,rfl,hv3⟩:=hv3;(first
       |have s:=Hi (a.o.trans (d.mono a.o.size))
       |have s:O (Bl wr w3):=Hi (a.o.trans (((bR.drew).trans d).mono a.o.size)))
     have be:O (FracV w3 (.agg #[.bool n3,.slice Q l3 R,.slice m3 o3 p3]) (z0.q - p.2.1)):=Hi ⟨n3,Q,l3,R,m3,o3,p3,rfl,hv3⟩;have H:=Hi (HQ.o.below s.o);clear hv3 d t0 t1 t2 d1;obtain⟨t0,t1,t2⟩:=Jb s.o bd B.o C.o D.o;have d1:=ce s.o a4 bc.o;have f0:=H.o.blk.free (X*3);have f1:=H.o.blk.free (X*3+1);have f2:=H.o.blk.free (X*3+2)
     skip)
    |fail))|fail
   all_goals
    have bf:Fits (z0.q - p.2.1) K:=by
     have h1:=HF.o (k+1) X;rw[Qg9 HP.o,<-HX.o,agn_x,HX.o,<-an.o.1] at h1;exact h1
    obtain⟨us1,h⟩:=nm (us.set X ⟨.bool n3,.slice Q l3 R,.slice m3 o3 p3,z0.q - p.2.1,K⟩);obtain⟨A,S⟩:=nm (((w3.setCell ⟨g,X*3,none⟩ (.bool n3)).setCell ⟨g,X*3+1,none⟩ (.slice Q l3 R)).setCell ⟨g,X*3+2,none⟩ (.slice m3 o3 p3));have T:O (QBlk A g us1):=Hi (by rw[<-S,<-h];exact Qev H.o (by have:=HU.o;omega) be.o bf ag);have I:O (us1.length=N):=Hi (by rw[<-h,List.length_set];exact HU.o);have ad:O (∀(i:Nat) (t:FE),us1[i]?=some t->t.q=(if i=X then z0.q - p.2.1 else agn (vs.take k) i)/\t.k<=K):=Hi (fun i t f=>by
     rw[<-h] at f;by_cases e:i=X
     .
      subst e;rw[List.getElem?_set_self (by have:=HU.o;omega)] at f;obtain rfl:=Option.some.inj f;rw[if_pos rfl];exact⟨rfl,Nat.le_refl _⟩
     .
      rw[List.getElem?_set_ne (Ne.symm e)] at f;rw[if_neg e]
      exact am.o i t f)
    have U:O (Bl w A):=Hi (by rw[<-S];exact(((HB.o.trans (s.o.mono HB.o.size)).setCell (p:=⟨g,X*3,none⟩) m _).setCell (p:=⟨g,X*3+1,none⟩) m _).setCell (p:=⟨g,X*3+2,none⟩) m _);obtain⟨b4,b5,bq,ae,d0,d1,d2⟩:=(ah.o.below U.o).load bo.o;cases bq;obtain⟨br,bs⟩:=Ia an.o.1 S;clear bf h S t0 t1 t2 f0 f1 f2 d0 d1 a r H s be;go_wp2_with fail;rw[bs.o];obtain⟨z1,W⟩:∃z1,us1[Y]?=some z1:=⟨us1[Y]'(by have:=I.o;omega),gE (by have:=I.o;omega)⟩;obtain⟨Z,J⟩:=Ia (T.o.row.get W) (ad.o _ _ W);obtain⟨gy,oy,ao,_,t0,t1,t2⟩:=T.o.row.at W;cases ao;simp only[Nat.zero_add] at t0 t1 t2;obtain⟨B,C,D,bg⟩:=Ic t0 t1 t2 d2;have af:=T.o.blk.lt
    obtain⟨ap,E⟩:=Ia (fun u (hu:Bl A u)=>of_val ((HG.o.below U.o).below hu) c.o.y c.o.sy) (c.o.y.fits (n:=1048576) (by have:=c.o.sy;simpa using this));have bp:=J.o.2;clear W
    first|(go_region_with (first
     |(
      go_at_call 82;apply cM;apply ap.o;(focus(repeat(first|exact Below.refl _ _|apply Qaq|apply Qar)));rintro e2 w4 ⟨⟨v2,rfl,hv2⟩,b⟩;obtain⟨n2,F,l2,G,m2,o2,p2,rfl,hv2⟩:=hv2;(first
        |have a:O (Bl A w4):=Hi b
        |have a:O (Bl A w4):=Hi (bR.drew.trans b)
        |have a:O (Bl A w4):=Hi (bR.drew.drew.trans b))
      have r:O (FracV w4 (.agg #[.bool n2,.slice F l2 G,.slice m2 o2 p2]) p.2.2):=Hi ⟨n2,F,l2,G,m2,o2,p2,rfl,hv2⟩;clear hv2 b t0 t1 t2 d2;obtain⟨t0,t1,t2⟩:=Jb a.o af B.o C.o D.o;have d2:=ce a.o ae bg.o
      skip)
     |(
      go_at_call 101;apply cM;(first
        |exact Qbj (Z.o.1.below a.o) r.o Z.o.2.1 E.o (by omega)
        |exact Qbj (Z.o.1.below a.o.drew) (r.o.below bR.drew) Z.o.2.1 E.o (by omega))
      rintro e3 w5 ⟨⟨v3,rfl,hv3⟩,d⟩;obtain⟨n5,a5,l5,c5,m5,o5,p5,rfl,hv3⟩:=hv3;(first
        |have L:=Hi (a.o.trans (d.mono a.o.size))
        |have L:O (Bl A w5):=Hi (a.o.trans (((bR.drew).trans d).mono a.o.size)))
      have bt:O (FracV w5 (.agg #[.bool n5,.slice a5 l5 c5,.slice m5 o5 p5]) (z1.q - p.2.2)):=Hi ⟨n5,a5,l5,c5,m5,o5,p5,rfl,hv3⟩;have aa:=Hi (T.o.below L.o);clear hv3 d t0 t1 t2 d2;obtain⟨t0,t1,t2⟩:=Jb L.o af B.o C.o D.o;have d2:=ce L.o ae bg.o;have f0:=aa.o.blk.free (Y*3);have f1:=aa.o.blk.free (Y*3+1);have f2:=aa.o.blk.free (Y*3+2)
      skip)
     |fail))|fail
    all_goals
     have bh:Fits (z1.q - p.2.2) K:=by
      have h1:=HF.o (k+1) Y;have h2:=J.o.1;rw[if_neg (Ne.symm bb)] at h2;rw[Qg9 HP.o,<-HY.o,agn_y,HY.o,<-h2] at h1;exact h1
     have bu:=Hi bh;clear bh t0 t1 t2 f0 f1 f2 d2;go_wp2_with fail;refine⟨⟨k+1,_,by omega,by go_num,by rw[List.length_set];exact I.o,Qev aa.o (by have:=I.o;omega) bt.o bu.o ag,fun i t f=>?_,(((U.o.trans (L.o.mono U.o.size)).setCell (p:=⟨g,Y*3,none⟩) m _).setCell (p:=⟨g,Y*3+1,none⟩) m _).setCell (p:=⟨g,Y*3+2,none⟩) m _⟩,?_⟩
     .
      rw[Qg9 HP.o];by_cases e:i=Y
      .
       subst e;rw[List.getElem?_set_self (by have:=I.o;omega)] at f;obtain rfl:=Option.some.inj f;have h2:=J.o.1;rw[if_neg (Ne.symm bb)] at h2;refine⟨?_,Nat.le_refl _⟩;rw[<-HY.o,agn_y,HY.o,<-h2]
      .
       rw[List.getElem?_set_ne (Ne.symm e)] at f;obtain⟨h3,h4⟩:=ad.o i t f;refine⟨?_,h4⟩;by_cases e2:i=X
       .
        subst e2;rw[if_pos rfl] at h3;rw[h3,<-HX.o,agn_x,HX.o,br.o]
       . rw[if_neg e2] at h3
         rw[h3,Qlv (by rw[HX.o];exact e2) (by rw[HY.o];exact e)]
     . simp[intOf]
       omega
  .
   have bv:k=z.length:=by omega
   subst bv;go_wp2;go_ret;refine⟨⟨g,N,us,HN.o.symm,rfl,HQ.o,HU.o,fun i t f=>?_⟩,HB.o⟩;have:=am.o i t f;rw[List.take_of_length_le (by have:=ai.o;omega)] at this;exact this
section
open Go
section
variable {P:Program} {ops:Array Oper} {Q:Exit->Act->World->Prop} {md:Region.Mode} {S:World->Prop} {D:Vy}
def NoneOf(D:Vy)(listed:Array Bool):Prop:=∀d∈ D,listed.getD d true=false
theorem NoneOf.set{a:Array Bool}{j:Nat}(h:NoneOf D a)(f:j ∉ D):NoneOf D (a.setIfInBounds j true):=fun d c=>by
 have b:j≠d:=fun e=>f (e ▸ c)
 rw[_root_.Go.getD_set_ne true b];exact h d c
theorem NoneOf.back{a:Array Bool}{j:Nat}(h:NoneOf D (a.setIfInBounds j true)):j ∉ D/\NoneOf D a:=by
 have f:j ∉ D:=fun b=>by
  have:=h j b;simp at this
 refine⟨f,fun d b=>?_⟩;have c:j≠d:=fun e=>f (e ▸ b)
 have:=h d b;rw[_root_.Go.getD_set_ne true c] at this;exact this
def AnyDs(P:Program)(md:Region.Mode)(ops:Array Oper)(Q:Exit->Act->World->Prop)(S:World->Prop)(D:Vy):Nat->Array Bool->Act->World->Prop
 |0,listed,a,w=>Region.ready md ops listed= []/\Q .normal a w
 |fuel+1,listed,a,w=>(Region.ready md ops listed= []->Q .normal a w)/\∀i∈ Region.ready md ops listed,wpOp P ops Q i (fun a' w'=>(i ∉ D->NoneOf D listed->S w')/\AnyDs P md ops Q S D fuel (listed.setIfInBounds i true) a' w') a w
theorem AnyDs.any:∀(b:Nat) (c:Array Bool) (a:Act) (w:Vz),AnyDs P md ops Q S D b c a w->wpAny P md ops Q b c a w
 |0,_,_,_,h=>h
 |b+1,_,_,_,h=>⟨h.1,fun i d=>wpOp_mono (fun e w' f=>AnyDs.any b _ e w' f.2) (h.2 i d)⟩
theorem Qck{i j:Nat}{a:Array Bool}{g:Oper}(k:i∈ Region.ready md ops a)(b:∀e∈ g.after,Region.binds md e=true->a.getD e.on false=true):∀e∈ g.after,Region.binds md e=true->e.on≠i:=fun e l m d=>by
 have c:=b e l m;have h:=(mem_ready.1 k).1;rw[d] at c;rcases Nat.lt_or_ge i a.size with f|f
 . simp[f] at h c;rw[h] at c;cases c
 . simp[Array.getElem?_eq_none f] at c
theorem AnyDs.first{i:Nat}{u:Oper}{v:Value}(N:ops[i]?=some u)(r:∀(j:Nat) (o:Oper) z b,ops[j]?=some o->o.op≠.select z b)
 (V:∀c a w,Q (.panic c) (a.put u.dst v) w->Q (.panic c) a w) (hk:D.all (fun k=>waits md ops k i)=true):
 ∀(f:Nat) (d:Array Bool) (a:Act) (w:Vz),
  (∀j y,ops[j]?=some y->j≠i->d.getD j true=false->(∀e∈ y.after,Region.binds md e=true->e.on≠i)->u.apart ops y=true)->
  i∈ Region.ready md ops d->YieldsIf P ops S u v a->NoneOf D d->S w->
  AnyDs P md ops Q S D f (d.setIfInBounds i true) (a.put u.dst v) w->AnyDs P md ops Q S D (f+1) d a w:=by
 intro f
 induction f with
 |zero=>
  intro d a w _ n K O A H;refine⟨fun h=>(by rw[h] at n;cases n),fun j L=>?_⟩;by_cases g:j=i
  . subst g;exact K.wpOp N A ⟨fun _ _=>A,H⟩
  .
   have:=ready_mono L g;rw[H.1] at this;cases this
 |succ f W=>
  intro d a w l n K O A H;refine⟨fun h=>(by rw[h] at n;cases n),fun j L=>?_⟩;by_cases g:j=i
  . subst g;exact K.wpOp N A ⟨fun _ _=>A,H⟩
  .
   have X:=H.2 j (ready_mono L g);obtain⟨s,y,p,B⟩:=mem_ready.1 L;have t:=Qck (j:=j) n B;have C:j ∉ D:=fun e=>Qdh (k:=j) (List.all_eq_true.1 hk j e) p t
   have E:NoneOf D (d.setIfInBounds i true):=O.set (fun e=>by
    obtain⟨_,Y,F,x⟩:=mem_ready.1 n
    exact Qdh (k:=i) (List.all_eq_true.1 hk i e) F (Qck (j:=i) n x))
   have Z:=wpOp_putIf p (l j y p g s t) (fun z b=>r i u z b N) (fun z b=>r j y z b p) V K X;have q:∀m G,ops[m]?=some G->m≠i->(d.setIfInBounds j true).getD m true=false->
    (∀e∈ G.after,Region.binds md e=true->e.on≠i)->u.apart ops G=true:=fun m G hm R I T=>by
    refine l m G hm R ?_ T;by_cases J:j=m
    . subst J;exact s
    . rw[_root_.Go.getD_set_ne true J] at I;exact I
   refine wpOp_mono (fun a' w' M=>⟨fun U _=>M.2.1 U E,W (d.setIfInBounds j true) a' w' q (ready_mono n (Ne.symm g)) M.1 (O.set C) (M.2.1 C E) ?_⟩) Z;rw[Array.setIfInBounds_comm _ _ g];exact M.2.2
theorem AnyDs.firstP{i:Nat}{q:Oper}{v:Value}(J:ops[i]?=some q)(n:∀(j:Nat) (o:Oper) u b,ops[j]?=some o->o.op≠.select u b)
 (O:∀c a w,Q (.panic c) (a.put q.dst v) w->Q (.panic c) a w) (x:i ∉ D):
 ∀(f:Nat) (d:Array Bool) (a:Act) (w:Vz),
  (∀j t,ops[j]?=some t->j≠i->d.getD j true=false->(∀e∈ t.after,Region.binds md e=true->e.on≠i)->q.apart ops t=true)->
  i∈ Region.ready md ops d->YieldsIf P ops (fun _=>True) q v a->(NoneOf D d->S w)->
  AnyDs P md ops Q S D f (d.setIfInBounds i true) (a.put q.dst v) w->AnyDs P md ops Q S D (f+1) d a w:=by
 intro f
 induction f with
 |zero=>
  intro d a w _ r E K H;refine⟨fun h=>(by rw[h] at r;cases r),fun j F=>?_⟩;by_cases g:j=i
  . subst g;exact E.wpOp J trivial ⟨fun _=>K,H⟩
  .
   have:=ready_mono F g;rw[H.1] at this;cases this
 |succ f R=>
  intro d a w k r E K H;refine⟨fun h=>(by rw[h] at r;cases r),fun j F=>?_⟩;by_cases g:j=i
  . subst g;exact E.wpOp J trivial ⟨fun _=>K,H⟩
  .
   have T:=H.2 j (ready_mono F g);obtain⟨p,t,s,y⟩:=mem_ready.1 F;have z:=Qck (j:=j) r y;have U:=wpOp_putIf s (k j t s g p z) (fun u b=>n i q u b J) (fun u b=>n j t u b s) O E T;have l:∀m A,ops[m]?=some A->m≠i->(d.setIfInBounds j true).getD m true=false->
    (∀e∈ A.after,Region.binds md e=true->e.on≠i)->q.apart ops A=true:=fun m A V L B M=>by
    refine k m A V L ?_ M;by_cases C:j=m
    . subst C;exact p
    . rw[_root_.Go.getD_set_ne true C] at B;exact B
   refine wpOp_mono (fun W w' G=>⟨?_,R (d.setIfInBounds j true) W w' l (ready_mono r (Ne.symm g)) G.1 ?_ ?_⟩) U
   . intro N I
     exact G.2.1 N (I.set x)
   . intro I
     exact G.2.1 I.back.1 (I.back.2.set x)
   . rw[Array.setIfInBounds_comm _ _ g]
     exact G.2.2
theorem Qkc{a:Array Bool}(h:D.all (fun d=>!(a.getD d true))=true):NoneOf D a:=fun d b=>by
 have:=List.all_eq_true.1 h d b
 simpa using this
theorem Qcl{a:Array Bool}{d:Nat}(b:D.contains d=true)(h:a.getD d true=true):¬NoneOf D a:=fun c=>by
 have:=c d (by simpa using b);rw[h] at this;cases this
theorem AnyDs.take{i:Nat}{f:Oper}{v:Value}{e:Nat}{b:Array Bool}{a:Act}{w:Vz}(g:ops[i]?=some f)
 (hs:Region.noSelect ops=true) (j:Region.free md ops b i=true) (l:(Region.ready md ops b).contains i=true) (hk:D.all (fun k=>waits md ops k i)=true) (m:D.all (fun d=>!(b.getD d true))=true)
 (n:∀c a w,Q (.panic c) (a.put f.dst v) w->Q (.panic c) a w) (o:YieldsIf P ops S f v a) (p:S w)
 (h:AnyDs P md ops Q S D e (b.setIfInBounds i true) (a.put f.dst v) w):AnyDs P md ops Q S D (e+1) b a w:=
 AnyDs.first g (Region.noSelect_spec hs) n hk e b a w (Region.free_spec g j) (by simpa using l) o (Qkc m) p h
theorem AnyDs.takeP{i:Nat}{e:Oper}{v:Value}{d:Nat}{b:Array Bool}{a:Act}{w:Vz}(f:ops[i]?=some e)
 (hs:Region.noSelect ops=true) (j:Region.free md ops b i=true) (k:(Region.ready md ops b).contains i=true) (g:D.contains i=false)
 (l:∀c a w,Q (.panic c) (a.put e.dst v) w->Q (.panic c) a w) (m:YieldsIf P ops (fun _=>True) e v a) (n:NoneOf D b->S w)
 (h:AnyDs P md ops Q S D d (b.setIfInBounds i true) (a.put e.dst v) w):AnyDs P md ops Q S D (d+1) b a w:=
 AnyDs.firstP f (Region.noSelect_spec hs) l (fun o=>by rw[List.contains_iff_mem.2 o] at g;cases g) d b a w (Region.free_spec f j) (by simpa using k) m n h
def AllDs(P:Program)(md:Region.Mode)(ops:Array Oper)(Q:Exit->Act->World->Prop)(S:World->Prop)(D:Vy)(fuel:Nat)(listed:Array Bool)(a:Act)(w:Vz)(rs:Vy):Prop:=
 ∀i∈ rs,wpOp P ops Q i (fun a' w'=>(i ∉ D->NoneOf D listed->S w')/\AnyDs P md ops Q S D fuel (listed.setIfInBounds i true) a' w') a w
theorem AllDs.nil{c:Nat}{b:Array Bool}{a:Act}{w:Vz}:AllDs P md ops Q S D c b a w []:=fun _ h=>by cases h
theorem AllDs.cons{c:Nat}{b:Array Bool}{a:Act}{w:Vz}{i:Nat}{o:Oper}{rs:Vy}(e:ops[i]?=some o)
 (h:∀K':Act->World->Prop,Shut (∀a w,(i ∉ D->NoneOf D b->S w)->AnyDs P md ops Q S D c (b.setIfInBounds i true) a w->K' a w)->if Region.wanted o (yielded ops a.tmps)=true then Oper.wp P o a w K' Q else K' (a.put o.dst undef) w)
 (hs:AllDs P md ops Q S D c b a w rs):AllDs P md ops Q S D c b a w (i :: rs):=fun j d=>by
 rcases List.mem_cons.1 d with rfl|d
 . exact wpOp_step e (fun K' f=>h K' (fun a w g k=>f a w ⟨g,k⟩))
 . exact hs j d
theorem AnyDs.ready{rs:Vy}{c:Nat}{b:Array Bool}{a:Act}{w:Vz}(e:Region.ready md ops b=rs)(d:rs≠ [])
 (h:AllDs P md ops Q S D c b a w rs):AnyDs P md ops Q S D (c+1) b a w:=by
 refine⟨(fun f=>by rw[e] at f;exact absurd f d),fun j g=>?_⟩;rw[e] at g;exact h j g
theorem AnyDs.done{b:Array Bool}{a:Act}{w:Vz}(d:Region.ready md ops b= [])(h:Q .normal a w):∀c,AnyDs P md ops Q S D c b a w
 |0=>⟨d,h⟩
 |_+1=>⟨fun _=>h,by rw[d];simp⟩
theorem AnyDs.begin{id:Nat}{a:Act}{w:Vz}(b:P.follows .mixedOrders=true)
 (h:AnyDs P .any ops Q S D ops.size (Array.replicate ops.size false) a w.drew):(Code.region id ops true).wp P Q a w:=
 wp_region_any b (AnyDs.any _ _ _ _ h)
end
end
section
open Go
section
variable {P:Program} {ops:Array Oper} {Q:Exit->Act->World->Prop} {md:Region.Mode} {S T:World->Prop} {D:Vy}
def AnyE(P:Program)(md:Region.Mode)(ops:Array Oper)(Q:Exit->Act->World->Prop)(S T:World->Prop)(D:Vy):Nat->Array Bool->Act->World->Prop
 |0,listed,a,w=>Region.ready md ops listed= []/\Q .normal a w
 |fuel+1,listed,a,w=>(Region.ready md ops listed= []->Q .normal a w)/\∀i∈ Region.ready md ops listed,wpOp P ops Q i (fun a' w'=>((i ∉ D->NoneOf D listed->S w')/\T w')/\AnyE P md ops Q S T D fuel (listed.setIfInBounds i true) a' w') a w
theorem AnyE.any:∀(b:Nat) (c:Array Bool) (a:Act) (w:Vz),AnyE P md ops Q S T D b c a w->wpAny P md ops Q b c a w
 |0,_,_,_,h=>h
 |b+1,_,_,_,h=>⟨h.1,fun i d=>wpOp_mono (fun e w' f=>AnyE.any b _ e w' f.2) (h.2 i d)⟩
theorem AnyE.first{i:Nat}{u:Oper}{v:Value}(N:ops[i]?=some u)(r:∀(j:Nat) (o:Oper) A b,ops[j]?=some o->o.op≠.select A b)
 (X:∀c a w,Q (.panic c) (a.put u.dst v) w->Q (.panic c) a w) (hk:D.all (fun k=>waits md ops k i)=true):
 ∀(f:Nat) (d:Array Bool) (a:Act) (w:Vz),
  (∀j y,ops[j]?=some y->j≠i->d.getD j true=false->(∀e∈ y.after,Region.binds md e=true->e.on≠i)->u.apart ops y=true)->
  i∈ Region.ready md ops d->YieldsIf P ops S u v a->NoneOf D d->S w->T w->
  AnyE P md ops Q S T D f (d.setIfInBounds i true) (a.put u.dst v) w->AnyE P md ops Q S T D (f+1) d a w:=by
 intro f
 induction f with
 |zero=>
  intro d a w _ n L O B R H;refine⟨fun h=>(by rw[h] at n;cases n),fun j M=>?_⟩;by_cases g:j=i
  . subst g;exact L.wpOp N B ⟨⟨fun _ _=>B,R⟩,H⟩
  .
   have:=ready_mono M g;rw[H.1] at this;cases this
 |succ f Y=>
  intro d a w l n L O B R H;refine⟨fun h=>(by rw[h] at n;cases n),fun j M=>?_⟩;by_cases g:j=i
  . subst g;exact L.wpOp N B ⟨⟨fun _ _=>B,R⟩,H⟩
  .
   have Z:=H.2 j (ready_mono M g);obtain⟨s,y,p,C⟩:=mem_ready.1 M;have t:=Qck (j:=j) n C;have E:j ∉ D:=fun e=>Qdh (k:=j) (List.all_eq_true.1 hk j e) p t
   have F:NoneOf D (d.setIfInBounds i true):=O.set (fun e=>by
    obtain⟨_,aa,G,x⟩:=mem_ready.1 n
    exact Qdh (k:=i) (List.all_eq_true.1 hk i e) G (Qck (j:=i) n x))
   have h2:=wpOp_putIf p (l j y p g s t) (fun A b=>r i u A b N) (fun A b=>r j y A b p) X L Z;have q:∀m I,ops[m]?=some I->m≠i->(d.setIfInBounds j true).getD m true=false->
    (∀e∈ I.after,Region.binds md e=true->e.on≠i)->u.apart ops I=true:=fun m I hm U J V=>by
    refine l m I hm U ?_ V;by_cases K:j=m
    . subst K;exact s
    . rw[_root_.Go.getD_set_ne true K] at J;exact J
   refine wpOp_mono (fun a' w' z=>⟨⟨fun W _=>z.2.1.1 W F,z.2.1.2⟩,Y (d.setIfInBounds j true) a' w' q (ready_mono n (Ne.symm g)) z.1 (O.set E) (z.2.1.1 E F) z.2.1.2 ?_⟩) h2;rw[Array.setIfInBounds_comm _ _ g];exact z.2.2
theorem AnyE.firstT{i:Nat}{q:Oper}{v:Value}(K:ops[i]?=some q)(n:∀(j:Nat) (o:Oper) x b,ops[j]?=some o->o.op≠.select x b)
 (R:∀c a w,Q (.panic c) (a.put q.dst v) w->Q (.panic c) a w) (y:i ∉ D):
 ∀(f:Nat) (d:Array Bool) (a:Act) (w:Vz),
  (∀j t,ops[j]?=some t->j≠i->d.getD j true=false->(∀e∈ t.after,Region.binds md e=true->e.on≠i)->q.apart ops t=true)->
  i∈ Region.ready md ops d->YieldsIf P ops T q v a->(NoneOf D d->S w)->T w->
  AnyE P md ops Q S T D f (d.setIfInBounds i true) (a.put q.dst v) w->AnyE P md ops Q S T D (f+1) d a w:=by
 intro f
 induction f with
 |zero=>
  intro d a w _ r G L z H;refine⟨fun h=>(by rw[h] at r;cases r),fun j I=>?_⟩;by_cases g:j=i
  . subst g;exact G.wpOp K z ⟨⟨fun _=>L,z⟩,H⟩
  .
   have:=ready_mono I g;rw[H.1] at this;cases this
 |succ f U=>
  intro d a w k r G L z H;refine⟨fun h=>(by rw[h] at r;cases r),fun j I=>?_⟩;by_cases g:j=i
  . subst g;exact G.wpOp K z ⟨⟨fun _=>L,z⟩,H⟩
  .
   have V:=H.2 j (ready_mono I g);obtain⟨p,t,s,A⟩:=mem_ready.1 I;have B:=Qck (j:=j) r A;have W:=wpOp_putIf s (k j t s g p B) (fun x b=>n i q x b K) (fun x b=>n j t x b s) R G V;have l:∀m C,ops[m]?=some C->m≠i->(d.setIfInBounds j true).getD m true=false->
    (∀e∈ C.after,Region.binds md e=true->e.on≠i)->q.apart ops C=true:=fun m C X M E N=>by
    refine k m C X M ?_ N;by_cases F:j=m
    . subst F;exact p
    . rw[_root_.Go.getD_set_ne true F] at E;exact E
   refine wpOp_mono (fun Y w' u=>⟨⟨?_,u.2.1.2⟩,U (d.setIfInBounds j true) Y w' l (ready_mono r (Ne.symm g)) u.1 ?_ u.2.1.2 ?_⟩) W
   . intro O J
     exact u.2.1.1 O (J.set y)
   . intro J
     exact u.2.1.1 J.back.1 (J.back.2.set y)
   . rw[Array.setIfInBounds_comm _ _ g]
     exact u.2.2
theorem AnyE.take{i:Nat}{f:Oper}{v:Value}{e:Nat}{b:Array Bool}{a:Act}{w:Vz}(g:ops[i]?=some f)
 (hs:Region.noSelect ops=true) (j:Region.free md ops b i=true) (l:(Region.ready md ops b).contains i=true) (hk:D.all (fun k=>waits md ops k i)=true) (m:D.all (fun d=>!(b.getD d true))=true)
 (n:∀c a w,Q (.panic c) (a.put f.dst v) w->Q (.panic c) a w) (o:YieldsIf P ops S f v a) (p:S w) (q:T w)
 (h:AnyE P md ops Q S T D e (b.setIfInBounds i true) (a.put f.dst v) w):AnyE P md ops Q S T D (e+1) b a w:=
 AnyE.first g (Region.noSelect_spec hs) n hk e b a w (Region.free_spec g j) (by simpa using l) o (Qkc m) p q h
theorem AnyE.takeT{i:Nat}{e:Oper}{v:Value}{d:Nat}{b:Array Bool}{a:Act}{w:Vz}(f:ops[i]?=some e)
 (hs:Region.noSelect ops=true) (j:Region.free md ops b i=true) (k:(Region.ready md ops b).contains i=true) (g:D.contains i=false)
 (l:∀c a w,Q (.panic c) (a.put e.dst v) w->Q (.panic c) a w) (m:YieldsIf P ops T e v a) (n:NoneOf D b->S w) (o:T w)
 (h:AnyE P md ops Q S T D d (b.setIfInBounds i true) (a.put e.dst v) w):AnyE P md ops Q S T D (d+1) b a w:=
 AnyE.firstT f (Region.noSelect_spec hs) l (fun p=>by rw[List.contains_iff_mem.2 p] at g;cases g) d b a w (Region.free_spec f j) (by simpa using k) m n o h
theorem AnyE.one{i:Nat}{o:Oper}{c:Nat}{b:Array Bool}{a:Act}{w:Vz}(d:Region.ready md ops b= [i])(g:ops[i]?=some o)
 (h:∀K':Act->World->Prop,Shut (∀a w,((i ∉ D->NoneOf D b->S w)/\T w)->AnyE P md ops Q S T D c (b.setIfInBounds i true) a w->K' a w)->if Region.wanted o (yielded ops a.tmps)=true then Oper.wp P o a w K' Q else K' (a.put o.dst undef) w):AnyE P md ops Q S T D (c+1) b a w:=by
 refine⟨(fun e=>by rw[d] at e;cases e),fun j f=>?_⟩;rw[d] at f;obtain rfl:=List.mem_singleton.1 f;exact wpOp_step g (fun K' k=>h K' (fun a w l m=>k a w ⟨l,m⟩))
theorem AnyE.done{b:Array Bool}{a:Act}{w:Vz}(d:Region.ready md ops b= [])(h:Q .normal a w):∀c,AnyE P md ops Q S T D c b a w
 |0=>⟨d,h⟩
 |_+1=>⟨fun _=>h,by rw[d];simp⟩
theorem AnyE.begin{id:Nat}{a:Act}{w:Vz}(b:P.follows .mixedOrders=true)
 (h:AnyE P .any ops Q S T D ops.size (Array.replicate ops.size false) a w.drew):(Code.region id ops true).wp P Q a w:=
 wp_region_any b (AnyE.any _ _ _ _ h)
end
end
section
open Go
def Plan(is:Vy)(p:Prop):Prop:=p
theorem Plan.of{p:Prop}(is:Vy)(h:Plan is p):p:=h
theorem Plan.done{p:Prop}(h:p):Plan [] p:=h
section
variable {P:Program} {ops:Array Oper} {Q:Exit->Act->World->Prop} {md:Region.Mode} {S T:World->Prop} {D is:Vy} {i:Nat} {oi:Oper} {v:Value} {fuel:Nat} {listed:Array Bool} {a:Act} {w:Vz}
theorem AnyBut.beg{id k:Nat}(b:P.follows .mixedOrders=true)(c:S w.drew)(h:AnyBut P .any ops Q S k ops.size (Array.replicate ops.size false) a w.drew):(Code.region id ops true).wp P Q a w:=AnyBut.begin b h
theorem AnyDs.beg{id:Nat}(b:P.follows .mixedOrders=true)(c:S w.drew)(h:AnyDs P .any ops Q S D ops.size (Array.replicate ops.size false) a w.drew):(Code.region id ops true).wp P Q a w:=AnyDs.begin b h
theorem AnyE.beg{id:Nat}(b:P.follows .mixedOrders=true)(c:S w.drew)(d:T w.drew)(h:AnyE P .any ops Q S T D ops.size (Array.replicate ops.size false) a w.drew):(Code.region id ops true).wp P Q a w:=AnyE.begin b h
theorem AnyE.tp(b:ops[i]?=some oi)(hs:Region.noSelect ops=true)(d:Region.free md ops listed i=true)(e:(Region.ready md ops listed).contains i=true)(f:D.contains i=false)
 (g:∀c a w,Q (.panic c) (a.put oi.dst v) w->Q (.panic c) a w) (j:NoneOf D listed->S w) (l:T w) (m:YieldsIf P ops T oi v a)
 (h:Plan is (AnyE P md ops Q S T D fuel (listed.setIfInBounds i true) (a.put oi.dst v) w)):Plan (i :: is) (AnyE P md ops Q S T D (fuel+1) listed a w):=
 AnyE.takeT b hs d e f g m j l h
theorem AnyE.sp(b:ops[i]?=some oi)(hs:Region.noSelect ops=true)(e:Region.free md ops listed i=true)(f:(Region.ready md ops listed).contains i=true)(hk:D.all (fun k=>waits md ops k i)=true)(g:D.all (fun d=>!(listed.getD d true))=true)
 (j:∀c a w,Q (.panic c) (a.put oi.dst v) w->Q (.panic c) a w) (l:S w) (m:T w) (n:YieldsIf P ops S oi v a)
 (h:Plan is (AnyE P md ops Q S T D fuel (listed.setIfInBounds i true) (a.put oi.dst v) w)):Plan (i :: is) (AnyE P md ops Q S T D (fuel+1) listed a w):=
 AnyE.take b hs e f hk g j n l m h
theorem AnyE.op{o:Oper}(b:Region.ready md ops listed= [i])(c:ops[i]?=some o)
 (h:∀K':Act->World->Prop,Shut (∀a w,((i ∉ D->NoneOf D listed->S w)/\T w)->Plan is (AnyE P md ops Q S T D fuel (listed.setIfInBounds i true) a w)->K' a w)->if Region.wanted o (yielded ops a.tmps)=true then Oper.wp P o a w K' Q else K' (a.put o.dst undef) w):Plan (i :: is) (AnyE P md ops Q S T D (fuel+1) listed a w):=
 AnyE.one b c h
theorem AnyDs.pp(b:ops[i]?=some oi)(hs:Region.noSelect ops=true)(d:Region.free md ops listed i=true)(e:(Region.ready md ops listed).contains i=true)(f:D.contains i=false)
 (g:∀c a w,Q (.panic c) (a.put oi.dst v) w->Q (.panic c) a w) (j:NoneOf D listed->S w) (l:YieldsIf P ops (fun _=>True) oi v a)
 (h:Plan is (AnyDs P md ops Q S D fuel (listed.setIfInBounds i true) (a.put oi.dst v) w)):Plan (i :: is) (AnyDs P md ops Q S D (fuel+1) listed a w):=
 AnyDs.takeP b hs d e f g l j h
theorem AnyDs.sp(b:ops[i]?=some oi)(hs:Region.noSelect ops=true)(e:Region.free md ops listed i=true)(f:(Region.ready md ops listed).contains i=true)(hk:D.all (fun k=>waits md ops k i)=true)(g:D.all (fun d=>!(listed.getD d true))=true)
 (j:∀c a w,Q (.panic c) (a.put oi.dst v) w->Q (.panic c) a w) (l:S w) (m:YieldsIf P ops S oi v a)
 (h:Plan is (AnyDs P md ops Q S D fuel (listed.setIfInBounds i true) (a.put oi.dst v) w)):Plan (i :: is) (AnyDs P md ops Q S D (fuel+1) listed a w):=
 AnyDs.take b hs e f hk g j m l h
variable {k:Nat}
theorem AnyBut.bp(b:ops[i]?=some oi)(hs:Region.noSelect ops=true)(d:Region.free md ops listed i=true)(e:(Region.ready md ops listed).contains i=true)(hk:waits md ops k i=true)
 (f:∀c a w,Q (.panic c) (a.put oi.dst v) w->Q (.panic c) a w) (g:S w) (j:YieldsIf P ops S oi v a)
 (h:Plan is (AnyBut P md ops Q S k fuel (listed.setIfInBounds i true) (a.put oi.dst v) w)):Plan (i :: is) (AnyBut P md ops Q S k (fuel+1) listed a w):=
 AnyBut.take b hs d e hk f j g h
theorem AnyBut.op{o:Oper}(b:Region.ready md ops listed= [i])(c:ops[i]?=some o)
 (h:∀K':Act->World->Prop,Shut (∀a w,(i≠k->S w)->Plan is (AnyBut P md ops Q S k fuel (listed.setIfInBounds i true) a w)->K' a w)->if Region.wanted o (yielded ops a.tmps)=true then Oper.wp P o a w K' Q else K' (a.put o.dst undef) w):Plan (i :: is) (AnyBut P md ops Q S k (fuel+1) listed a w):=
 AnyBut.one b c h
end
end
theorem Tryz.stairsInfo:(prog.info? 135).map (·.size)=some 3:=by kernel_rfl
theorem okNil{w:Vz}{W K:Nat}:Oks w W K []:=fun _ h=>by cases h
def Box2(b:Nat)(sv hv:Value)(v:Vz):Prop:=v.cell? ⟨b,1,none⟩=some sv/\v.cell? ⟨b,2,none⟩=some hv
theorem SW.box2{w u:Vz}{W K wide:Nat}{L S X:List MR}{hs:Vy}{lv sv hv b1 b2:Value}(h:SW w u W K wide L S X hs lv sv hv b1 b2):Box2 (w.heap.size+1) b1 b2 u:=⟨h.box.cell 1,h.box.cell 2⟩
theorem Qa0(u:Vz)(v:Value)(t:Vr):(u.alloc (.cells #[v] t)).cell? ⟨u.heap.size,0,none⟩=some v:=(SB.new u t #[v]).cell 0
section
variable {w u:Vz} {W K wide:Nat} {L S X:List MR} {hs:Vy} {lv sv hv b1 b2:Value}
theorem SW.ord1(h:SW w u W K wide L S X hs lv sv hv b1 b2){r:MR}(j:r∈ X){g:Vx}(i:r.a=g)(k:Nat)(n:S.length<=1000)(o:hs.length<=1000):
 ∃b e d f,(Builtin.append_ #[89,89] 89 #[sv,.slice (some ⟨u.heap.size,0,none⟩) 1 1]).run prog (u.alloc (.cells #[.slice g W r.cap] 93))=.ok b e/\
  (Builtin.append_ #[99,99] 99 #[hv,.slice (some ⟨e.heap.size,0,none⟩) 1 1]).run prog (e.alloc (.cells #[.int .i64 (k:Nat)] 3))=.ok d f/\SW w e W K wide L (S++ [r]) X hs lv b hv b1 b2/\SW w f W K wide L (S++ [r]) X (hs++ [k]) lv b d b1 b2:=by
 have l:=h.alloc (.cells #[.slice g W r.cap] 93);obtain⟨b,e,p,m,_,_⟩:=l.app1 (s:=r) (nb:=u.heap.size) (c:=1) (by rw[Qa0,MR.val,(h.okX r j).len,i]) (l.okX r j) n 89;obtain⟨d,f,q,t⟩:=(m.alloc (.cells #[.int .i64 (k:Nat)] 3)).app2 (k:=k) (nb:=e.heap.size) (c:=1) (Qa0 _ _ _) o 99;exact⟨b,e,d,f,p,q,m,t⟩
theorem SW.ord2(h:SW w u W K wide L S X hs lv sv hv b1 b2){r:MR}(m:r∈ X){e:Vx}(l:r.a=e)(k:Nat)(q:S.length<=1000)(t:hs.length<=1000):
 ∃b f d j,(Builtin.append_ #[89,89] 89 #[sv,.slice (some ⟨u.heap.size,0,none⟩) 1 1]).run prog ((u.alloc (.cells #[.slice e W r.cap] 93)).alloc (.cells #[.int .i64 (k:Nat)] 3))=.ok b f/\
  (Builtin.append_ #[99,99] 99 #[hv,.slice (some ⟨u.heap.size+1,0,none⟩) 1 1]).run prog f=.ok d j/\SW w f W K wide L (S++ [r]) X hs lv b hv b1 b2/\SW w j W K wide L (S++ [r]) X (hs++ [k]) lv b d b1 b2:=by
 have v:=h.alloc (.cells #[.slice e W r.cap] 93);have n:=v.alloc (.cells #[.int .i64 (k:Nat)] 3);have x:((u.alloc (.cells #[.slice e W r.cap] 93)).alloc (.cells #[.int .i64 (k:Nat)] 3)).cell? ⟨u.heap.size,0,none⟩=some (.slice e W r.cap):=
  (((Below.refl _ (u.alloc (.cells #[.slice e W r.cap] 93))).alloc lZ _).cell (p:=⟨u.heap.size,0,none⟩) (by rw[World.size_alloc];exact Nat.lt_succ_self _)).trans (Qa0 _ _ _)
 obtain⟨b,f,y,o,_,g⟩:=n.app1 (s:=r) (nb:=u.heap.size) (c:=1) (by rw[x,MR.val,(h.okX r m).len,l]) (n.okX r m) q 89;have i:=g _ _ _ (Qa0 (u.alloc (.cells #[.slice e W r.cap] 93)) (.int .i64 (k:Nat)) 3);rw[World.size_alloc] at i;obtain⟨d,j,z,A⟩:=o.app2 (k:=k) (nb:=u.heap.size+1) (c:=1) i t 99;exact⟨b,f,d,j,y,z,o,A⟩
theorem SW.ord3(h:SW w u W K wide L S X hs lv sv hv b1 b2){r:MR}(m:r∈ X){g:Vx}(j:r.a=g)(k:Nat)(t:S.length<=1000)(v:hs.length<=1000):
 ∃b e d i,(Builtin.append_ #[89,89] 89 #[sv,.slice (some ⟨u.heap.size+1,0,none⟩) 1 1]).run prog ((u.alloc (.cells #[.int .i64 (k:Nat)] 3)).alloc (.cells #[.slice g W r.cap] 93))=.ok b e/\
  (Builtin.append_ #[99,99] 99 #[hv,.slice (some ⟨u.heap.size,0,none⟩) 1 1]).run prog e=.ok d i/\SW w e W K wide L (S++ [r]) X hs lv b hv b1 b2/\SW w i W K wide L (S++ [r]) X (hs++ [k]) lv b d b1 b2:=by
 have x:=h.alloc (.cells #[.int .i64 (k:Nat)] 3);have n:=x.alloc (.cells #[.slice g W r.cap] 93);have o:=Qa0 (u.alloc (.cells #[.int .i64 (k:Nat)] 3)) (.slice g W r.cap) 93;rw[World.size_alloc] at o;obtain⟨b,e,y,q,_,f⟩:=n.app1 (s:=r) (nb:=u.heap.size+1) (c:=1) (by rw[o,MR.val,(h.okX r m).len,j]) (n.okX r m) t 89;have l:=f u.heap.size 0 (k:Nat) ((((Below.refl _ (u.alloc (.cells #[.int .i64 (k:Nat)] 3))).alloc lZ _).cell (p:=⟨u.heap.size,0,none⟩) (by rw[World.size_alloc];exact Nat.lt_succ_self _)).trans (Qa0 _ _ _));obtain⟨d,i,z,A⟩:=q.app2 (k:=k) (nb:=u.heap.size) (c:=1) l v 99;exact⟨b,e,d,i,y,z,q,A⟩
end
theorem Qg7(a:Vx)(cap W K wide:Nat)(rs:List MR)(w:Vz)(I:Nat->List Vec->List Vec->List Nat->Prop)(hI:Going K I)(h:ARow MR.cells w a cap rs)(b0:Oks w W K rs)(hl:rs.length<=1000)(hW:W<=1000)(dd:wide<=W)(de:0<K)(b:4*K+1<68719476000)(h0:I 0 (rs.map MR.q) [] []):
 Calls prog 76 #[.slice a rs.length cap,.int .i64 wide] w fun e w'=>(∃(L S:List MR) (hs:Vy) (sv hv:Value),e=.returned (.agg #[.int .i64 wide,sv,hv])/\I wide (L.map MR.q) (S.map MR.q) hs/\S.length<=wide/\hs.length<=wide/\Grow w' w.heap.size 93 1 IsSl sv S.length (S.map MR.val)/\Grow w' w.heap.size 3 1 IsI hv hs.length (headsV hs)/\Oks w' W K S)/\Below w.heap.size w w':=by
 obtain⟨HH,HO,HI,H0⟩:=Ic h b0 hI h0;clear h b0 hI h0;go_enter func76,ntmps76;obtain⟨V,hV⟩:=nm ((w.alloc (.cells #[.int .i64 0,.slice none 0 0,.slice none 0 0] 135)).alloc (.cells #[.int .i64 wide,.slice none 0 0,.slice none 0 0] 135));have af:=Ub hV;have bd:=Ud hV;have be:=Ue hV;have HV:=Hi hV;clear hV;go_wp2_with fail;rw[HV.o];go_fit (Qvk a cap rs V (HH.o.below af.o) hl);rintro e w1 ⟨⟨lv,rfl,hg⟩,aj⟩;have df:O (SW w w1 W K wide rs [] [] [] lv (.slice none 0 0) (.slice none 0 0) (.slice none 0 0) (.slice none 0 0)):=Hi
  ⟨be.o.below aj be.o.lt,bd.o.below aj bd.o.lt,hg.mono af.o.size,Grow.nil _ _ _ _ _,Grow.nil _ _ _ _ _,(fun _ _=>by simp[Value.ownBlock]),HO.o.fr ((Fr.of_below af.o).trans (Fr.of_below aj)),(fun _ h=>by cases h),(fun _ h=>by cases h),af.o.trans (aj.mono af.o.size),⟨_,_,_,rfl⟩,⟨_,_,_,rfl⟩⟩
 clear hg aj bd be af HV;go_wp2_with fail;go_loopw [6,17] (fun lw i wr=>∃(k:Nat) (L S:List MR) (hs:Vy) (sv hv:Value),k<=wide/\i=.int .i64 k/\SW w wr W K wide L S [] hs lw sv hv sv hv/\I k (L.map MR.q) (S.map MR.q) hs/\L.length<=1000/\S.length<=k/\hs.length<=k) (fun _ i _=>wide - (intOf i).toNat)
 case atStart=>exact⟨0,rs,[],[],_,_,Nat.zero_le _,rfl,df.o,H0.o,hl,Nat.zero_le _,Nat.zero_le _⟩
 case round=>
  obtain⟨k,L,S,hs,sv,hv,hk,rfl,hS,hi,b3,dy,dz⟩:=hrel;obtain⟨N,HJ⟩:=Ia hS hi;clear hi;by_cases ea:k<wide
  .
   obtain⟨a',cap',rfl,a4,a6⟩:=hS.left.mat hS.okL;have q1:((k:Int)<(wide:Int)):=by omega
   obtain⟨HP,HM⟩:=Ia a6 a4;clear hS a4 a6;go_wp2_with fail;go_fit (Qvc a' cap' W k L wr HM.o b3 hW (by omega));rintro e w2 ⟨⟨v,rfl,hp⟩,b4⟩;have ag:=Hi (N.o.below b4);clear b4 HM;rcases hp with ⟨rfl,a7⟩|⟨j,r,hj,rfl,b5⟩
   .
    have HA:=Hi a7;clear a7;go_wp2;go_roundw
    case rel=>exact⟨k+1,L,S,hs,sv,hv,by omega,by go_num,ag.o,HI.o.skip HJ.o (fun r hr=>by obtain⟨x,hx,rfl⟩:=List.mem_map.1 hr;exact HA.o x hx),b3,by omega,by omega⟩
    case measure=>simp[intOf];omega
   .
    have bf:=(gZ hj).1;obtain⟨g,rfl⟩:=HP.o (by omega);obtain⟨b6,dg⟩:=Ia hj b5;have l:=ag.o.okL r (mO hj);have bg:=l.len;obtain⟨f,hf⟩:∃f,r.ts[k]?=some f:=⟨r.ts[k]'(by omega),gE (by omega)⟩;obtain⟨rb,ro,bh,_,_,_,_⟩:=l.row.at hf;have d:w2.cell? ⟨g,j,none⟩=some (.slice r.a r.ts.length r.cap):=ag.o.left.cell (by rw[List.getElem?_map,hj];rfl);rw[bh,bg] at d;obtain⟨ah,HF⟩:=Ia bh hf;have q2:((j:Int)<(L.length:Int)):=by omega
    have HD:=Hi (Qvn w2 w.heap.size j (j+1) L.length (.slice (some ⟨g,0,none⟩) L.length cap') (L.map MR.val) ag.o.left rfl bf);simp only[Int.natCast_add,Int.natCast_one] at HD;have dh:=Hi l;clear hj b5 l HP bh hf;go_wp2_with fail;go_fit HD.o;rintro e w3 ⟨g',v3,hg,b7,rfl,b8,ho⟩;obtain rfl:g=g':=by simpa [Value.ownBlock] using hg
    obtain⟨a8,rfl,bi⟩:=(ag.o.withX (Y:=[r]) (fun x hx=>by
     have e:x=r:=by simpa using hx
     subst e
     exact dh.o)).erase hg b7 ho b8 bf
    have aa:O (I (k+1) (((L.eraseIdx j).map MR.q).map (lessBy k r.q)) ((S++ [r]).map MR.q) (hs++ [k])):=Hi (by
     have:=HI.o.step HJ.o (j:=j) (s:=r.q) (by rw[List.getElem?_map,b6.o];rfl) dg.o;rw[Qg6] at this
     simpa using this)
    have a9:=Hi (fun x hx i=>HI.o.fit aa.o _ (List.mem_map.2 ⟨x.q,List.mem_map.2 ⟨x,hx,rfl⟩,rfl⟩) i);have b9:(L.eraseIdx j).length<=1000:=by rw[List.length_eraseIdx,if_pos bf];omega
    obtain⟨L1,ca⟩:=nm (L.eraseIdx j);rw[ca] at bi aa a9 b9 ⊢;have cb:=Hi bi;clear bi hg b7 b8 ho HD b6 d ag N ca q2;go_wp2_with fail;go_loopw [36] (fun i wq=>∃(m:Nat) (T:List MR),m<=L1.length/\i=.int .i64 m/\T.length=L1.length/\SW w wq W K wide T S [r] hs (.slice (some ⟨g,0,none⟩) L1.length a8) sv hv sv hv/\(∀p x y,L1[p]?=some x->T[p]?=some y->y.q=if p<m then lessBy k r.q x.q else x.q)) (fun i _=>L1.length - (intOf i).toNat)
    case atStart=>exact⟨0,L1,Nat.zero_le _,rfl,rfl,cb.o,fun p x y hx hy=>by rw[hx] at hy;cases hy;simp⟩
    case round=>
     obtain⟨m,T,hm,rfl,ar,cc,hq⟩:=hrel;obtain⟨N,ab⟩:=Ia cc hq;clear cc hq cb;by_cases di:m<L1.length
     .
      obtain⟨y,hy⟩:∃y,T[m]?=some y:=⟨T[m]'(by omega),gE (by omega)⟩;obtain⟨x,hx⟩:∃x,L1[m]?=some x:=⟨L1[m],gE di⟩;have cd:y.q=x.q:=by have:=ab.o m x y hx hy;simpa using this
      have F:=N.o.okL y (mO hy);have l:=N.o.okX r (by simp);have G:=F.len;obtain⟨e,he⟩:∃e,y.ts[k]?=some e:=⟨y.ts[k]'(by omega),gE (by omega)⟩;have hf:=HF.o;obtain⟨yb,yo,bj,au,d0,d1,d2⟩:=F.row.at he;obtain⟨eb,ec,ba,av,z0,z1,z2⟩:=l.row.at hf;have ak:=ah.o;rw[ba] at ak;cases ak;have ed:g≠yb:=N.o.left.frac_ne rfl d0 (F.row.get he).1;have ee:g≠rb:=N.o.left.frac_ne rfl z0 (l.row.get hf).1;obtain⟨cf,cg,ch⟩:=F.row.get he;obtain⟨hv2,bb,bc⟩:=l.row.get hf;have ef:=F.sz e (mO he);have eg:=l.sz f (mO hf);have c0:wr.cell? ⟨g,m,none⟩=some (.slice y.a W y.cap):=by
       rw[<-G];exact N.o.left.cell (by rw[List.getElem?_map,hy];rfl)
      rw[bj] at c0;obtain⟨ci,HX,HY,al,bk,bl,cj,am,dj⟩:=Ih bj hx hy cd F l cf cg hv2;obtain⟨U,ck,dk⟩:=Ib bb (MR.q_at he) (MR.q_at hf);have q3:((m:Int)<(L1.length:Int)):=by omega
      have q4:((k:Int)<(W:Int)):=by omega
      obtain⟨dl,dm,dn,dp,dq,dr⟩:=Ie d0 d1 d2 z0 z1 z2;clear hy hx cd F l he hf bj ba cf cg hv2 bb z0 z1 z2;go_wp2_with fail;go_fit (Qcd cj.o);rintro e' w4 ⟨rfl,bm⟩;obtain⟨B,cl⟩:=Ia bm (N.o.below bm);clear bm d0 d1 d2 c0;by_cases h0:e.q=0
      .
       rw[decide_eq_true h0];have HZ:O (x.q k=0):=Hi (by rw[<-al.o,ck.o];exact h0);clear h0;go_wp2;go_roundw
       case rel=>
        refine⟨m+1,T,by omega,by go_num,ar,cl.o,fun p x' y' ad M=>?_⟩;rcases Nat.lt_trichotomy p m with hp|rfl|hp
        . rw[ab.o p x' y' ad M,if_pos hp,if_pos (by omega)]
        .
         obtain rfl:=Option.some.inj (HX.o.symm.trans ad);obtain rfl:=Option.some.inj (HY.o.symm.trans M);rw[if_pos (by omega),Qvo HZ.o];exact al.o
        . rw[ab.o p x' y' ad M,if_neg (by omega),if_neg (by omega)]
       case measure=>simp[intOf];omega
      .
       rw[decide_eq_false h0];clear h0;have ae:=Nat.lt_of_lt_of_le au B.o.size;have an:=Nat.lt_of_lt_of_le av B.o.size;obtain⟨K0,K1,K2,R0,R1,R2,cm,cn,bn⟩:=Ih (ce B.o au dl.o) (ce B.o au dm.o) (ce B.o au dn.o) (ce B.o av dp.o) (ce B.o av dq.o) (ce B.o av dr.o) (bk.o.row.below B.o) (bl.o.row.below B.o) (cj.o.below B.o);have bo:=Hi (dj.o.below B.o);have H:O (Bl w4 w4):=Hi bR;go_wp2_with fail;have u0:=ce H.o ae K0.o
       obtain⟨u1,u2⟩:=Ja H.o ae K1.o K2.o;obtain⟨v0,v1,v2⟩:=Jb H.o an R0.o R1.o R2.o;go_region_held3 (fun v=>v.cell? ⟨yb,yo+k*3,none⟩=some e.x/\v.cell? ⟨yb,yo+k*3+1,none⟩=some e.y/\v.cell? ⟨yb,yo+k*3+2,none⟩=some e.z/\v.cell? ⟨rb,ro+k*3,none⟩=some f.x/\v.cell? ⟨rb,ro+k*3+1,none⟩=some f.y/\v.cell? ⟨rb,ro+k*3+2,none⟩=some f.z) ((first|(simp [*];done)|go_keep)) (first
        |(
         go_at_call 129;apply cM
         first
          |exact Qc2 bn.o bo.o am.o U.o (by omega)
          |exact Qc2 (bn.o.below H.o.drew) (bo.o.below H.o.drew) am.o U.o (by omega)
          |exact Qc2 (bn.o.below H.o.drew.drew) (bo.o.below H.o.drew.drew) am.o U.o (by omega)
         rintro e5 w5 ⟨⟨v5,rfl,aw⟩,ax⟩;obtain⟨n5,a5,l5,c5,m5,o5,p5,rfl,aw⟩:=aw
         first
          |have C:O (Bl w4 w5):=Hi ax
          |have C:O (Bl w4 w5):=Hi (bR.drew.trans ax)
          |have C:O (Bl w4 w5):=Hi (bR.drew.drew.trans ax)
         have cp:O (FracV w5 (.agg #[.bool n5,.slice a5 l5 c5,.slice m5 o5 p5]) (e.q / f.q)):=Hi ⟨n5,a5,l5,c5,m5,o5,p5,rfl,aw⟩;clear aw ax;obtain⟨u0,u1,u2⟩:=Jb C.o ae K0.o K1.o K2.o;obtain⟨v0,v1,v2⟩:=Jb C.o an R0.o R1.o R2.o
         skip)
        |(
         go_at_call 128;apply cM;(first
           |(
            have HL:=Qg4 y.a r.a y.cap r.cap (4*K+1) (e.k+f.k) y.ts r.ts (.bool n5) (.slice a5 l5 c5) (.slice m5 o5 p5) (e.q / f.q) w5 (cm.o.below C.o) (cn.o.below C.o) (by omega) (by omega) cp.o (am.o.div U.o ch bc) (by omega) (fun t ht s hs=>by have:=bk.o.sz t ht;have:=bl.o.sz s hs;omega) (by omega);rw[G,ci.o,ah.o] at HL
            exact HL)
           |(
            have HL:=Qg4 y.a r.a y.cap r.cap (4*K+1) (e.k+f.k) y.ts r.ts (.bool n5) (.slice a5 l5 c5) (.slice m5 o5 p5) (e.q / f.q) w5.drew (cm.o.below C.o.drew) (cn.o.below C.o.drew) (by omega) (by omega) (cp.o.below bR.drew) (am.o.div U.o ch bc) (by omega) (fun t ht s hs=>by have:=bk.o.sz t ht;have:=bl.o.sz s hs;omega) (by omega);rw[G,ci.o,ah.o] at HL
            exact HL))
         rintro e6 w6 ⟨⟨g6,us,rfl,ds,cq,cr⟩,bp⟩
         first
          |have ay:=Hi (C.o.trans (bp.mono C.o.size))
          |have ay:O (Bl w4 w6):=Hi (C.o.trans (((bR.drew).trans bp).mono C.o.size))
         obtain⟨bq,dt,du⟩:=Ib (cl.o.below ay.o) cq cr;clear cq cr bp ds;obtain⟨u0,u1,u2⟩:=Jb ay.o ae K0.o K1.o K2.o;obtain⟨v0,v1,v2⟩:=Jb ay.o an R0.o R1.o R2.o;have fz:=bq.o.left.free m;have fc:=bq.o.left.cell (by rw[List.getElem?_map,HY.o];rfl)
         skip))
       all_goals
        go_wp2_with fail;obtain⟨r',cs,br,ct⟩:=MOk.made (v:=lessBy k r.q x.q) (K:=K) dt.o G (by rw[G];exact du.o) de (fun i hi=>by
         show y.q i - qAt r.ts i*(e.q / f.q)=_
         rw[qAt_q,al.o,<-ck.o,<-dk.o,al.o]
         rfl) (fun i hi=>by
         have h1:x.q i=0:=by rw[<-al.o];exact MR.q_beyond (by omega)
         have h2:r.q i=0:=MR.q_beyond (by omega);unfold lessBy;rw[h1,h2]
         grind) (fun i _=>a9.o x (mO HX.o) i)
        refine⟨⟨m+1,T.set m r',by omega,by go_num,by rw[List.length_set];exact ar,?_,fun p x' y' ad M=>?_⟩,?_⟩
        . rw[<-cs]
          exact bq.o.setL ar.symm (by omega) br
        .
         rcases Nat.lt_trichotomy p m with hp|rfl|hp
         . rw[List.getElem?_set_ne (by omega)] at M
           rw[ab.o p x' y' ad M,if_pos hp,if_pos (by omega)]
         .
          obtain rfl:=Option.some.inj (HX.o.symm.trans ad);rw[List.getElem?_set_self (by omega)] at M;obtain rfl:=Option.some.inj M;rw[if_pos (by omega)];exact ct
         . rw[List.getElem?_set_ne (by omega)] at M
           rw[ab.o p x' y' ad M,if_neg (by omega),if_neg (by omega)]
        . simp[intOf]
          omega
     .
      have bs:m=L1.length:=by omega
      subst bs;have dv:O (T.map MR.q=(L1.map MR.q).map (lessBy k r.q)):=Hi (by
       apply List.ext_getElem?;intro p;simp only[List.getElem?_map];rcases Nat.lt_or_ge p L1.length with hp|hp
       .
        obtain⟨x,hx⟩:∃x,L1[p]?=some x:=⟨L1[p],gE hp⟩;obtain⟨y,hy⟩:∃y,T[p]?=some y:=⟨T[p]'(by omega),gE (by omega)⟩;rw[hx,hy];simp only[Option.map_some];rw[ab.o p x y hx hy,if_pos hp]
       . rw[List.getElem?_eq_none (by omega),List.getElem?_eq_none hp]
         rfl)
      have bt:O (I (k+1) (T.map MR.q) ((S++ [r]).map MR.q) (hs++ [k])):=Hi (by rw[dv.o];exact aa.o);have bu:O (k+1<=wide):=Hi (by omega);have bv:O (T.length<=1000):=Hi (by omega);have bw:O ((S++ [r]).length<=k+1):=Hi (by rw[List.length_append];simp;omega);have bx:O ((hs++ [k]).length<=k+1):=Hi (by rw[List.length_append];simp;omega);have P:O (wide - (k+1)<wide - k):=Hi (by omega);have Q:S.length<=1000:=by omega
      have R:hs.length<=1000:=by omega
      obtain⟨E,hE⟩:=nm wr.drew;have Z:O (SW w E W K wide T S [r] hs (.slice (some ⟨g,0,none⟩) L1.length a8) sv hv sv hv):=Hi (by rw[<-hE];exact N.o.drew);have dw:=Hi hE;obtain⟨eh,dx,ei,ej,cu,cv,cw,az⟩:=Z.o.ord1 (List.mem_singleton.2 rfl) ah.o k Q R;obtain⟨ek,em,en,eo,cx,cy,cz,a0⟩:=Z.o.ord2 (List.mem_singleton.2 rfl) ah.o k Q R;obtain⟨ep,eq,er,es,c1,c2,c3,a1⟩:=Z.o.ord3 (List.mem_singleton.2 rfl) ah.o k Q R;obtain⟨bz,ai,c4,ao,c6,ap,c7,c8,c9⟩:=Ih cw az cz a0 c3 a1 cu cv cx;obtain⟨da,db,dc⟩:=Ib cy c1 c2;obtain⟨et,eu,rfl,_,_,_⟩:=az.rows.slice;obtain⟨ev,ew,rfl,_,_,_⟩:=az.heads.slice;obtain⟨ex,ey,rfl,_,_,_⟩:=a0.rows.slice;obtain⟨ez,e0,rfl,_,_,_⟩:=a0.heads.slice
      obtain⟨e7,e8,rfl,_,_,_⟩:=a1.rows.slice;obtain⟨e9,fa,rfl,_,_,_⟩:=a1.heads.slice;have A:=Z.o.box2;clear hE cu cv cw az cx cy cz a0 c1 c2 c3 a1 ab ar hm;go_wp2_with fail;refine AnyDs.begin (S:=Box2 (w.heap.size+1) sv hv) (D:=[11,13]) (by kernel_rfl) ?_;rw[dw.o];refine AnyDs.take (i:=0) (v:=?_) rfl (by kernel_rfl) (by kernel_rfl) (by kernel_rfl) (by kernel_rfl) (by kernel_rfl) (fun _ _ _ h=>h) (Or.inl ⟨by rfl,?_⟩) A ?_
      rotate_left
      .
       intro wq c;obtain⟨a2,a3⟩:=c
       first|(go_simp;done)|(go_simp;with_reducible rfl)
      (try simp only[Act.put,sA,sB,sC]);refine AnyDs.take (i:=1) (v:=?_) rfl (by kernel_rfl) (by kernel_rfl) (by kernel_rfl) (by kernel_rfl) (by kernel_rfl) (fun _ _ _ h=>h) (Or.inl ⟨by rfl,?_⟩) A ?_
      rotate_left
      .
       intro wq c;obtain⟨a2,a3⟩:=c
       first|(go_simp;done)|(go_simp;with_reducible rfl)
      (try simp only[Act.put,sA,sB,sC]);refine AnyDs.take (i:=2) (v:=?_) rfl (by kernel_rfl) (by kernel_rfl) (by kernel_rfl) (by kernel_rfl) (by kernel_rfl) (fun _ _ _ h=>h) (Or.inl ⟨by rfl,?_⟩) A ?_
      rotate_left
      .
       intro wq c;obtain⟨a2,a3⟩:=c
       first|(go_simp;done)|(go_simp;with_reducible rfl)
      (try simp only[Act.put,sA,sB,sC]);refine AnyDs.take (i:=5) (v:=?_) rfl (by kernel_rfl) (by kernel_rfl) (by kernel_rfl) (by kernel_rfl) (by kernel_rfl) (fun _ _ _ h=>h) (Or.inl ⟨by rfl,?_⟩) A ?_
      rotate_left
      .
       intro wq c;obtain⟨a2,a3⟩:=c
       first|(go_simp;done)|(go_simp;with_reducible rfl)
      (try simp only[Act.put,sA,sB,sC]);refine AnyDs.take (i:=6) (v:=?_) rfl (by kernel_rfl) (by kernel_rfl) (by kernel_rfl) (by kernel_rfl) (by kernel_rfl) (fun _ _ _ h=>h) (Or.inl ⟨by rfl,?_⟩) A ?_
      rotate_left
      .
       intro wq c;obtain⟨a2,a3⟩:=c
       first|(go_simp;done)|(go_simp;with_reducible rfl)
      (try simp only[Act.put,sA,sB,sC]);refine AnyDs.takeP (i:=7) (v:=?_) rfl (by kernel_rfl) (by kernel_rfl) (by kernel_rfl) (by kernel_rfl) (fun _ _ _ h=>h) (Or.inl ⟨by rfl,?_⟩) (fun _=>A) ?_
      rotate_left
      .
       intro wq c;clear c
       first|(go_simp;done)|(go_simp;with_reducible rfl)
      (try simp only[Act.put,sA,sB,sC]);refine AnyDs.ready (rs:=[3,8]) (by kernel_rfl) (by simp) ?_;refine AllDs.cons (by rfl) ?_ (AllDs.cons (by rfl) ?_ AllDs.nil)
      .
       intro n b;go_simp;(try dsimp only);refine b.out _ _ (fun _ _=>(Z.o.alloc _).box2) ?_;clear b n;(try simp only[Act.put,sA,sB,sC]);refine AnyDs.ready (rs:=[4,8]) (by kernel_rfl) (by simp) ?_;refine AllDs.cons (by rfl) ?_ (AllDs.cons (by rfl) ?_ AllDs.nil)
       .
        intro n b;refine Qa4 (t:=89) rfl (.tmp 64) (.tmp 66) rfl (vs:=sv) (vx:=.slice (some ⟨E.heap.size,0,none⟩) 1 1) (by simp[Act.eval]) (by simp[Act.eval]) c7.o ?_;(try dsimp only);refine b.out _ _ (fun _ _=>bz.o.box2) ?_;clear b n;(try simp only[Act.put,sA,sB,sC]);refine AnyDs.takeP (i:=10) (v:=?_) rfl (by kernel_rfl) (by kernel_rfl) (by kernel_rfl) (by kernel_rfl) (fun _ _ _ h=>h) (Or.inl ⟨by rfl,?_⟩) (fun _=>bz.o.box2) ?_
        rotate_left
        .
         intro wq c;clear c
         first|(go_simp;done)|(go_simp;with_reducible rfl)
        (try simp only[Act.put,sA,sB,sC]);refine AnyDs.ready (rs:=[8]) (by kernel_rfl) (by simp) ?_;refine AllDs.cons (by rfl) ?_ AllDs.nil;intro n b;go_simp;(try dsimp only);refine b.out _ _ (fun _ _=>(bz.o.alloc _).box2) ?_;clear b n;(try simp only[Act.put,sA,sB,sC]);refine AnyDs.ready (rs:=[9]) (by kernel_rfl) (by simp) ?_;refine AllDs.cons (by rfl) ?_ AllDs.nil;intro n b;refine Qa4 (t:=99) rfl (.tmp 69) (.tmp 71) rfl (vs:=hv) (vx:=.slice (some ⟨dx.heap.size,0,none⟩) 1 1) (by simp[Act.eval]) (by simp[Act.eval]) c8.o ?_;(try dsimp only);refine b.out _ _ (fun _ _=>ai.o.box2) ?_;clear b n;(try simp only[Act.put,sA,sB,sC]);obtain⟨-,x1,-⟩:=zc ai.o.box
        obtain⟨-,-,x2,-⟩:=zc ai.o.box;have z1:=ai.o.box.free 1;have z2:=ai.o.box.free 2;refine AnyDs.ready (rs:=[11]) (by kernel_rfl) (by simp) ?_;refine AllDs.cons (by rfl) ?_ AllDs.nil;intro n b;go_simp;(try dsimp only);refine b.out _ _ (fun h=>absurd (by decide) h) ?_;clear b n;(try simp only[Act.put,sA,sB,sC]);refine AnyDs.takeP (i:=12) (v:=?_) rfl (by kernel_rfl) (by kernel_rfl) (by kernel_rfl) (by kernel_rfl) (fun _ _ _ h=>h) (Or.inl ⟨by rfl,?_⟩) (fun h=>absurd h (Qcl (d:=11) (by kernel_rfl) (by kernel_rfl))) ?_
        rotate_left
        .
         intro wq c;clear c
         first|(go_simp;done)|(go_simp;with_reducible rfl)
        (try simp only[Act.put,sA,sB,sC]);refine AnyDs.ready (rs:=[13]) (by kernel_rfl) (by simp) ?_;refine AllDs.cons (by rfl) ?_ AllDs.nil;intro n b;go_simp;(try dsimp only);refine b.out _ _ (fun h=>absurd (by decide) h) ?_;clear b n;(try simp only[Act.put,sA,sB,sC]);refine AnyDs.done (by kernel_rfl) ?_ _;clear x1 x2 z1 z2;have J:=ai.o.put.withX okNil;rw[show (S++ [r]).length=S.length+1 by simp,show (hs++ [k]).length=hs.length+1 by simp] at J;have aq:=Hi J;clear J;go_wp2_with fail;refine⟨⟨k+1,T,S++ [r],hs++ [k],_,_,bu.o,by go_num,aq.o,bt.o,bv.o,bw.o,bx.o⟩,?_⟩
        first|exact P.o|(simp only[intOf];exact P.o)|(simp [intOf];exact P.o)
       .
        intro n b;go_simp;(try dsimp only);refine b.out _ _ (fun _ _=>((Z.o.alloc _).alloc _).box2) ?_;clear b n;(try simp only[Act.put,sA,sB,sC]);refine AnyDs.ready (rs:=[4]) (by kernel_rfl) (by simp) ?_;refine AllDs.cons (by rfl) ?_ AllDs.nil;intro n b;refine Qa4 (t:=89) rfl (.tmp 64) (.tmp 66) rfl (vs:=sv) (vx:=.slice (some ⟨E.heap.size,0,none⟩) 1 1) (by simp[Act.eval]) (by simp[Act.eval]) c9.o ?_;(try dsimp only);refine b.out _ _ (fun _ _=>c4.o.box2) ?_;clear b n;(try simp only[Act.put,sA,sB,sC]);refine AnyDs.takeP (i:=10) (v:=?_) rfl (by kernel_rfl) (by kernel_rfl) (by kernel_rfl) (by kernel_rfl) (fun _ _ _ h=>h) (Or.inl ⟨by rfl,?_⟩) (fun _=>c4.o.box2) ?_
        rotate_left
        .
         intro wq c;clear c
         first|(go_simp;done)|(go_simp;with_reducible rfl)
        (try simp only[Act.put,sA,sB,sC]);refine AnyDs.ready (rs:=[9]) (by kernel_rfl) (by simp) ?_;refine AllDs.cons (by rfl) ?_ AllDs.nil;intro n b;refine Qa4 (t:=99) rfl (.tmp 69) (.tmp 71) rfl (vs:=hv) (vx:=.slice (some ⟨E.heap.size+1,0,none⟩) 1 1) (by simp[Act.eval]) (by simp[Act.eval]) da.o ?_;(try dsimp only);refine b.out _ _ (fun _ _=>ao.o.box2) ?_;clear b n;(try simp only[Act.put,sA,sB,sC]);obtain⟨-,x1,x2,-⟩:=zc ao.o.box;have z1:=ao.o.box.free 1;have z2:=ao.o.box.free 2;refine AnyDs.ready (rs:=[11]) (by kernel_rfl) (by simp) ?_;refine AllDs.cons (by rfl) ?_ AllDs.nil;intro n b;go_simp;(try dsimp only);refine b.out _ _ (fun h=>absurd (by decide) h) ?_
        clear b n;(try simp only[Act.put,sA,sB,sC]);refine AnyDs.takeP (i:=12) (v:=?_) rfl (by kernel_rfl) (by kernel_rfl) (by kernel_rfl) (by kernel_rfl) (fun _ _ _ h=>h) (Or.inl ⟨by rfl,?_⟩) (fun h=>absurd h (Qcl (d:=11) (by kernel_rfl) (by kernel_rfl))) ?_
        rotate_left
        .
         intro wq c;clear c
         first|(go_simp;done)|(go_simp;with_reducible rfl)
        (try simp only[Act.put,sA,sB,sC]);refine AnyDs.ready (rs:=[13]) (by kernel_rfl) (by simp) ?_;refine AllDs.cons (by rfl) ?_ AllDs.nil;intro n b;go_simp;(try dsimp only);refine b.out _ _ (fun h=>absurd (by decide) h) ?_;clear b n;(try simp only[Act.put,sA,sB,sC]);refine AnyDs.done (by kernel_rfl) ?_ _;clear x1 x2 z1 z2;have J:=ao.o.put.withX okNil;rw[show (S++ [r]).length=S.length+1 by simp,show (hs++ [k]).length=hs.length+1 by simp] at J;have aq:=Hi J;clear J;go_wp2_with fail;refine⟨⟨k+1,T,S++ [r],hs++ [k],_,_,bu.o,by go_num,aq.o,bt.o,bv.o,bw.o,bx.o⟩,?_⟩
        first|exact P.o|(simp only[intOf];exact P.o)|(simp [intOf];exact P.o)
      .
       intro n b;go_simp;(try dsimp only);refine b.out _ _ (fun _ _=>(Z.o.alloc _).box2) ?_;clear b n;(try simp only[Act.put,sA,sB,sC]);refine AnyDs.ready (rs:=[3]) (by kernel_rfl) (by simp) ?_;refine AllDs.cons (by rfl) ?_ AllDs.nil;intro n b;go_simp;(try dsimp only);refine b.out _ _ (fun _ _=>((Z.o.alloc _).alloc _).box2) ?_;clear b n;(try simp only[Act.put,sA,sB,sC]);refine AnyDs.ready (rs:=[4]) (by kernel_rfl) (by simp) ?_;refine AllDs.cons (by rfl) ?_ AllDs.nil;intro n b;refine Qa4 (t:=89) rfl (.tmp 64) (.tmp 66) rfl (vs:=sv) (vx:=.slice (some ⟨E.heap.size+1,0,none⟩) 1 1) (by simp[Act.eval]) (by simp[Act.eval]) db.o ?_;(try dsimp only);refine b.out _ _ (fun _ _=>c6.o.box2) ?_;clear b n
       (try simp only[Act.put,sA,sB,sC]);refine AnyDs.takeP (i:=10) (v:=?_) rfl (by kernel_rfl) (by kernel_rfl) (by kernel_rfl) (by kernel_rfl) (fun _ _ _ h=>h) (Or.inl ⟨by rfl,?_⟩) (fun _=>c6.o.box2) ?_
       rotate_left
       .
        intro wq c;clear c
        first|(go_simp;done)|(go_simp;with_reducible rfl)
       (try simp only[Act.put,sA,sB,sC]);refine AnyDs.ready (rs:=[9]) (by kernel_rfl) (by simp) ?_;refine AllDs.cons (by rfl) ?_ AllDs.nil;intro n b;refine Qa4 (t:=99) rfl (.tmp 69) (.tmp 71) rfl (vs:=hv) (vx:=.slice (some ⟨E.heap.size,0,none⟩) 1 1) (by simp[Act.eval]) (by simp[Act.eval]) dc.o ?_;(try dsimp only);refine b.out _ _ (fun _ _=>ap.o.box2) ?_;clear b n;(try simp only[Act.put,sA,sB,sC]);obtain⟨-,x1,x2,-⟩:=zc ap.o.box;have z1:=ap.o.box.free 1;have z2:=ap.o.box.free 2;refine AnyDs.ready (rs:=[11]) (by kernel_rfl) (by simp) ?_;refine AllDs.cons (by rfl) ?_ AllDs.nil;intro n b;go_simp;(try dsimp only);refine b.out _ _ (fun h=>absurd (by decide) h) ?_
       clear b n;(try simp only[Act.put,sA,sB,sC]);refine AnyDs.takeP (i:=12) (v:=?_) rfl (by kernel_rfl) (by kernel_rfl) (by kernel_rfl) (by kernel_rfl) (fun _ _ _ h=>h) (Or.inl ⟨by rfl,?_⟩) (fun h=>absurd h (Qcl (d:=11) (by kernel_rfl) (by kernel_rfl))) ?_
       rotate_left
       .
        intro wq c;clear c
        first|(go_simp;done)|(go_simp;with_reducible rfl)
       (try simp only[Act.put,sA,sB,sC]);refine AnyDs.ready (rs:=[13]) (by kernel_rfl) (by simp) ?_;refine AllDs.cons (by rfl) ?_ AllDs.nil;intro n b;go_simp;(try dsimp only);refine b.out _ _ (fun h=>absurd (by decide) h) ?_;clear b n;(try simp only[Act.put,sA,sB,sC]);refine AnyDs.done (by kernel_rfl) ?_ _;clear x1 x2 z1 z2;have J:=ap.o.put.withX okNil;rw[show (S++ [r]).length=S.length+1 by simp,show (hs++ [k]).length=hs.length+1 by simp] at J;have aq:=Hi J;clear J;go_wp2_with fail;refine⟨⟨k+1,T,S++ [r],hs++ [k],_,_,bu.o,by go_num,aq.o,bt.o,bv.o,bw.o,bx.o⟩,?_⟩
       first|exact P.o|(simp only[intOf];exact P.o)|(simp [intOf];exact P.o)
  .
   have bs:k=wide:=by omega
   subst bs;obtain⟨t1,t2,rfl,_,_,_⟩:=N.o.rows.slice;obtain⟨s1,s2,rfl,_,_,_⟩:=N.o.heads.slice;obtain⟨x0,x1,x2,-⟩:=zc N.o.box;obtain⟨y0,y1,y2,-⟩:=zc N.o.res;have f0:=N.o.res.free 0;have f1:=N.o.res.free 1;have f2:=N.o.res.free 2;clear hS;go_wp2;obtain⟨e1,e2,e3,e4⟩:=N.o.done (.int .i64 k) (.slice t1 S.length t2) (.slice s1 hs.length s2)
   refine bodyPost_ret (v:=.agg #[.int .i64 k,.slice t1 S.length t2,.slice s1 hs.length s2]) (results_cell_row rfl _ _ w.heap.size 135 #[.int .i64 k,.slice t1 S.length t2,.slice s1 hs.length s2] (0,0) _ rfl (((N.o.res.set 0 _).set 1 _).set 2 _) underlying135 rfl Tryz.stairsInfo) rfl ?_;exact⟨⟨L,S,hs,_,_,rfl,HJ.o,by omega,by omega,e1,e2,e3⟩,e4⟩
theorem Qv5(w:Vz)(x z:Value)(a:Vx)(n c:Nat):(Instr.field 135 (.agg #[x,.slice a n c,z]) 1).run prog w=.ok (.slice a n c) w:=by kernel_rfl
theorem Qv6(a:Vx)(cap W K:Nat)(rs:List MR)(w:Vz)(I:Nat->List Vec->List Vec->List Nat->Prop)(l:Going K I)(h:ARow MR.cells w a cap rs)(b:Oks w W K rs)(hl:rs.length<=1000)(p:W<=1000)(g:0<K)(r:4*K+1<68719476000)(m:I 0 (rs.map MR.q) [] []):
 Calls prog 37 #[.slice a rs.length cap,.int .i64 W] w fun e w'=>(∃(L S:List Vec) (hs:Vy),e=.returned (.int .i64 (S.length:Nat))/\S.length<=W/\I W L S hs)/\Below w.heap.size w w':=by
 have i:=Hi (Qg7 a cap W K W rs w I l h b hl p lZ g r m);clear l h b m;go_enter func37,ntmps37;go_wp2_with fail;go_fit i.o;rintro e s ⟨⟨L,S,hs,A,B,rfl,n,j,t,c,d,k⟩,f⟩;obtain⟨u,c1,rfl,_,_,_⟩:=c.slice;obtain⟨v,c2,rfl,_,_,_⟩:=d.slice;obtain⟨x,y⟩:=Ia n f;have z:=Qv5 s (.int .i64 (W:Nat)) (.slice v hs.length c2) u S.length c1;clear n c d k f;go_wp2;go_ret;exact⟨⟨L.map MR.q,S.map MR.q,hs,by rw[List.length_map];rfl,by rw[List.length_map];exact j,x.o⟩,y.o⟩
def Solved(W K:Nat)(M:List Vec)(b:List Rat)(w:Vz)(e:Ending)(w':Vz):Prop:=
 ((e=.returned (.tuple #[.slice none 0 0,.int .i64 8])/\∀x,¬Sol W M b x)∨
  (e=.returned (.tuple #[.slice none 0 0,.int .i64 9])/\∃x y,Sol W M b x/\Sol W M b y/\∃c,c<W/\x c≠y c)∨
  (∃(g:Nat) (us:List FE),e=.returned (.tuple #[.slice (some ⟨g,0,none⟩) W W,.int .i64 0])/\QBlk w' g us/\us.length=W/\(∀t,t∈ us->t.k<=K)/\∀y,Sol W M b y↔∀(i:Nat) (t:FE),us[i]?=some t->y i=t.q))/\Below w.heap.size w w'
theorem Qv7(a a':Vx)(cap cap' W K:Nat)(rs:List MR)(E:List FE)(w:Vz)(I:Nat->List Vec->List Vec->List Nat->Prop)(hI:Going K I)(h:QMat w a cap W rs)(hk:∀r,r∈ rs->∀t,t∈ r.ts->t.k<=K)(h':QRow w a' cap' E)(G:∀t,t∈ E->t.k<=K)(aa:E.length=rs.length)(hl:rs.length<=1000)(hW:W+1<=1000)(ab:0<K)(hK:4*K+1<68719476000)
 (h0:I 0 (List.zipWith (wider W) (rs.map MR.q) (E.map (·.q))) [] [])
 (R:∀L S hs,I (W+1) L S hs->Ech 0 (W+1) S hs/\(∀x,Null (W+1) (List.zipWith (wider W) (rs.map MR.q) (E.map (·.q))) x↔Null (W+1) S x)/\clnFits K S hs):
 Calls prog 59 #[.slice a rs.length cap,.int .i64 W,.slice a' rs.length cap'] w (Solved W K (rs.map MR.q) (E.map (·.q)) w):=by
 obtain⟨HJ,HI,H0,HF,al⟩:=Id (Qv0 a a' cap cap' W K rs E w h hk h' G aa hl (by omega)) hI h0 R aa;clear hI h hk h' G h0 R aa;go_enter func59,ntmps59;go_wp2_with fail;go_fit HJ.o;rintro e w1 ⟨⟨g,am,rfl,an,ao,T,ap⟩,aq⟩;have hM:am.map MR.q=List.zipWith (wider W) (rs.map MR.q) (E.map (·.q)):=by
  apply List.ext_getElem?;intro i;rw[List.getElem?_zipWith,List.getElem?_map,List.getElem?_map,List.getElem?_map];rcases Nat.lt_or_ge i rs.length with u|u
  .
   obtain⟨r,hr⟩:∃r,rs[i]?=some r:=⟨rs[i],gE u⟩;obtain⟨s,hs⟩:∃s,E[i]?=some s:=⟨E[i]'(by have:=al.o;omega),gE (by have:=al.o;omega)⟩;obtain⟨r',z,h2⟩:=ap i r s hr hs;rw[hr,hs,z];simp[h2]
  . rw[List.getElem?_eq_none (by omega),List.getElem?_eq_none u]
    rfl
 have H:=Qg7 (some ⟨g,0,none⟩) rs.length (W+1) K (W+1) am w1 I HI.o (ao.arow rfl (by omega)) T (by omega) hW lZ ab hK (by rw[hM];exact H0.o);rw[an] at H;simp only[Int.natCast_add,Int.natCast_one] at H;obtain⟨ar,ad⟩:=Ia H aq;clear H aq ao T ap an hM HJ;go_wp2_with fail;go_fit ar.o;rintro e w2 ⟨⟨L,S,hs,sv,hv,rfl,u,b0,b3,ae,af,au⟩,av⟩;obtain⟨b1,c1,rfl,_,_,_⟩:=ae.slice;obtain⟨b2,c2,rfl,_,_,_⟩:=af.slice;obtain⟨U,A,aw⟩:=HF.o _ _ _ u;obtain⟨HE,HN,bf,ax,ay,bg,az⟩:=If U A aw ae af au (ad.o.trans (av.mono ad.o.size));have bz:=ad.o.size;clear u ae af au av U A aw ar;obtain⟨V,hV⟩:=nm (w2.alloc (.cells #[.int .i64 ((W:Int)+1),.slice b1 S.length c1,.slice b2 hs.length c2] 135))
 have m:=Ua hV;have J:=Uc hV;have HV:=Hi hV;clear hV;go_wp2_with fail;rw[HV.o];go_fit (Qlj b2 c2 W hs V (ay.o.below m.o).crow (by omega));rintro e w3 ⟨rfl,rfl⟩;have a0:hs.length=S.length:=by have:=HE.o.len;simp at this;omega
 have B:=Hi a0;clear a0;obtain⟨x0,x1,x2,-⟩:=zc J.o;have j:=Hi (az.o.trans (m.o.mono az.o.size));by_cases hw:W∈ hs
 .
  rw[decide_eq_true hw];have HW:=Hi hw;clear hw;go_wp2;go_ret2;exact⟨.inl ⟨rfl,fun x=>Qqg HE.o HN.o HW.o x⟩,j.o⟩
 .
  rw[decide_eq_false hw];have HW:=Hi hw;clear hw;by_cases a1:hs.length<W
  .
   have q1:((hs.length:Int)<(W:Int)):=by omega
   go_wp2;go_ret2;exact⟨.inr (.inl ⟨rfl,Qqh HE.o HN.o HW.o a1⟩),j.o⟩
  .
   have q1:¬((hs.length:Int)<(W:Int)):=by omega
   obtain⟨a2,X,Y⟩:=Qqi HE.o HN.o HW.o a1;obtain⟨bh,bi,bj,M⟩:=Ic (Qll w1.heap.size (W+1) K S hs (.slice b1 S.length c1) (.slice b2 hs.length c2) ((W:Int)+1) w3 (ax.o.below m.o) (ay.o.below m.o) (bg.o.fr (Fr.of_below m.o)) B.o.symm (fun c hc=>(HE.o.head c hc).2) bf.o (by omega) (by omega) ab hK) X Y a2;clear X Y a2;go_wp2_with fail;go_fit bh.o;rintro e F ⟨rfl,S',a3,a4,b⟩;have a5:O (Below w.heap.size w F):=Hi ⟨b.o.1.trans j.o.os,b.o.2.1.trans j.o.tape,b.o.2.2.1.trans j.o.output,Nat.le_trans j.o.size b.o.2.2.2,fun k hk=>(b.base k (Nat.lt_of_lt_of_le hk j.o.size) (fun e=>by have:=(b.rows.lt e).1;omega)).trans (j.o.block k hk)⟩;have l:O (SB F w2.heap.size 135 #[.int .i64 ((W:Int)+1),.slice b1 S.length c1,.slice b2 hs.length c2]):=Hi (by
    have z:=b.base w2.heap.size J.o.lt (fun e=>by
     obtain⟨D,d1,_⟩:=(ax.o.below m.o).sb e
     exact J.o.unlike d1 row_stairs.symm rfl)
    have h2:=J.o;unfold SB at h2 ⊢;rw[z]
    exact h2)
   obtain⟨bk,ag,bl⟩:=Ib b a3 a4;have a6:=fun w=>Qcu W (by omega) w
   obtain⟨MC,ah⟩:=nm (((List.replicate W FE.zero).flatMap FE.cells).toArray);rw[ah] at a6;have bm:=Hi ah.symm;obtain⟨V4,N⟩:=nm (F.alloc (.cells MC 141));obtain⟨Z,C⟩:=nm F.heap.size;have bn:O (Below Z F V4):=Hi (by rw[<-N,<-C];exact(Below.refl _ _).alloc lZ _);have bo:O (QBlk V4 Z (List.replicate W FE.zero)):=Hi (by rw[<-N,<-C];exact QBlk.new F W MC bm.o);have y2:∀o,(F.alloc o).cell? ⟨w2.heap.size,2,none⟩=some (.slice b2 hs.length c2):=fun o=>(l.o.alloc o).cell 2
   have bp:=Hi N;clear b a3 a4 ah N x0 x1 x2;go_wp2_with fail;rw[bp.o]
   try rw[C]
   clear y2 a6;go_loopw [34] (fun i wr=>∃(k:Nat) (us:List FE),k<=hs.length/\i=.int .i64 k/\us.length=W/\QBlk wr Z us/\(∀(i:Nat) (t:FE),i<k->us[i]?=some t->∃r,S'[i]?=some r/\t.q=r.q W)/\(∀t,t∈ us->t.k<=K)/\Below Z F wr) (fun i _=>hs.length - (intOf i).toNat)
   case atStart=>exact⟨0,_,Nat.zero_le _,rfl,by simp,bo.o,fun i t u=>by omega,fun t n=>by obtain⟨_,rfl⟩:=List.mem_replicate.1 n;exact ab,bn.o⟩
   case round=>
    obtain⟨k,us,hk,rfl,a7,a8,a9,ba,hb⟩:=hrel;obtain⟨P,HQ,ai,bb,HB⟩:=Id a7 a8 a9 ba hb;clear a7 a8 a9 ba hb;by_cases bq:k<hs.length
    .
     have Q:Below F.heap.size F wr:=by rw[C];exact HB.o
     have b4:k<W:=by have:=M.o;omega
     obtain⟨r,hr⟩:∃r,S'[k]?=some r:=⟨S'[k]'(by have:=ag.o;have:=B.o;omega),gE (by have:=ag.o;have:=B.o;omega)⟩;obtain⟨f,aj⟩:∃f,hs[k]?=some f:=⟨hs[k],gE bq⟩;obtain rfl:=bi.o k f aj;have b:=bk.o.below Q;have d:=b.ok r (mO hr);obtain⟨e,he⟩:∃e,r.ts[W]?=some e:=⟨r.ts[W]'(by have:=d.len;omega),gE (by have:=d.len;omega)⟩;obtain⟨rb,ro,bc,b5,d0,d1,d2⟩:=d.row.at he;have ak:=d.row.get he;have bd:=d.sz e (mO he);obtain⟨b6,b7,br,b8,b9⟩:=b.heads.crow.cell f (.int .i64 (f:Nat)) (by simp[headsV,aj]);obtain⟨gb,go,bs,ca,bt⟩:=b.rows.crow.cell f r.val (by rw[List.getElem?_map,hr];rfl);rw[MR.val,bc,d.len] at bt;obtain⟨-,x1,-⟩:=zc (l.o.below Q l.o.lt)
     obtain⟨-,-,x2,-⟩:=zc (l.o.below Q l.o.lt);subst br;subst bs;obtain⟨o1,o2,o3⟩:=ak.1.one;have cb:=Qao prog o1;have cc:=Qao prog o2;have cd:=Qao prog o3;obtain⟨y0,be⟩:∃y0,us[f]?=some y0:=⟨us[f]'(by have:=P.o;omega),gE (by have:=P.o;omega)⟩;have f0:=HQ.o.blk.free (f*3);have f1:=HQ.o.blk.free (f*3+1);have f2:=HQ.o.blk.free (f*3+2);obtain⟨gy,oy,bu,_,t0,t1,t2⟩:=HQ.o.row.at be;cases bu;simp only[Nat.zero_add] at t0 t1 t2;have q2:((f:Int)<(hs.length:Int)):=by omega
     have q3:((f:Int)<(W:Int)):=by omega
     have q4:((f:Int)<(S.length:Int)):=by have:=B.o;omega
     have q5:((W:Int)<((W+1:Nat):Int)):=by omega
     obtain⟨bv,bw,HR,bx⟩:=Ic ak (MR.q_at he) hr bd;clear Q hr aj b d he bc ak be o1 o2 o3 bd;go_wp2_with fail;refine⟨⟨f+1,us.set f e,by omega,by go_num,by rw[List.length_set];exact P.o,HQ.o.set (by have:=P.o;omega) bv.o,fun i t u n=>?_,fun t n=>?_,((HB.o.setCell (p:=⟨Z,f*3,none⟩) lZ _).setCell (p:=⟨Z,f*3+1,none⟩) lZ _).setCell (p:=⟨Z,f*3+2,none⟩) lZ _⟩,?_⟩
     .
      rcases Nat.lt_or_ge i f with z|z
      . rw[List.getElem?_set_ne (by omega)] at n
        exact ai.o i t z n
      .
       obtain rfl:i=f:=by omega
       rw[List.getElem?_set_self (by have:=P.o;omega)] at n;obtain rfl:=Option.some.inj n;exact⟨r,HR.o,bw.o.symm⟩
     .
      rcases List.mem_or_eq_of_mem_set n with n|rfl
      . exact bb.o t n
      . exact bx.o
     . simp[intOf]
       omega
    .
     have G:k=hs.length:=by omega
     subst G;go_wp2;go_ret2;refine⟨.inr (.inr ⟨Z,us,rfl,HQ.o,P.o,bb.o,fun y=>?_⟩),a5.o.trans (HB.o.mono (by rw[<-C];exact a5.o.size))⟩;rw[bj.o y,<-bl.o];constructor
     .
      intro hy i t n;obtain⟨r,z,h2⟩:=ai.o i t (by have:=(gZ n).1;have:=P.o;have:=M.o;omega) n;rw[h2];exact hy i r.q (by rw[List.getElem?_map,z];rfl)
     .
      intro hy i v hv;rw[List.getElem?_map] at hv;obtain⟨r,z,rfl⟩:=Option.map_eq_some_iff.1 hv;have u:i<us.length:=by have:=(gZ z).1;have:=P.o;have:=M.o;have:=ag.o;have:=B.o;omega
      obtain⟨r2,k1,k2⟩:=ai.o i us[i] (by have:=P.o;have:=M.o;omega) (gE u);obtain rfl:=Option.some.inj (z.symm.trans k1);rw[hy i us[i] (gE u),k2]
theorem Qhd{P:Program}{l:Func}{p u:Tmp}{ty:Vr}(h:l.results=#[.cell p ty,.cell u ty])(a:Vw)(w:Vz)(g e:Nat)(t:Vr)(f b:Vw)(m c:Nat × Nat)(d:TypeDesc)
 (q:a.getD p undef=.pointer (some ⟨g,0,none⟩)) (r:w.heap[g]?=some (.cells f t m)) (i:a.getD u undef=.pointer (some ⟨e,0,none⟩)) (j:w.heap[e]?=some (.cells b t c))
 (n:P.underlying ty=some d) (o:(match d with| .struct _| .array _ _=>true|_=>false)=true) (s:(P.info? ty).map (·.size)=some f.size) (k:(P.info? ty).map (·.size)=some b.size):
 (results l a).run P w=.ok (.tuple #[.agg f,.agg b]) w:=by
 have v:a[p]?.getD undef=.pointer (some ⟨g,0,none⟩):=by simpa using q
 have x:a[u]?.getD undef=.pointer (some ⟨e,0,none⟩):=by simpa using i
 simp[results,h,v,x,asAddr,run_loadVar_row w g t ty f m d r n o s,run_loadVar_row w e t ty b c d j n o k]
def WaySays(w:Vz)(k:Nat)(qx qy:Rat)(e:Ending)(w':Vz):Prop:=∃x1 x2 x3 y1 y2 y3,e=.returned (.tuple #[.agg #[x1,x2,x3],.agg #[y1,y2,y3]])/\FBag w w' [⟨y1,y2,y3,qy,k⟩,⟨x1,x2,x3,qx,k⟩]
theorem Qa1(w:Vz)(o:Obj)(t:Vr)(C:Vw):SB ((w.alloc o).alloc (.cells C t)) (w.heap.size+1) t C:=by
 have h:=SB.new (w.alloc o) t C;rw[World.size_alloc] at h;exact h
theorem Qb5{w:Vz}{x y z:Value}{q:Rat}(h:FracV w (.agg #[x,y,z]) q):∃neg a n c b m d,x=.bool neg/\y=.slice a n c/\z=.slice b m d:=by
 obtain⟨neg,a,n,c,b,m,d,e,_⟩:=h;simp at e;exact⟨neg,a,n,c,b,m,d,e.1,e.2.1,e.2.2⟩
theorem Qhe:NoU64 #[.bool false,.slice none 0 0,.slice none 0 0]:=Qih (by simp)
theorem Qhf{w u:Vz}{g a:Nat}{L:List FE}{x1 x2 x3 y1 y2 y3:Value}(h:FBag w u L)(d:w.heap.size<=g)(c:w.heap.size<=a)(b:g≠a)(s:SB u g 141 #[.bool false,.slice none 0 0,.slice none 0 0])(e:SB u a 141 #[.bool false,.slice none 0 0,.slice none 0 0]):
 FBag w ((((((u.setCell ⟨g,0,none⟩ x1).setCell ⟨g,1,none⟩ x2).setCell ⟨g,2,none⟩ x3).setCell ⟨a,0,none⟩ y1).setCell ⟨a,1,none⟩ y2).setCell ⟨a,2,none⟩ y3) L/\SB ((((((u.setCell ⟨g,0,none⟩ x1).setCell ⟨g,1,none⟩ x2).setCell ⟨g,2,none⟩ x3).setCell ⟨a,0,none⟩ y1).setCell ⟨a,1,none⟩ y2).setCell ⟨a,2,none⟩ y3) g 141 #[x1,x2,x3]/\SB ((((((u.setCell ⟨g,0,none⟩ x1).setCell ⟨g,1,none⟩ x2).setCell ⟨g,2,none⟩ x3).setCell ⟨a,0,none⟩ y1).setCell ⟨a,1,none⟩ y2).setCell ⟨a,2,none⟩ y3) a 141 #[y1,y2,y3]:=by
 have f:=h.only ((((Only.refl g u).setCell 0 x1).setCell 1 x2).setCell 2 x3) s Qhe d;have t1:=((s.set 0 x1).set 1 x2).set 2 x3;have t2:=((e.other b.symm 0 x1).other b.symm 1 x2).other b.symm 2 x3;have i:=f.only ((((Only.refl a _).setCell 0 y1).setCell 1 y2).setCell 2 y3) t2 Qhe c;refine⟨i,?_,?_⟩
 . have:=((t1.other b 0 y1).other b 1 y2).other b 2 y3
   simpa using this
 . have:=((t2.set 0 y1).set 1 y2).set 2 y3
   simpa using this
theorem Qmc(a1 a2 a3:Vx)(c1 c2 c3 nb nh A B n:Nat)(S:List S2)(b:B6)(s t:S2)(w:Vz)(hg:Glob w)(hj:ARow S2.cells w a1 c1 S)(hA:b.a=(A:Nat))(hB:b.b=(B:Nat))(hs:S[A]?=some s)(ht:S[B]?=some t)
 (hl:S.length<=10) (z1:s.x.size<=n) (z2:s.y.size<=n) (z3:t.x.size<=n) (z4:t.y.size<=n) (hn:n<=1073741824) {x1 y1 x2 y2:Rat} (q1:QOf s.x.data.toList x1) (q2:QOf s.y.data.toList y1) (q3:QOf t.x.data.toList x2) (q4:QOf t.y.data.toList y2):
 Calls prog 78 #[.agg #[.slice a1 S.length c1,.slice a2 nb c2,.slice a3 nh c3],.agg #[.int .i64 b.a,.int .i64 b.b,.string b.c,.string b.e,.string b.l,.string b.m]] w (WaySays w (4*n+1+(4*n+1)+1) (x2 - x1) (y2 - y1)):=by
 obtain⟨HG,HJ⟩:=Ia hg hj;have bk:=(gZ hs).1;have bl:=(gZ ht).1;obtain⟨HS,HT⟩:=Ia hs ht;rw[hA,hB];obtain⟨K,HQ⟩:=Ia (⟨z1,z2,z3,z4,hn⟩:s.x.size<=n/\s.y.size<=n/\t.x.size<=n/\t.y.size<=n/\n<=1073741824) (⟨q1,q2,q3,q4⟩:QOf s.x.data.toList x1/\QOf s.y.data.toList y1/\QOf t.x.data.toList x2/\QOf t.y.data.toList y2);have iA:((A:Int)<(S.length:Int)):=by omega
 have iB:((B:Int)<(S.length:Int)):=by omega
 clear hg hj hs ht z1 z2 z3 z4 hn q1 q2 q3 q4 hA hB;go_enter func78,ntmps78;obtain⟨u,Q⟩:=nm w.heap.size;obtain⟨V,hV⟩:=nm ((((w.alloc (.cells #[.slice a1 S.length c1,.slice a2 nb c2,.slice a3 nh c3] 26)).alloc (.cells #[.int .i64 (A:Nat),.int .i64 (B:Nat),.string b.c,.string b.e,.string b.l,.string b.m] 80)).alloc (.cells #[.bool false,.slice none 0 0,.slice none 0 0] 141)).alloc (.cells #[.bool false,.slice none 0 0,.slice none 0 0] 141));have ap:Bl w V:=by
  rw[<-hV];exact(((bR.alloc lZ _).alloc (by simp) _).alloc (by simp;omega) _).alloc (by simp;omega) _
 have av:V.heap.size=u+4:=by rw[<-hV,<-Q];simp
 have s1:SB V u 26 #[.slice a1 S.length c1,.slice a2 nb c2,.slice a3 nh c3]:=by
  rw[<-hV,<-Q];exact(((SB.new w _ _).alloc _).alloc _).alloc _
 have s2:SB V (u+1) 80 #[.int .i64 (A:Nat),.int .i64 (B:Nat),.string b.c,.string b.e,.string b.l,.string b.m]:=by
  have h:=SB.new (w.alloc (.cells #[.slice a1 S.length c1,.slice a2 nb c2,.slice a3 nh c3] 26)) 80 #[.int .i64 (A:Nat),.int .i64 (B:Nat),.string b.c,.string b.e,.string b.l,.string b.m];rw[World.size_alloc,Q] at h;rw[<-hV];exact(h.alloc _).alloc _
 have s3:SB V (u+2) 141 #[.bool false,.slice none 0 0,.slice none 0 0]:=by
  have h:=SB.new ((w.alloc (.cells #[.slice a1 S.length c1,.slice a2 nb c2,.slice a3 nh c3] 26)).alloc (.cells #[.int .i64 (A:Nat),.int .i64 (B:Nat),.string b.c,.string b.e,.string b.l,.string b.m] 80)) 141 #[.bool false,.slice none 0 0,.slice none 0 0];rw[World.size_alloc,World.size_alloc,Q] at h;rw[<-hV];exact h.alloc _
 have s4:SB V (u+3) 141 #[.bool false,.slice none 0 0,.slice none 0 0]:=by
  have h:=SB.new (((w.alloc (.cells #[.slice a1 S.length c1,.slice a2 nb c2,.slice a3 nh c3] 26)).alloc (.cells #[.int .i64 (A:Nat),.int .i64 (B:Nat),.string b.c,.string b.e,.string b.l,.string b.m] 80)).alloc (.cells #[.bool false,.slice none 0 0,.slice none 0 0] 141)) 141 #[.bool false,.slice none 0 0,.slice none 0 0];rw[World.size_alloc,World.size_alloc,World.size_alloc,Q] at h;rw[<-hV];exact h
 obtain⟨jb,jo,rfl,bm,u0,u1⟩:=(HJ.o.below ap).spot HS.o;obtain⟨bn,bo,e',_,u2,u3⟩:=(HJ.o.below ap).spot HT.o;cases e';have f0:=s1.cell 0;have f1:=s2.cell 0;have f2:=s2.cell 1;simp at f0 f1 f2;obtain⟨aq,HV,W,a0,ar,au⟩:=Ie ap hV Q av s3 s4;clear ap av s1 s2 s3 s4 hV Q;go_wp2_with fail;simp only[W.o];rw[HV.o];go_region_held3 (fun v=>v.cell? ⟨u,0,none⟩=some (.slice (some ⟨jb,jo,none⟩) S.length c1)/\v.cell? ⟨u+1,0,none⟩=some (.int .i64 (A:Nat))/\v.cell? ⟨u+1,1,none⟩=some (.int .i64 (B:Nat))/\v.cell? ⟨jb,jo+A*2,none⟩=some (.string s.x)/\v.cell? ⟨jb,jo+A*2+1,none⟩=some (.string s.y)/\v.cell? ⟨jb,jo+B*2,none⟩=some (.string t.x)/\v.cell? ⟨jb,jo+B*2+1,none⟩=some (.string t.y)) ((first|(simp [*];done)|go_keep)) (fail)
 .
  obtain⟨X,Y⟩:=nm (((V.alloc (.cells #[.string s.x,.string s.y] 56)).alloc (.cells #[.string t.x,.string t.y] 56)).drew);have N:Bl V X:=by rw[<-Y];exact((bR.alloc lZ _).alloc (by simp) _).drew
  have O:SB X (V.heap.size) 56 #[.string s.x,.string s.y]:=by rw[<-Y];exact((SB.new V _ _).alloc _)
  have P:SB X (V.heap.size+1) 56 #[.string t.x,.string t.y]:=by rw[<-Y];exact Qa1 V _ _ _
  obtain⟨d,g,Z⟩:=Ib O P (aq.o.trans (N.mono aq.o.size));obtain⟨R,j,i⟩:=Ib (FBag.start (HG.o.below Z.o)) (ar.o.below N ar.o.lt) (au.o.below N au.o.lt);have z:=O.cell 0;have C:=O.cell 1;have D:=P.cell 0;have E:=P.cell 1;simp at z C D E;clear N O P f0 f1 f2 u0 u1 u2 u3;have aw:=Hi Y;clear Y;have hz:=a0.o;have n1:V.heap.size≠u+1+1:=by omega
  have n2:V.heap.size≠u+1+1+1:=by omega
  have n3:V.heap.size+1≠u+1+1:=by omega
  have n4:V.heap.size+1≠u+1+1+1:=by omega
  have n5:=n1.symm;have n6:=n2.symm;have n7:=n3.symm;have n8:=n4.symm;have n9:V.heap.size≠u+1:=by omega
  have ax:=n9.symm;clear hz;rw[aw.o];go_wp2_with fail;go_region_held3 (fun v=>v.cell? ⟨V.heap.size,0,none⟩=some (.string s.x)/\v.cell? ⟨V.heap.size,1,none⟩=some (.string s.y)/\v.cell? ⟨V.heap.size+1,0,none⟩=some (.string t.x)/\v.cell? ⟨V.heap.size+1,1,none⟩=some (.string t.y)) ((first|(simp [*];done)|go_keep)) (first
   |
    (go_at_call_of 82 (Value.string t.x)
     apply cM;apply FBag.of (w0:=X) (L:=[]) (n:=n) t.x;(first|exact R.o|exact R.o.drew);exact K.o.2.2.1;exact K.o.2.2.2.2;rintro e v1 ⟨q,J,ay,a4,a5,rfl,r⟩;rw[J.inj HQ.o.2.2.1] at r;have F:=Hi r;clear J r R z C D E;have z:=(d.o.below F.o.base d.o.lt).cell 0;have C:=(d.o.below F.o.base d.o.lt).cell 1;have D:=(g.o.below F.o.base g.o.lt).cell 0;have E:=(g.o.below F.o.base g.o.lt).cell 1;simp at z C D E
     skip)
   |
    (go_at_call_of 82 (Value.string s.x)
     apply cM;apply FBag.of (w0:=X) (L:=_) (n:=n) s.x;(first|exact F.o|exact F.o.drew);exact K.o.1;exact K.o.2.2.2.2;rintro e v2 ⟨q,J,a6,a7,a8,rfl,r⟩;rw[J.inj HQ.o.1] at r;have G:=Hi r;clear J r F z C D E;have z:=(d.o.below G.o.base d.o.lt).cell 0;have C:=(d.o.below G.o.base d.o.lt).cell 1;have D:=(g.o.below G.o.base g.o.lt).cell 0;have E:=(g.o.below G.o.base g.o.lt).cell 1;simp at z C D E
     skip)
   |
    (go_at_call_of 101 ay
     apply cM;(first|(apply FBag.minus G.o)|(apply FBag.minus G.o.drew));(repeat(first|exact mH|apply mT))
     (have:=K.o.2.2.2.2;omega)
     rintro e T ⟨a9,ba,bb,rfl,r⟩;obtain⟨aa,ab,ad,ae,af,ag,ah,rfl,rfl,rfl⟩:=Qb5 (r.get (List.Mem.head _)).1;have k:=Hi r;clear r G z C D E;have z:=(d.o.below k.o.base d.o.lt).cell 0;have C:=(d.o.below k.o.base d.o.lt).cell 1;have D:=(g.o.below k.o.base g.o.lt).cell 0;have E:=(g.o.below k.o.base g.o.lt).cell 1;simp at z C D E;(try clear p0 p1 p2 p3 p4 p5 r0 r1 r2 r3 r4 r5);obtain⟨p0,p1,p2,-⟩:=zc (j.o.below k.o.base j.o.lt);obtain⟨p3,-⟩:=zc (i.o.below k.o.base i.o.lt)
     obtain⟨-,p4,p5,-⟩:=zc (i.o.below k.o.base i.o.lt);have r0:T.frozen? ⟨u+1+1,0,none⟩=false:=(j.o.below k.o.base j.o.lt).free 0;have r1:T.frozen? ⟨u+1+1,1,none⟩=false:=(j.o.below k.o.base j.o.lt).free 1;have r2:T.frozen? ⟨u+1+1,2,none⟩=false:=(j.o.below k.o.base j.o.lt).free 2;have r3:T.frozen? ⟨u+1+1+1,0,none⟩=false:=(i.o.below k.o.base i.o.lt).free 0;have r4:T.frozen? ⟨u+1+1+1,1,none⟩=false:=(i.o.below k.o.base i.o.lt).free 1;have r5:T.frozen? ⟨u+1+1+1,2,none⟩=false:=(i.o.below k.o.base i.o.lt).free 2
     skip)
   |
    (go_at_call_of 82 (Value.string t.y)
     apply cM;apply FBag.of (w0:=X) (L:=_) (n:=n) t.y;(first|exact k.o|exact k.o.drew);exact K.o.2.2.2.1;exact K.o.2.2.2.2;rintro e v4 ⟨q,J,az,bc,bd,rfl,r⟩;rw[J.inj HQ.o.2.2.2] at r;have H:=Hi r;clear J r k z C D E;have z:=(d.o.below H.o.base d.o.lt).cell 0;have C:=(d.o.below H.o.base d.o.lt).cell 1;have D:=(g.o.below H.o.base g.o.lt).cell 0;have E:=(g.o.below H.o.base g.o.lt).cell 1;simp at z C D E
     skip)
   |
    (go_at_call_of 82 (Value.string s.y)
     apply cM;apply FBag.of (w0:=X) (L:=_) (n:=n) s.y;(first|exact H.o|exact H.o.drew);exact K.o.2.1;exact K.o.2.2.2.2;rintro e v5 ⟨q,J,be,bf,bg,rfl,r⟩;rw[J.inj HQ.o.2.1] at r;have I:=Hi r;clear J r H z C D E;have z:=(d.o.below I.o.base d.o.lt).cell 0;have C:=(d.o.below I.o.base d.o.lt).cell 1;have D:=(g.o.below I.o.base g.o.lt).cell 0;have E:=(g.o.below I.o.base g.o.lt).cell 1;simp at z C D E
     skip)
   |
    (go_at_call_of 101 az
     apply cM;(first|(apply FBag.minus I.o)|(apply FBag.minus I.o.drew));(repeat(first|exact mH|apply mT))
     (have:=K.o.2.2.2.2;omega)
     rintro e U ⟨bh,bi,bj,rfl,r⟩;obtain⟨ai,aj,ak,al,am,an,ao,rfl,rfl,rfl⟩:=Qb5 (r.get (List.Mem.head _)).1;have p:=Hi r;clear r I z C D E;have z:=(d.o.below p.o.base d.o.lt).cell 0;have C:=(d.o.below p.o.base d.o.lt).cell 1;have D:=(g.o.below p.o.base g.o.lt).cell 0;have E:=(g.o.below p.o.base g.o.lt).cell 1;simp at z C D E;(try clear p0 p1 p2 p3 p4 p5 r0 r1 r2 r3 r4 r5);obtain⟨p0,p1,p2,-⟩:=zc (j.o.below p.o.base j.o.lt);obtain⟨p3,-⟩:=zc (i.o.below p.o.base i.o.lt)
     obtain⟨-,p4,p5,-⟩:=zc (i.o.below p.o.base i.o.lt);have r0:U.frozen? ⟨u+1+1,0,none⟩=false:=(j.o.below p.o.base j.o.lt).free 0;have r1:U.frozen? ⟨u+1+1,1,none⟩=false:=(j.o.below p.o.base j.o.lt).free 1;have r2:U.frozen? ⟨u+1+1,2,none⟩=false:=(j.o.below p.o.base j.o.lt).free 2;have r3:U.frozen? ⟨u+1+1+1,0,none⟩=false:=(i.o.below p.o.base i.o.lt).free 0;have r4:U.frozen? ⟨u+1+1+1,1,none⟩=false:=(i.o.below p.o.base i.o.lt).free 1;have r5:U.frozen? ⟨u+1+1+1,2,none⟩=false:=(i.o.below p.o.base i.o.lt).free 2
     skip)
   |fail)
  all_goals
   have HW:=Hi (Qhf (x1:=.bool aa) (x2:=.slice ab ad ae) (x3:=.slice af ag ah) (y1:=.bool ai) (y2:=.slice aj ak al) (y3:=.slice am an ao) (p.o.from Z.o HG.o (M:=[⟨.bool ai,.slice aj ak al,.slice am an ao,y2 - y1,4*n+1+(4*n+1)+1⟩,⟨.bool aa,.slice ab ad ae,.slice af ag ah,x2 - x1,4*n+1+(4*n+1)+1⟩]) (fun f r=>by
    simp only[List.mem_cons,List.not_mem_nil,or_false] at r;rcases r with rfl|rfl
    . exact⟨_,List.Mem.head _,Nat.le_refl _⟩
    . exact⟨_,List.Mem.tail _ (List.Mem.tail _ (List.Mem.tail _ (List.Mem.head _))),Nat.le_refl _⟩)) (by have:=W.o;omega) (by have:=W.o;omega) (by omega) (j.o.below p.o.base j.o.lt) (i.o.below p.o.base i.o.lt))
   clear z C D E p0 p1 p2 p3 p4 p5 r0 r1 r2 r3 r4 r5 n1 n2 n3 n4 n5 n6 n7 n8 n9 ax;go_wp2;refine bodyPost_ret (v:=.tuple #[_,_]) (Qhd rfl _ _ (u+2) (u+3) 141 _ _ (0,0) (0,0) _ rfl HW.o.2.1 rfl HW.o.2.2 underlying141 rfl Tryz.fracInfo Tryz.fracInfo) rfl ?_;exact⟨_,_,_,_,_,_,rfl,HW.o.1⟩
 .
  obtain⟨X,Y⟩:=nm (((V.alloc (.cells #[.string t.x,.string t.y] 56)).alloc (.cells #[.string s.x,.string s.y] 56)).drew);have N:Bl V X:=by rw[<-Y];exact((bR.alloc lZ _).alloc (by simp) _).drew
  have O:SB X (V.heap.size+1) 56 #[.string s.x,.string s.y]:=by rw[<-Y];exact Qa1 V _ _ _
  have P:SB X (V.heap.size) 56 #[.string t.x,.string t.y]:=by rw[<-Y];exact((SB.new V _ _).alloc _)
  obtain⟨d,g,Z⟩:=Ib O P (aq.o.trans (N.mono aq.o.size));obtain⟨R,j,i⟩:=Ib (FBag.start (HG.o.below Z.o)) (ar.o.below N ar.o.lt) (au.o.below N au.o.lt);have z:=O.cell 0;have C:=O.cell 1;have D:=P.cell 0;have E:=P.cell 1;simp at z C D E;clear N O P f0 f1 f2 u0 u1 u2 u3;have aw:=Hi Y;clear Y;have hz:=a0.o;have n1:V.heap.size≠u+1+1:=by omega
  have n2:V.heap.size≠u+1+1+1:=by omega
  have n3:V.heap.size+1≠u+1+1:=by omega
  have n4:V.heap.size+1≠u+1+1+1:=by omega
  have n5:=n1.symm;have n6:=n2.symm;have n7:=n3.symm;have n8:=n4.symm;have n9:V.heap.size≠u+1:=by omega
  have ax:=n9.symm;clear hz;rw[aw.o];go_wp2_with fail;go_region_held3 (fun v=>v.cell? ⟨V.heap.size+1,0,none⟩=some (.string s.x)/\v.cell? ⟨V.heap.size+1,1,none⟩=some (.string s.y)/\v.cell? ⟨V.heap.size,0,none⟩=some (.string t.x)/\v.cell? ⟨V.heap.size,1,none⟩=some (.string t.y)) ((first|(simp [*];done)|go_keep)) (first
   |
    (go_at_call_of 82 (Value.string t.x)
     apply cM;apply FBag.of (w0:=X) (L:=[]) (n:=n) t.x;(first|exact R.o|exact R.o.drew);exact K.o.2.2.1;exact K.o.2.2.2.2;rintro e v1 ⟨q,J,ay,a4,a5,rfl,r⟩;rw[J.inj HQ.o.2.2.1] at r;have F:=Hi r;clear J r R z C D E;have z:=(d.o.below F.o.base d.o.lt).cell 0;have C:=(d.o.below F.o.base d.o.lt).cell 1;have D:=(g.o.below F.o.base g.o.lt).cell 0;have E:=(g.o.below F.o.base g.o.lt).cell 1;simp at z C D E
     skip)
   |
    (go_at_call_of 82 (Value.string s.x)
     apply cM;apply FBag.of (w0:=X) (L:=_) (n:=n) s.x;(first|exact F.o|exact F.o.drew);exact K.o.1;exact K.o.2.2.2.2;rintro e v2 ⟨q,J,a6,a7,a8,rfl,r⟩;rw[J.inj HQ.o.1] at r;have G:=Hi r;clear J r F z C D E;have z:=(d.o.below G.o.base d.o.lt).cell 0;have C:=(d.o.below G.o.base d.o.lt).cell 1;have D:=(g.o.below G.o.base g.o.lt).cell 0;have E:=(g.o.below G.o.base g.o.lt).cell 1;simp at z C D E
     skip)
   |
    (go_at_call_of 101 ay
     apply cM;(first|(apply FBag.minus G.o)|(apply FBag.minus G.o.drew));(repeat(first|exact mH|apply mT))
     (have:=K.o.2.2.2.2;omega)
     rintro e T ⟨a9,ba,bb,rfl,r⟩;obtain⟨aa,ab,ad,ae,af,ag,ah,rfl,rfl,rfl⟩:=Qb5 (r.get (List.Mem.head _)).1;have k:=Hi r;clear r G z C D E;have z:=(d.o.below k.o.base d.o.lt).cell 0;have C:=(d.o.below k.o.base d.o.lt).cell 1;have D:=(g.o.below k.o.base g.o.lt).cell 0;have E:=(g.o.below k.o.base g.o.lt).cell 1;simp at z C D E;(try clear p0 p1 p2 p3 p4 p5 r0 r1 r2 r3 r4 r5);obtain⟨p0,p1,p2,-⟩:=zc (j.o.below k.o.base j.o.lt);obtain⟨p3,-⟩:=zc (i.o.below k.o.base i.o.lt)
     obtain⟨-,p4,p5,-⟩:=zc (i.o.below k.o.base i.o.lt);have r0:T.frozen? ⟨u+1+1,0,none⟩=false:=(j.o.below k.o.base j.o.lt).free 0;have r1:T.frozen? ⟨u+1+1,1,none⟩=false:=(j.o.below k.o.base j.o.lt).free 1;have r2:T.frozen? ⟨u+1+1,2,none⟩=false:=(j.o.below k.o.base j.o.lt).free 2;have r3:T.frozen? ⟨u+1+1+1,0,none⟩=false:=(i.o.below k.o.base i.o.lt).free 0;have r4:T.frozen? ⟨u+1+1+1,1,none⟩=false:=(i.o.below k.o.base i.o.lt).free 1;have r5:T.frozen? ⟨u+1+1+1,2,none⟩=false:=(i.o.below k.o.base i.o.lt).free 2
     skip)
   |
    (go_at_call_of 82 (Value.string t.y)
     apply cM;apply FBag.of (w0:=X) (L:=_) (n:=n) t.y;(first|exact k.o|exact k.o.drew);exact K.o.2.2.2.1;exact K.o.2.2.2.2;rintro e v4 ⟨q,J,az,bc,bd,rfl,r⟩;rw[J.inj HQ.o.2.2.2] at r;have H:=Hi r;clear J r k z C D E;have z:=(d.o.below H.o.base d.o.lt).cell 0;have C:=(d.o.below H.o.base d.o.lt).cell 1;have D:=(g.o.below H.o.base g.o.lt).cell 0;have E:=(g.o.below H.o.base g.o.lt).cell 1;simp at z C D E
     skip)
   |
    (go_at_call_of 82 (Value.string s.y)
     apply cM;apply FBag.of (w0:=X) (L:=_) (n:=n) s.y;(first|exact H.o|exact H.o.drew);exact K.o.2.1;exact K.o.2.2.2.2;rintro e v5 ⟨q,J,be,bf,bg,rfl,r⟩;rw[J.inj HQ.o.2.1] at r;have I:=Hi r;clear J r H z C D E;have z:=(d.o.below I.o.base d.o.lt).cell 0;have C:=(d.o.below I.o.base d.o.lt).cell 1;have D:=(g.o.below I.o.base g.o.lt).cell 0;have E:=(g.o.below I.o.base g.o.lt).cell 1;simp at z C D E
     skip)
   |
    (go_at_call_of 101 az
     apply cM;(first|(apply FBag.minus I.o)|(apply FBag.minus I.o.drew));(repeat(first|exact mH|apply mT))
     (have:=K.o.2.2.2.2;omega)
     rintro e U ⟨bh,bi,bj,rfl,r⟩;obtain⟨ai,aj,ak,al,am,an,ao,rfl,rfl,rfl⟩:=Qb5 (r.get (List.Mem.head _)).1;have p:=Hi r;clear r I z C D E;have z:=(d.o.below p.o.base d.o.lt).cell 0;have C:=(d.o.below p.o.base d.o.lt).cell 1;have D:=(g.o.below p.o.base g.o.lt).cell 0;have E:=(g.o.below p.o.base g.o.lt).cell 1;simp at z C D E;(try clear p0 p1 p2 p3 p4 p5 r0 r1 r2 r3 r4 r5);obtain⟨p0,p1,p2,-⟩:=zc (j.o.below p.o.base j.o.lt);obtain⟨p3,-⟩:=zc (i.o.below p.o.base i.o.lt)
     obtain⟨-,p4,p5,-⟩:=zc (i.o.below p.o.base i.o.lt);have r0:U.frozen? ⟨u+1+1,0,none⟩=false:=(j.o.below p.o.base j.o.lt).free 0;have r1:U.frozen? ⟨u+1+1,1,none⟩=false:=(j.o.below p.o.base j.o.lt).free 1;have r2:U.frozen? ⟨u+1+1,2,none⟩=false:=(j.o.below p.o.base j.o.lt).free 2;have r3:U.frozen? ⟨u+1+1+1,0,none⟩=false:=(i.o.below p.o.base i.o.lt).free 0;have r4:U.frozen? ⟨u+1+1+1,1,none⟩=false:=(i.o.below p.o.base i.o.lt).free 1;have r5:U.frozen? ⟨u+1+1+1,2,none⟩=false:=(i.o.below p.o.base i.o.lt).free 2
     skip)
   |fail)
  all_goals
   have HW:=Hi (Qhf (x1:=.bool aa) (x2:=.slice ab ad ae) (x3:=.slice af ag ah) (y1:=.bool ai) (y2:=.slice aj ak al) (y3:=.slice am an ao) (p.o.from Z.o HG.o (M:=[⟨.bool ai,.slice aj ak al,.slice am an ao,y2 - y1,4*n+1+(4*n+1)+1⟩,⟨.bool aa,.slice ab ad ae,.slice af ag ah,x2 - x1,4*n+1+(4*n+1)+1⟩]) (fun f r=>by
    simp only[List.mem_cons,List.not_mem_nil,or_false] at r;rcases r with rfl|rfl
    . exact⟨_,List.Mem.head _,Nat.le_refl _⟩
    . exact⟨_,List.Mem.tail _ (List.Mem.tail _ (List.Mem.tail _ (List.Mem.head _))),Nat.le_refl _⟩)) (by have:=W.o;omega) (by have:=W.o;omega) (by omega) (j.o.below p.o.base j.o.lt) (i.o.below p.o.base i.o.lt))
   clear z C D E p0 p1 p2 p3 p4 p5 r0 r1 r2 r3 r4 r5 n1 n2 n3 n4 n5 n6 n7 n8 n9 ax;go_wp2;refine bodyPost_ret (v:=.tuple #[_,_]) (Qhd rfl _ _ (u+2) (u+3) 141 _ _ (0,0) (0,0) _ rfl HW.o.2.1 rfl HW.o.2.2 underlying141 rfl Tryz.fracInfo Tryz.fracInfo) rfl ?_;exact⟨_,_,_,_,_,_,rfl,HW.o.1⟩
def slRow(W g:Nat):Value:=.slice (some ⟨g,0,none⟩) W W
theorem QBlk.other{u c:Vz}{g a:Nat}{d us:List FE}(h:QBlk u g d)(e:QBlk u a us)(f:Only a u c)(b:g≠a):QBlk c g d:=
 ⟨h.blk.only f b,fun t i=>⟨(h.ts t i).1.only f e.blk e.no64,(h.ts t i).2⟩⟩
def updM(M:Nat->Nat->Rat)(r c:Nat)(q:Rat):Nat->Nat->Rat:=fun r' c'=>if r'=r/\c'=c then q else M r' c'
structure GM (w u:Vz) (B G W K:Nat) (gs:Vy) (M:Nat->Nat->Rat):Prop where
 base:Below w.heap.size w u
 o:SB u G 93 (gs.map (slRow W)).toArray
 row:∀(r g:Nat),gs[r]?=some g->∃us,QBlk u g us/\us.length=W/\∀(c:Nat) (t:FE),us[c]?=some t->t.q=M r c/\t.k<=K
 nd:∀(r r' g:Nat),gs[r]?=some g->gs[r']?=some g->r=r'
 ne:∀(r g:Nat),gs[r]?=some g->g≠G
 lo:B<=G
 los:∀(r g:Nat),gs[r]?=some g->B<=g
structure BM (w u:Vz) (F:Vw) (G W K:Nat) (gs:Vy) (M:Nat->Nat->Rat):Prop extends GM w u (w.heap.size+1) G W K gs M where
 box:SB u w.heap.size 26 F
section
variable {w u:Vz} {F:Vw} {B G W K:Nat} {gs:Vy} {M:Nat->Nat->Rat}
theorem GM.below{b:Vz}(h:GM w u B G W K gs M)(a:Below u.heap.size u b):GM w b B G W K gs M:=by
 refine⟨h.base.trans (a.mono h.base.size),h.o.below a h.o.lt,fun r g c=>?_,h.nd,h.ne,h.lo,h.los⟩;obtain⟨us,d,e⟩:=h.row r g c;exact⟨us,d.below a,e⟩
theorem BM.below{a:Vz}(h:BM w u F G W K gs M)(b:Below u.heap.size u a):BM w a F G W K gs M:=⟨h.toGM.below b,h.box.below b h.box.lt⟩
theorem GM.congr{a:Nat->Nat->Rat}(h:GM w u B G W K gs M)(b:∀r c,M r c=a r c):GM w u B G W K gs a:=by
 have:=funext fun r=>funext fun c=>b r c
 rw[<-this];exact h
theorem BM.congr{a:Nat->Nat->Rat}(h:BM w u F G W K gs M)(b:∀r c,M r c=a r c):BM w u F G W K gs a:=⟨h.toGM.congr b,h.box⟩
theorem GM.cell{r g:Nat}(h:GM w u B G W K gs M)(a:gs[r]?=some g):u.cell? ⟨G,r,none⟩=some (.slice (some ⟨g,0,none⟩) W W):=by
 rw[h.o.cell];simp[a,slRow]
theorem GM.lt{r g:Nat}(h:GM w u B G W K gs M)(a:gs[r]?=some g):g<u.heap.size:=by
 obtain⟨us,b,_⟩:=h.row r g a;exact b.blk.lt
theorem GM.at{r g c:Nat}(h:GM w u B G W K gs M)(d:gs[r]?=some g)(i:c<W):∃x y z,u.cell? ⟨g,c*3,none⟩=some x/\u.cell? ⟨g,c*3+1,none⟩=some y/\u.cell? ⟨g,c*3+2,none⟩=some z/\u.frozen? ⟨g,c*3,none⟩=false/\u.frozen? ⟨g,c*3+1,none⟩=false/\u.frozen? ⟨g,c*3+2,none⟩=false:=by
 obtain⟨us,a,j,_⟩:=h.row r g d;obtain⟨t,f⟩:∃t,us[c]?=some t:=⟨us[c]'(by omega),gE (by omega)⟩;obtain⟨b,o,e,_,d0,d1,d2⟩:=a.row.at f;cases e;simp only[Nat.zero_add] at d0 d1 d2;exact⟨_,_,_,d0,d1,d2,a.blk.free _,a.blk.free _,a.blk.free _⟩
abbrev set3(u:Vz)(g c:Nat)(x y z:Value):World:=((u.setCell ⟨g,c*3,none⟩ x).setCell ⟨g,c*3+1,none⟩ y).setCell ⟨g,c*3+2,none⟩ z
theorem Qdq(u:Vz)(g c:Nat)(x y z:Value):Only g u (set3 u g c x y z):=(((Only.refl g u).setCell _ _).setCell _ _).setCell _ _
theorem GM.keepV{r g c:Nat}{x y z v:Value}{q:Rat}(h:GM w u B G W K gs M)(b:gs[r]?=some g)(d:FracV u v q):FracV (set3 u g c x y z) v q:=by
 obtain⟨us,a,_⟩:=h.row r g b;exact d.only (Qdq u g c x y z) a.blk a.no64
theorem keep3{g b c:Nat}{x y z:Value}{t:Vr}{C:Vw}(hs:SB u b t C)(a:b≠g):SB (set3 u g c x y z) b t C:=hs.only (Qdq u g c x y z) a
theorem GM.put{r g c:Nat}{x y z:Value}{q:Rat}(h:GM w u B G W K gs M)(hB:w.heap.size<=B)(d:gs[r]?=some g)(P:c<W)(H:FracV u (.agg #[x,y,z]) q)(I:Fits q K)(J:0<K):GM w (set3 u g c x y z) B G W K gs (updM M r c q):=by
 obtain⟨us,E,L,N⟩:=h.row r g d;have i:=Qdq u g c x y z;have j:=h.los r g d;refine⟨h.base.trans (i.below (Nat.le_trans hB j) h.base.size),h.o.only i (fun e=>h.ne r g d e.symm),fun k l a=>?_,h.nd,h.ne,h.lo,h.los⟩;by_cases e:k=r
 .
  subst e;obtain rfl:=Option.some.inj (d.symm.trans a);refine⟨us.set c ⟨x,y,z,q,K⟩,Qev E (by omega) H I J,by rw[List.length_set];exact L,fun f t b=>?_⟩;by_cases m:f=c
  .
   subst m;rw[List.getElem?_set_self (by omega)] at b;obtain rfl:=Option.some.inj b;exact⟨by simp[updM],Nat.le_refl _⟩
  .
   rw[List.getElem?_set_ne (fun e=>m e.symm)] at b;obtain⟨n,p⟩:=N f t b;exact⟨by rw[n];simp[updM,m],p⟩
 .
  obtain⟨s,v,A,C⟩:=h.row k l a;have D:l≠g:=fun O=>e (h.nd k r l a (by rw[O];exact d))
  refine⟨s,v.other E i D,A,fun f t b=>?_⟩;obtain⟨n,p⟩:=C f t b;exact⟨by rw[n];simp[updM,e],p⟩
theorem BM.put{r g c:Nat}{x y z:Value}{q:Rat}(h:BM w u F G W K gs M)(a:gs[r]?=some g)(b:c<W)(d:FracV u (.agg #[x,y,z]) q)(e:Fits q K)(f:0<K):BM w (set3 u g c x y z) F G W K gs (updM M r c q):=
 ⟨h.toGM.put (Nat.le_succ _) a b d e f,h.box.only (Qdq u g c x y z) (by have:=h.los r g a;omega)⟩
end
def BlankSays(n m:Nat)(w:Vz)(e:Ending)(w':Vz):Prop:=(∃(G:Nat) (gs:Vy),e=.returned (.slice (some ⟨G,0,none⟩) n n)/\gs.length=n/\w.heap.size<=G/\SB w' G 93 (gs.map (slRow m)).toArray/\(∀(r g:Nat),gs[r]?=some g->QBlk w' g (List.replicate m FE.zero)/\G<g)/\(∀(r r' g:Nat),gs[r]?=some g->gs[r']?=some g->r=r'))/\Below w.heap.size w w'
theorem QBlk.zeroOnly{u b:Vz}{g c m:Nat}(h:QBlk u g (List.replicate m FE.zero))(d:Only c u b)(a:g≠c):QBlk b g (List.replicate m FE.zero):=by
 refine⟨h.blk.only d a,fun t e=>?_⟩;obtain⟨_,rfl⟩:=List.mem_replicate.1 e;exact⟨FracV.zero _,Fits.zero,by decide⟩
theorem Qmd(m n k g:Nat)(gs:Vy)(hk:k<n)(hl:gs.length=k):((gs.map (slRow m)++List.replicate (n - k) (Value.slice none 0 0)).set k (slRow m g))=(gs++ [g]).map (slRow m)++List.replicate (n - (k+1)) (Value.slice none 0 0):=by
 rw[show n - k=(n - (k+1))+1 by omega,List.replicate_succ,List.set_append_right _ _ (by rw[List.length_map];omega),List.length_map,hl,Nat.sub_self,List.set_cons_zero];simp
theorem Qhg(n m:Nat)(w:Vz)(hn:n<=1000)(hm:m<=1000):
 Calls prog 77 #[.int .i64 n,.int .i64 m] w (BlankSays n m w):=by
 have t:=fun w=>Qle n (by omega) w
 have L:=fun w=>Qcu m (by omega) w
 obtain⟨N,f⟩:=nm (((List.replicate n MR.none).flatMap MR.cells).toArray);obtain⟨P,v⟩:=nm (((List.replicate m FE.zero).flatMap FE.cells).toArray);rw[f] at t;rw[v] at L;have Q:O (N=(List.replicate n (Value.slice none 0 0)).toArray):=Hi (by
  rw[<-f]
  congr 1
  clear f t hn
  induction n with
  |zero=>rfl
  |succ n ih=>rw[List.replicate_succ,List.flatMap_cons,ih,List.replicate_succ];rfl)
 have R:=Hi v.symm;clear f v;go_enter func77,ntmps77;go_wp2_with fail;clear t;obtain⟨G,hG⟩:=nm w.heap.size;obtain⟨V0,j⟩:=nm (w.alloc (.cells N 93));have C:=Ua j;have S:O (SB V0 G 93 (([]:List Nat).map (slRow m)++List.replicate (n - 0) (Value.slice none 0 0)).toArray):=Hi (by
  rw[<-j,<-hG];have:=SB.new w 93 N;rw[Q.o] at this ⊢
  exact this)
 try rw[j]
 try rw[hG]
 unfold Bl at C;rw[hG] at C;have D:=Hi hG;clear j hG;go_loopw [10] (fun i wr=>∃(k:Nat) (gs:Vy),k<=n/\i=.int .i64 k/\gs.length=k/\SB wr G 93 (gs.map (slRow m)++List.replicate (n - k) (Value.slice none 0 0)).toArray/\(∀(r g:Nat),gs[r]?=some g->QBlk wr g (List.replicate m FE.zero)/\G<g)/\(∀(r x g:Nat),gs[r]?=some g->gs[x]?=some g->r=x)/\Below G w wr) (fun i _=>n - (intOf i).toNat)
 case atStart=>exact⟨0,[],by omega,rfl,rfl,S.o,fun r g h=>by simp at h,fun r x g h=>by simp at h,C.o⟩
 case round=>
  obtain⟨k,gs,hk,rfl,y,z,q,E,hb⟩:=hrel;obtain⟨HB,T,U,HN,X⟩:=Id hb z q E y;have c:=z.lt;clear hb z q E;by_cases Y:k<n
  .
   obtain⟨V,H⟩:=nm (wr.alloc (.cells P 141));have A:=Ua H;have HQ:O (QBlk V wr.heap.size (List.replicate m FE.zero)):=Hi (by rw[<-H];exact QBlk.new wr m P R.o);have l:=T.o.below A.o T.o.lt;have f0:=l.free k;have t0:V.cell? ⟨G,k,none⟩=some (.slice none 0 0):=by
    rw[l.cell];have e:(gs.map (slRow m)++List.replicate (n - k) (Value.slice none 0 0)).toArray[k]?=(gs.map (slRow m)++List.replicate (n - k) (Value.slice none 0 0))[k]?:=by simp
    rw[e,List.getElem?_append_right (by rw[List.length_map];omega),List.length_map,y,Nat.sub_self,List.getElem?_replicate,if_pos (by omega)]
   have Z:=Hi l;have q1:((k:Int)<(n:Int)):=by omega
   rw[<-H] at f0 t0;have HV:=Hi H;clear H l y;go_wp2_with fail;have e0:(wr.setCell ⟨G,k,none⟩ (.slice (some ⟨wr.heap.size,0,none⟩) m m)).alloc (.cells P 141)=V.setCell ⟨G,k,none⟩ (.slice (some ⟨wr.heap.size,0,none⟩) m m):=by
    rw[<-HV.o];exact(World.setCell_alloc_past _ _ _ _ c).symm
   rw[e0];have ho:Only G V (V.setCell ⟨G,k,none⟩ (.slice (some ⟨wr.heap.size,0,none⟩) m m)):=(Only.refl G V).setCell _ _;have s:=fun r g b=>(U.o r g b).1.blk.lt
   refine⟨⟨k+1,gs++ [wr.heap.size],by omega,by go_num,by rw[List.length_append];have:=X.o;simp;omega,?_,?_,?_,((HB.o.trans (A.o.mono (Nat.le_of_lt c))).setCell (p:=⟨G,k,none⟩) lZ _)⟩,?_⟩
   .
    have d:=Z.o.set k (.slice (some ⟨wr.heap.size,0,none⟩) m m);rw[List.setIfInBounds_toArray] at d;rw[<-Qmd m n k wr.heap.size gs Y X.o];exact d
   .
    intro r g b;rcases Nat.lt_or_ge r gs.length with h|h
    .
     rw[List.getElem?_append_left h] at b;obtain⟨d,I⟩:=U.o r g b;exact⟨(d.below A.o).zeroOnly ho (by omega),I⟩
    .
     rw[List.getElem?_append_right h] at b;have e1:g=wr.heap.size:=by simpa using mO b
     rw[e1];exact⟨HQ.o.zeroOnly ho (by omega),c⟩
   .
    intro r x g b a;rcases Nat.lt_or_ge r gs.length with h|h<;>rcases Nat.lt_or_ge x gs.length with J|J
    .
     rw[List.getElem?_append_left h] at b;rw[List.getElem?_append_left J] at a;exact HN.o r x g b a
    .
     rw[List.getElem?_append_left h] at b;rw[List.getElem?_append_right J] at a;have e1:g=wr.heap.size:=by simpa using mO a
     have:=s r g b;omega
    .
     rw[List.getElem?_append_right h] at b;rw[List.getElem?_append_left J] at a;have e1:g=wr.heap.size:=by simpa using mO b
     have:=s x g a;omega
    .
     have d:=(gZ b).1;have I:=(gZ a).1;rw[List.length_append] at d I;simp at d I;omega
   . simp[intOf]
     omega
  .
   have aa:k=n:=by omega
   subst aa;go_wp2;go_ret;refine⟨⟨G,gs,rfl,X.o,Nat.le_of_eq D.o,?_,U.o,HN.o⟩,by rw[D.o];exact HB.o⟩;have d:=T.o;rw[Nat.sub_self] at d
   simpa using d
theorem one_q:QOf (⟨#[49]⟩:ByteArray).data.toList 1:=by
 have a:Lib.trimPrefix [49] [45]= [49]:=by decide
 have b:Lib.cut [49] [47]=([49],[],false):=by decide
 refine⟨1,.inl ⟨⟨⟨by rw[a,b];simp,?_⟩,?_⟩,?_⟩,?_⟩
 .
  rw[a,b];intro d c;simp at c;subst c;decide
 .
  rw[a,b];intro h;cases h
 . rw[a,b]
   decide
 .
  have e:Lib.hasPrefix [49] [45]=false:=by decide
  rw[e];rfl
theorem Fits.one:Fits 1 1:=⟨by decide,by decide⟩
def barAt(p:Nat × Nat × Rat × Rat)(r:Nat):Rat:=if r=2*p.1 then p.2.2.1 else if r=2*p.2.1 then -p.2.2.1 else if r=2*p.1+1 then p.2.2.2 else if r=2*p.2.1+1 then -p.2.2.2 else 0
def balM(vb:List (Nat × Nat × Rat × Rat))(nb:Nat)(vh:Vy)(r c:Nat):Rat:=match vb[c]? with
 |some p=>barAt p r
 |none=>match vh[c - nb]? with
  |some h=>if nb<=c/\r=h then 1 else 0
  |none=>0
structure BarV (n:Nat) (js:List S2) (b:B6) (p:Nat × Nat × Rat × Rat):Prop where
 a:b.a=(p.1:Nat)
 b:b.b=(p.2.1:Nat)
 ne:p.1≠p.2.1
 ex:∃(s t:S2) (x1 y1 x2 y2:Rat),js[p.1]?=some s/\js[p.2.1]?=some t/\s.x.size<=n/\s.y.size<=n/\t.x.size<=n/\t.y.size<=n/\QOf s.x.data.toList x1/\QOf s.y.data.toList y1/\QOf t.x.data.toList x2/\QOf t.y.data.toList y2/\p.2.2.1=x2 - x1/\p.2.2.2=y2 - y1
structure HoldV (nj:Nat) (h:H3) (r:Nat):Prop where
 ex:∃j:Nat,h.j=(j:Nat)/\j<nj/\r=if h.w=1 then 2*j else 2*j+1
theorem Qme{a:List (Nat × Nat × Rat × Rat)}{nb k:Nat}{p:Nat × Nat × Rat × Rat}(d:a[k]?=some p)(f:p.1≠p.2.1):
 ∀r c,updM (updM (updM (updM (balM (a.take k) nb []) (2*p.1) k p.2.2.1) (2*p.2.1) k (-p.2.2.1)) (2*p.1+1) k p.2.2.2) (2*p.2.1+1) k (-p.2.2.2) r c=balM (a.take (k+1)) nb [] r c:=by
 intro r c;have hk:=(gZ d).1;by_cases e:c=k
 .
  subst e;have b:(a.take (c+1))[c]?=some p:=by rw[List.getElem?_take_of_lt (by omega)];exact d
  have g:(a.take c)[c]?=none:=List.getElem?_eq_none (by rw[List.length_take];omega);simp only[balM,b,g,updM,barAt,and_true,List.getElem?_nil]
  repeat' split
  all_goals first|rfl|(exfalso;omega)
 .
  have b:(a.take (k+1))[c]?=(a.take k)[c]?:=by
   rcases Nat.lt_or_ge c k with h|h
   . rw[List.getElem?_take_of_lt (by omega),List.getElem?_take_of_lt h]
   . rw[List.getElem?_eq_none (by rw[List.length_take];omega),List.getElem?_eq_none (by rw[List.length_take];omega)]
  simp only[balM,b,updM,e,and_false,if_false]
theorem Qmf{a:List (Nat × Nat × Rat × Rat)}{vh:Vy}{nb k h:Nat}(hl:a.length=nb)(g:vh[k]?=some h):∀r c,updM (balM a nb (vh.take k)) h (nb+k) 1 r c=balM a nb (vh.take (k+1)) r c:=by
 intro r c;have hk:=(gZ g).1;rcases Nat.lt_or_ge c nb with i|i
 .
  obtain⟨p,e⟩:∃p,a[c]?=some p:=⟨a[c]'(by omega),gE (by omega)⟩;simp only[balM,e,updM];rw[if_neg (by omega)]
 .
  have j:a[c]?=none:=List.getElem?_eq_none (by omega);by_cases b:c=nb+k
  .
   subst b;have f:(vh.take (k+1))[nb+k - nb]?=some h:=by rw[Nat.add_sub_cancel_left,List.getElem?_take_of_lt (by omega)];exact g
   have l:(vh.take k)[nb+k - nb]?=none:=List.getElem?_eq_none (by rw[List.length_take];omega);simp only[balM,j,f,l,updM,and_true];by_cases d:r=h
   . rw[if_pos d,if_pos ⟨i,d⟩]
   . rw[if_neg d,if_neg (fun x=>d x.2)]
  .
   have f:(vh.take (k+1))[c - nb]?=(vh.take k)[c - nb]?:=by
    rcases Nat.lt_or_ge (c - nb) k with h|h
    . rw[List.getElem?_take_of_lt (by omega),List.getElem?_take_of_lt h]
    . rw[List.getElem?_eq_none (by rw[List.length_take];omega),List.getElem?_eq_none (by rw[List.length_take];omega)]
   simp only[balM,j,f,updM,b,and_false,if_false]
theorem Qmg(a1 a2 a3:Vx)(c1 c2 c3 n K:Nat)(X:List S2)(y:List B6)(hs:List H3)(vb:List (Nat × Nat × Rat × Rat))(vh:Vy)(w:Vz)(hg:Glob w)(hf:FrRow w a1 a2 a3 c1 c2 c3 X y hs)
 (hj:X.length<=10) (hb:y.length<=24) (hh:hs.length<=20) (cv:vb.length=y.length) (cw:vh.length=hs.length) (cz:∀(i:Nat) (b:B6) (p:Nat × Nat × Rat × Rat),y[i]?=some b->vb[i]?=some p->BarV n X b p) (c0:∀(i:Nat) (h:H3) (r:Nat),hs[i]?=some h->vh[i]?=some r->HoldV X.length h r)
 (hn:n<=1048576) (hK:4*n+1+(4*n+1)+1<=K):
 Calls prog 38 #[.agg #[.slice a1 X.length c1,.slice a2 y.length c2,.slice a3 hs.length c3]] w fun e w'=>∃(N W G:Nat) (T:Vy),N=2*X.length/\W=y.length+hs.length/\e=.returned (.slice (some ⟨G,0,none⟩) N N)/\T.length=N/\BM w w' #[.slice a1 X.length c1,.slice a2 y.length c2,.slice a3 hs.length c3] G W K T (balM vb y.length vh):=by
 obtain⟨HG,HF,aw,b2,eg,eh⟩:=Ie hg hf cv cw cz c0;obtain⟨N,hN⟩:=nm (2*X.length);obtain⟨W,hW⟩:=nm (y.length+hs.length);have c4:2*(X.length:Int)=(N:Int):=by omega
 have c5:(y.length:Int)+(hs.length:Int)=(W:Int):=by omega
 obtain⟨b3,b4⟩:=Ia (fun u=>Qeu a1 a2 a3 c1 c2 c3 X.length y.length hs.length u hj) (fun u=>Qdm a1 a2 a3 c1 c2 c3 X.length y.length hs.length u hb hh);simp only[c4] at b3;simp only[c5] at b4;obtain⟨c6,HN,HW⟩:=Ib (fun u=>Qhg N W u (by omega) (by omega)) hN hW;clear hg hf cv cw cz c0 c4 c5 hN hW;obtain⟨F,hF⟩:∃F:Vw,#[.slice a1 X.length c1,.slice a2 y.length c2,.slice a3 hs.length c3]=F:=⟨_,rfl⟩;obtain⟨V,hV⟩:=nm (w.alloc (.cells #[.slice a1 X.length c1,.slice a2 y.length c2,.slice a3 hs.length c3] 26));obtain⟨J,b5⟩:=nm w.heap.size;have br:=Ua hV;have d:=Uf hV b5;obtain⟨HV,ak,az⟩:=Ib hV b5 hF
 clear hV b5 hF;go_enter func38,ntmps38;go_wp2_with fail;rw[HV.o,ak.o];clear HV;have x0:V.cell? ⟨J,0,none⟩=some (.slice a1 X.length c1):=by
  have h:=d.o.cell 0
  simpa using h
 have x1:V.cell? ⟨J,1,none⟩=some (.slice (a2) y.length c2):=by
  have h:=d.o.cell 1
  simpa using h
 have x2:V.cell? ⟨J,2,none⟩=some (.slice (a3) hs.length c3):=by
  have h:=d.o.cell 2
  simpa using h
 have ag:=d;have L:O (Bl V V):=Hi bR;go_region_held3 (fun v=>v.cell? ⟨J,0,none⟩=some (.slice a1 X.length c1)/\v.cell? ⟨J,1,none⟩=some (.slice a2 y.length c2)/\v.cell? ⟨J,2,none⟩=some (.slice a3 hs.length c3)) ((first|(simp [*];done)|go_keep)) (first
  |(
   go_at_call 40;apply cM;apply b3.o;rintro e v1 ⟨rfl,M⟩;have f:=Hi ((by first|exact L.o|exact L.o.drew:Bl V _).trans (M.mono (by first|exact L.o.size|exact L.o.drew.size)));clear M L x0 x1 x2 d;have d:=Hi (ag.o.below f.o ag.o.lt);have x0:v1.cell? ⟨J,0,none⟩=some (.slice a1 X.length c1):=by
    have h:=d.o.cell 0
    simpa using h
   have x1:v1.cell? ⟨J,1,none⟩=some (.slice (a2) y.length c2):=by
    have h:=d.o.cell 1
    simpa using h
   have x2:v1.cell? ⟨J,2,none⟩=some (.slice (a3) hs.length c3):=by
    have h:=d.o.cell 2
    simpa using h
   skip)
  |(
   go_at_call 39;apply cM;apply b4.o;rintro e v2 ⟨rfl,M⟩;have x:=Hi ((by first|exact f.o|exact f.o.drew:Bl V _).trans (M.mono (by first|exact f.o.size|exact f.o.drew.size)));clear M f x0 x1 x2 d;have d:=Hi (ag.o.below x.o ag.o.lt);have x0:v2.cell? ⟨J,0,none⟩=some (.slice a1 X.length c1):=by
    have h:=d.o.cell 0
    simpa using h
   have x1:v2.cell? ⟨J,1,none⟩=some (.slice (a2) y.length c2):=by
    have h:=d.o.cell 1
    simpa using h
   have x2:v2.cell? ⟨J,2,none⟩=some (.slice (a3) hs.length c3):=by
    have h:=d.o.cell 2
    simpa using h
   skip)
  |(
   go_at_call 77;apply cM;apply c6.o;rintro e v3 ⟨⟨G,T,rfl,c7,c8,bt,bu,c9⟩,M⟩;have a0:=Hi ((by first|exact x.o|exact x.o.drew:Bl V _).trans (M.mono (by first|exact x.o.size|exact x.o.drew.size)));have ei:=Nat.le_trans x.o.size c8;obtain⟨bv,an,da,P⟩:=Ic bt bu c9 c7;clear M x x0 x1 x2 d bt bu c9 c7 c8;have d:=Hi (ag.o.below a0.o ag.o.lt);have x0:v3.cell? ⟨J,0,none⟩=some (.slice a1 X.length c1):=by
    have h:=d.o.cell 0
    simpa using h
   have x1:v3.cell? ⟨J,1,none⟩=some (.slice (a2) y.length c2):=by
    have h:=d.o.cell 1
    simpa using h
   have x2:v3.cell? ⟨J,2,none⟩=some (.slice (a3) hs.length c3):=by
    have h:=d.o.cell 2
    simpa using h
   skip)
  |fail)
 have db:O (BM w v3 F G W K T (balM (vb.take 0) y.length [])):=Hi (by
  have eu:V.heap.size=w.heap.size+1∨w.heap.size<V.heap.size:=.inr (by rw[ak.o];exact ag.o.lt);have bi:w.heap.size<V.heap.size:=by omega
  refine⟨⟨br.o.trans (a0.o.mono br.o.size),bv.o,fun r g hr=>⟨_,(an.o r g hr).1,by simp,fun c t ht=>?_⟩,da.o,fun r g hr=>by have:=(an.o r g hr).2;omega,by omega,fun r g hr=>by have:=(an.o r g hr).2;omega⟩,by rw[<-az.o,ak.o];exact d.o⟩;obtain⟨_,rfl⟩:=List.mem_replicate.1 (mO ht)
  exact⟨by simp[balM,FE.zero],by simp[FE.zero];omega⟩)
 clear d bv an da ag a0 b3 b4 c6 ei;go_wp2_with fail;go_loopw [18] (fun iv wr=>∃k:Nat,k<=y.length/\iv=.int .i64 k/\BM w wr F G W K T (balM (vb.take k) y.length [])) (fun iv _=>y.length - (intOf iv).toNat)
 case atStart=>exact⟨0,by omega,rfl,db.o⟩
 case round=>
  obtain⟨k,hk,rfl,a4⟩:=hrel;have U:=Hi a4;clear a4 x0 x1 x2;by_cases bi:k<y.length
  .
   obtain⟨b,bj⟩:∃b,y[k]?=some b:=⟨y[k],gE bi⟩;obtain⟨p,b6⟩:∃p,vb[k]?=some p:=⟨vb[k]'(by have:=aw.o;omega),gE (by have:=aw.o;omega)⟩;have ae:=eg.o k b p bj b6;obtain⟨bb,bo,rfl,ev,d0,d1,d2,d3,d4,d5⟩:=(HF.o.b.below U.o.base).bar bj;obtain⟨dc,ej,ew⟩:=Ib ae b6 bj;have q1:((k:Int)<(y.length:Int)):=by omega
   obtain⟨s,t,xs,ys,xt,yt,b7,b8,z1,z2,z3,z4,o1,o2,o3,o4,ex,ey⟩:=ae.ex;rw[ae.a] at d0;rw[ae.b] at d1;obtain⟨X1,aa⟩:=nm (wr.alloc (.cells #[.int .i64 (p.1:Nat),.int .i64 (p.2.1:Nat),.string b.c,.string b.e,.string b.l,.string b.m] 80));obtain⟨g0,ah⟩:=nm wr.heap.size;have a5:Bl wr X1:=by rw[<-aa];exact(Below.refl _ _).alloc lZ _
   have dd:SB X1 g0 80 #[.int .i64 (p.1:Nat),.int .i64 (p.2.1:Nat),.string b.c,.string b.e,.string b.l,.string b.m]:=by rw[<-aa,<-ah];exact SB.new wr _ _
   have ab:=Hi (U.o.below a5);have ao:=Qmc a1 (some ⟨bb,bo,none⟩) a3 c1 c2 c3 y.length hs.length p.1 p.2.1 n X b s t X1 (HG.o.below ab.o.base) (HF.o.j.below ab.o.base) ae.a ae.b b7 b8 hj z1 z2 z3 z4 (by omega) o1 o2 o3 o4;rw[ae.a,ae.b,<-ex,<-ey] at ao;obtain⟨ao,z⟩:=Ia ao dd;have ez:=(gZ b7).1;have e6:=(gZ b8).1;obtain⟨bk,b9⟩:=Ia ah aa;clear bj b6 ae b7 b8 z1 z2 z3 z4 o1 o2 o3 o4 ex ey a5 dd ah;have d:=Hi ab.o.box;rw[ak.o,<-az.o] at d;have x0:X1.cell? ⟨J,0,none⟩=some (.slice a1 X.length c1):=by
    have h:=d.o.cell 0
    simpa using h
   have x1:X1.cell? ⟨J,1,none⟩=some (.slice (some ⟨bb,bo,none⟩) y.length c2):=by
    have h:=d.o.cell 1
    simpa using h
   have x2:X1.cell? ⟨J,2,none⟩=some (.slice (a3) hs.length c3):=by
    have h:=d.o.cell 2
    simpa using h
   rw[<-aa] at x0 x1 x2;clear aa;go_wp2_with fail;rw[b9.o,bk.o];go_fit ao.o;rintro e w2 ⟨e7,e8,e9,fa,fb,fc,rfl,H⟩;obtain⟨nx,ax,lx,cx,mx,ox,px,rfl,rfl,rfl⟩:=Qb5 (H.get (List.Mem.tail _ (List.Mem.head _))).1;obtain⟨ny,ay,ly,cy,my,oy,py,rfl,rfl,rfl⟩:=Qb5 (H.get (List.Mem.head _)).1;obtain⟨de,df,_⟩:=H.get (List.Mem.tail _ (List.Mem.head _));obtain⟨dg,dh,_⟩:=H.get (List.Mem.head _);obtain⟨gx,bl⟩:=nm w2.heap.size;obtain⟨Y,hY⟩:=nm ((w2.alloc (.cells #[.bool nx,.slice ax lx cx,.slice mx ox px] 141)).alloc (.cells #[.bool ny,.slice ay ly cy,.slice my oy py] 141));have ap:Bl w2 Y:=by rw[<-hY];exact(bR.alloc lZ _).alloc (by simp) _
   have A:=Ug hY bl;have a6:O (SB Y (gx+1) 141 #[.bool ny,.slice ay ly cy,.slice my oy py]):=Hi (by rw[<-hY,<-bl];exact Qa1 w2 _ _ _);have a7:=H.base.trans (ap.mono H.base.size);obtain⟨ca,D,bm,di⟩:=Ic (ab.o.below a7) (z.o.below a7 z.o.lt) (de.below ap) (dg.below ap);have au:0<K:=by omega
   obtain⟨bw,bx⟩:=Ia (df.mono hK) (dh.mono hK);obtain⟨dj,dk⟩:=Ia bw.o.neg bx.o.neg;have ai:k<W:=by have:=HW.o;omega
   obtain⟨RA,dl⟩:=nm (2*p.1);obtain⟨RB,dm⟩:=nm (2*p.2.1);obtain⟨RC,dn⟩:=nm (2*p.1+1);obtain⟨RD,dp⟩:=nm (2*p.2.1+1);have ek:=HN.o;have dr:=dc.o.ne;obtain⟨gA,a8⟩:∃g,T[RA]?=some g:=⟨T[RA]'(by have:=P.o;omega),gE (by have:=P.o;omega)⟩;obtain⟨gB,a9⟩:∃g,T[RB]?=some g:=⟨T[RB]'(by have:=P.o;omega),gE (by have:=P.o;omega)⟩;obtain⟨gC,ba⟩:∃g,T[RC]?=some g:=⟨T[RC]'(by have:=P.o;omega),gE (by have:=P.o;omega)⟩;obtain⟨gD,bc⟩:∃g,T[RD]?=some g:=⟨T[RD]'(by have:=P.o;omega),gE (by have:=P.o;omega)⟩;have lA:=U.o.lt a8;have lB:=U.o.lt a9;have lC:=U.o.lt ba;have lD:=U.o.lt bc;rw[bk.o] at lA lB lC lD;have ds:g0<gx:=by
    have h1:=H.base.size;have h2:=z.o.lt;omega
   have fd:=U.o.ne RA gA a8;have fe:=U.o.ne RB gB a9;have ff:=U.o.ne RC gC ba;have fg:=U.o.ne RD gD bc;have fh:gA≠gB:=fun h=>by have:=U.o.nd RA RB gA a8 (by rw[h];exact a9);omega
   have fi:gC≠gD:=fun h=>by have:=U.o.nd RC RD gC ba (by rw[h];exact bc);omega
   have iA:((RA:Int)<(N:Int)):=by omega
   have iB:((RB:Int)<(N:Int)):=by omega
   have iC:((RC:Int)<(N:Int)):=by omega
   have iD:((RD:Int)<(N:Int)):=by omega
   have fj:((k:Int)<(W:Int)):=by omega
   have eA:2*(p.1:Int)=(RA:Int):=by omega
   have eB:2*(p.2.1:Int)=(RB:Int):=by omega
   have eC:2*(p.1:Int)+1=(RC:Int):=by omega
   have eD:2*(p.2.1:Int)+1=(RD:Int):=by omega
   obtain⟨dt,du,dv,dw⟩:=Ic (fun u=>Qdn p.1 u (by omega)) (fun u=>Qdn p.2.1 u (by omega)) (fun u=>Qdo p.1 u (by omega)) (fun u=>Qdo p.2.1 u (by omega));simp only[eA] at dt;simp only[eB] at du;simp only[eC] at dv;simp only[eD] at dw;have m1:gA≠g0:=by omega
   have m2:gB≠g0:=by omega
   have m3:gA≠gx:=by omega
   have m4:gB≠gx:=by omega
   have m5:gC≠g0:=by omega
   have m6:gD≠g0:=by omega
   have m7:gC≠gx+1:=by omega
   have m8:gD≠gx+1:=by omega
   have m9:gA≠gx+1:=by omega
   have em:gB≠gx+1:=by omega
   obtain⟨av,bd,be,bn,dx,HY,en⟩:=If a8 a9 ba bc (⟨dl,dm,dn,dp⟩:2*p.1=RA/\2*p.2.1=RB/\2*p.1+1=RC/\2*p.2.1+1=RD) hY bl;clear H de dg df dh ap a7 a8 a9 ba bc lA lB lC lD dl dm dn dp eA eB eC eD hY bl ds ek dr;clear x0 x1 x2 d0 d1 d2 d3 d4 d5;go_wp2_with fail;rw[HY.o,en.o];have s0:=D.o.cell 0;have s1:=D.o.cell 1;have s2:=ca.o.cell av.o;have s3:=ca.o.cell bd.o;have s4:=A.o.cell 0;have s5:=A.o.cell 1;have s6:=A.o.cell 2;simp at s0 s1 s4 s5 s6;have bz:=Hi (Qc3 bm.o)
   go_region_held3 (fun v=>v.cell? ⟨g0,0,none⟩=some (.int .i64 (p.1:Nat))/\v.cell? ⟨g0,1,none⟩=some (.int .i64 (p.2.1:Nat))/\v.cell? ⟨G,RA,none⟩=some (.slice (some ⟨gA,0,none⟩) W W)/\v.cell? ⟨G,RB,none⟩=some (.slice (some ⟨gB,0,none⟩) W W)/\v.cell? ⟨gx,0,none⟩=some (.bool nx)/\v.cell? ⟨gx,1,none⟩=some (.slice ax lx cx)/\v.cell? ⟨gx,2,none⟩=some (.slice mx ox px)) ((first|(simp [*];done)|go_keep)) (first
    |(
     go_at_call 80;apply cM;(first|apply dt.o|apply du.o)
     rintro e vz ⟨rfl,rfl⟩)
    |(
     go_at_call 79;apply cM;(first|exact bz.o|exact Qc3 (bm.o.below bR.drew));rintro e v6 ⟨⟨vn,rfl,E⟩,ad⟩;obtain⟨cb,cc,cd,ce,cf,cg,ch,rfl,E⟩:=E;(first
       |have I:O (Bl Y v6):=Hi ad
       |have I:O (Bl Y v6):=Hi (bR.drew.trans ad))
     have dy:O (FracV v6 (.agg #[.bool cb,.slice cc cd ce,.slice cf cg ch]) (-p.2.2.1)):=Hi ⟨cb,cc,cd,ce,cf,cg,ch,rfl,E⟩;clear E ad s0 s1 s2 s3 s4 s5 s6;have aj:=Hi (ca.o.below I.o);have s0:=(D.o.below I.o D.o.lt).cell 0;have s1:=(D.o.below I.o D.o.lt).cell 1;have s2:=aj.o.cell av.o;have s3:=aj.o.cell bd.o;have s4:=(A.o.below I.o A.o.lt).cell 0;have s5:=(A.o.below I.o A.o.lt).cell 1;have s6:=(A.o.below I.o A.o.lt).cell 2;simp at s0 s1 s4 s5 s6;obtain⟨e0,e1,e2,f0,f1,f2,f3,f4,f5⟩:=aj.o.at av.o ai;obtain⟨e3,e4,e5,k0,k1,k2,k3,k4,k5⟩:=aj.o.at bd.o ai
     skip)
    |fail)
   obtain⟨Z,hZ⟩:=nm (set3 (set3 v6 gA k (.bool nx) (.slice ax lx cx) (.slice mx ox px)) gB k (.bool cb) (.slice cc cd ce) (.slice cf cg ch));have bf:=aj.o.put av.o ai (bm.o.below I.o) bw.o au;have bp:O (BM w Z F G W K T _):=Hi (by
    rw[<-hZ]
    exact bf.put bd.o ai (aj.o.keepV av.o dy.o) dj.o au)
   have ar:O (FracV Z (.agg #[.bool ny,.slice ay ly cy,.slice my oy py]) p.2.2.2):=Hi (by
    rw[<-hZ]
    exact bf.keepV bd.o (aj.o.keepV av.o (di.o.below I.o)))
   have S:O (SB Z g0 80 #[.int .i64 (p.1:Nat),.int .i64 (p.2.1:Nat),.string b.c,.string b.e,.string b.l,.string b.m]):=Hi (by
    rw[<-hZ]
    exact keep3 (keep3 (D.o.below I.o D.o.lt) (fun h=>m1 h.symm)) (fun h=>m2 h.symm))
   have B:O (SB Z (gx+1) 141 #[.bool ny,.slice ay ly cy,.slice my oy py]):=Hi (by
    rw[<-hZ]
    exact keep3 (keep3 (a6.o.below I.o a6.o.lt) (fun h=>m9 h.symm)) (fun h=>em h.symm))
   have ci:=hZ;unfold set3 at ci;rw[ci];clear ci hZ bf s0 s1 s2 s3 s4 s5 s6 f0 f1 f2 f3 f4 f5 k0 k1 k2 k3 k4 k5 aj dy I di D a6 A bm bz;have s0:=S.o.cell 0;have s1:=S.o.cell 1;have s2:=bp.o.cell be.o;have s3:=bp.o.cell bn.o;have s4:=B.o.cell 0;have s5:=B.o.cell 1;have s6:=B.o.cell 2;simp at s0 s1 s4 s5 s6;have b0:=Hi (Qc3 ar.o);go_wp2_with fail;go_region_held3 (fun v=>v.cell? ⟨g0,0,none⟩=some (.int .i64 (p.1:Nat))/\v.cell? ⟨g0,1,none⟩=some (.int .i64 (p.2.1:Nat))/\v.cell? ⟨G,RC,none⟩=some (.slice (some ⟨gC,0,none⟩) W W)/\v.cell? ⟨G,RD,none⟩=some (.slice (some ⟨gD,0,none⟩) W W)/\v.cell? ⟨gx+1,0,none⟩=some (.bool ny)/\v.cell? ⟨gx+1,1,none⟩=some (.slice ay ly cy)/\v.cell? ⟨gx+1,2,none⟩=some (.slice my oy py)) ((first|(simp [*];done)|go_keep)) (first
    |(
     go_at_call 81;apply cM;(first|apply dv.o|apply dw.o)
     rintro e vz ⟨rfl,rfl⟩)
    |(
     go_at_call 79;apply cM;(first|exact b0.o|exact Qc3 (ar.o.below bR.drew));rintro e v7 ⟨⟨vn,rfl,E⟩,ad⟩;obtain⟨cj,ck,cl,cm,cn,cp,cq,rfl,E⟩:=E;(first
       |have af:O (Bl Z v7):=Hi ad
       |have af:O (Bl Z v7):=Hi (bR.drew.trans ad))
     have dz:O (FracV v7 (.agg #[.bool cj,.slice ck cl cm,.slice cn cp cq]) (-p.2.2.2)):=Hi ⟨cj,ck,cl,cm,cn,cp,cq,rfl,E⟩;clear E ad s0 s1 s2 s3 s4 s5 s6;have al:=Hi (bp.o.below af.o);have s0:=(S.o.below af.o S.o.lt).cell 0;have s1:=(S.o.below af.o S.o.lt).cell 1;have s2:=al.o.cell be.o;have s3:=al.o.cell bn.o;have s4:=(B.o.below af.o B.o.lt).cell 0;have s5:=(B.o.below af.o B.o.lt).cell 1;have s6:=(B.o.below af.o B.o.lt).cell 2;simp at s0 s1 s4 s5 s6;obtain⟨e0,e1,e2,f0,f1,f2,f3,f4,f5⟩:=al.o.at be.o ai;obtain⟨e3,e4,e5,k0,k1,k2,k3,k4,k5⟩:=al.o.at bn.o ai
     skip)
    |fail)
   obtain⟨Q,hQ⟩:∃Z,set3 (set3 v7 gC k (.bool ny) (.slice ay ly cy) (.slice my oy py)) gD k (.bool cj) (.slice ck cl cm) (.slice cn cp cq)=Z:=⟨_,rfl⟩;have b1:=al.o.put be.o ai (ar.o.below af.o) bx.o au;have ea:O (BM w Q F G W K T _):=Hi (by
    rw[<-hQ]
    exact b1.put bn.o ai (al.o.keepV be.o dz.o) dk.o au)
   have am:=hQ;unfold set3 at am;rw[am];have cr:O (BM w Q F G W K T (balM (vb.take (k+1)) y.length [])):=Hi (ea.o.congr (fun r c=>by
    have h:=Qme (nb:=y.length) ej.o dc.o.ne r c;obtain⟨h1,h2,h3,h4⟩:=dx.o;rw[h3,h4,h1,h2] at h
    exact h))
   clear am hQ b1 s0 s1 s2 s3 s4 s5 s6 f0 f1 f2 f3 f4 f5 k0 k1 k2 k3 k4 k5 al dz af ar S B b0 ea bp;go_wp2;go_roundw
   case rel=>exact⟨k+1,by omega,by go_num,cr.o⟩
   case measure=>simp[intOf];omega
  .
   obtain rfl:k=y.length:=by omega
   have eb:O (BM w wr F G W K T (balM vb y.length (vh.take 0))):=Hi (by
    have h:=U.o;rw[<-aw.o,List.take_length,aw.o] at h
    exact h)
   have d:=Hi eb.o.box;rw[ak.o,<-az.o] at d;have x0:wr.cell? ⟨J,0,none⟩=some (.slice a1 X.length c1):=by
    have h:=d.o.cell 0
    simpa using h
   have x1:wr.cell? ⟨J,1,none⟩=some (.slice (a2) y.length c2):=by
    have h:=d.o.cell 1
    simpa using h
   have x2:wr.cell? ⟨J,2,none⟩=some (.slice (a3) hs.length c3):=by
    have h:=d.o.cell 2
    simpa using h
   clear U db d;go_wp2_with fail;go_loopw [71] (fun iv wr=>∃k:Nat,k<=hs.length/\iv=.int .i64 k/\BM w wr F G W K T (balM vb y.length (vh.take k))) (fun iv _=>hs.length - (intOf iv).toNat)
   case atStart=>exact⟨0,by omega,rfl,eb.o⟩
   case round=>
    obtain⟨k,hk,rfl,a4⟩:=hrel;have U:=Hi a4;clear a4 x0 x1 x2;by_cases bi:k<hs.length
    .
     obtain⟨h,cs⟩:∃h,hs[k]?=some h:=⟨hs[k],gE bi⟩;obtain⟨R,ct⟩:∃R,vh[k]?=some R:=⟨vh[k]'(by have:=b2.o;omega),gE (by have:=b2.o;omega)⟩;obtain⟨j,ec,eo,cu⟩:=(eh.o k h R cs ct).ex;obtain⟨fk,fl,rfl,fm,d0,d1,d2⟩:=(HF.o.h.below U.o.base).hold cs;rw[ec] at d0;obtain⟨X1,aa⟩:=nm (wr.alloc (.cells #[.int .i64 (j:Nat),.int .i64 h.w,.string h.q] 83));obtain⟨g0,ah⟩:=nm wr.heap.size;have a5:Bl wr X1:=by rw[<-aa];exact(Below.refl _ _).alloc lZ _
     have z:=Uf aa ah;have ab:=Hi (U.o.below a5);have ep:R<N:=by
      have:=HN.o
      split at cu<;>omega
     obtain⟨gR,bg⟩:∃g,T[R]?=some g:=⟨T[R]'(by have:=P.o;omega),gE (by have:=P.o;omega)⟩;have lR:=U.o.lt bg;rw[ah] at lR;have m1:gR≠g0:=by omega
     have m2:=U.o.ne R gR bg;have m3:gR≠J:=by
      have:=U.o.los R gR bg;have:=ak.o;omega
     obtain⟨bh,eq⟩:=Ia bg ct;have eR:(if h.w=1 then 2*(j:Int) else 2*(j:Int)+1)=(R:Int):=by
      rw[cu]
      split<;>simp
     have ed:=Hi (fun u=>Qwe j h.w h.q u (by omega));simp only[eR] at ed;have er:=Hi (fun u (hu:Bl X1 u)=>of_val (q:=1) (s:=⟨#[49]⟩) ((HG.o.below ab.o.base).below hu) one_q (by decide));obtain⟨C,hC⟩:=nm (y.length+k);have ee:C<W:=by have:=HW.o;omega
     have wC:IntKind.i64.wrap ((y.length:Int)+(k:Int))=(C:Int):=by rw[wrap_i64 _ (by omega) (by omega)];omega
     have q1:((k:Int)<(hs.length:Int)):=by omega
     have iR:((R:Int)<(N:Int)):=by omega
     have iC:((C:Int)<(W:Int)):=by omega
     have au:0<K:=by omega
     obtain⟨es,b9,bk⟩:=Ib hC aa ah;clear cs ct ec eo cu aa ah a5 bg lR eR hC ep;go_wp2_with fail;rw[b9.o,bk.o];have d:=Hi ab.o.box;rw[ak.o,<-az.o] at d;have s0:=z.o.cell 0;have s1:=z.o.cell 1;have s2:=z.o.cell 2;have s3:=ab.o.cell bh.o;have s4:=d.o.cell 1;simp at s0 s1 s2 s4;have L:O (Bl X1 X1):=Hi bR;go_region_held3 (fun v=>v.cell? ⟨g0,0,none⟩=some (.int .i64 (j:Nat))/\v.cell? ⟨g0,1,none⟩=some (.int .i64 h.w)/\v.cell? ⟨g0,2,none⟩=some (.string h.q)/\v.cell? ⟨G,R,none⟩=some (.slice (some ⟨gR,0,none⟩) W W)/\v.cell? ⟨J,1,none⟩=some (.slice a2 y.length c2)) ((first|(simp [*];done)|go_keep)) (first
      |(
       go_at_call 83;apply cM;apply ed.o;rintro e v1 ⟨rfl,M⟩;have f:=Hi ((by first|exact L.o|exact L.o.drew:Bl X1 _).trans (M.mono (by first|exact L.o.size|exact L.o.drew.size)));clear M L s0 s1 s2 s3 s4;have s0:=(z.o.below f.o z.o.lt).cell 0;have s1:=(z.o.below f.o z.o.lt).cell 1;have s2:=(z.o.below f.o z.o.lt).cell 2;have s3:=(ab.o.below f.o).cell bh.o;have s4:=(d.o.below f.o d.o.lt).cell 1;simp at s0 s1 s2 s4
       skip)
      |(
       go_at_call 82;apply cM;apply er.o;(first|exact f.o|exact f.o.drew);rintro e v2 ⟨⟨vn,rfl,E⟩,ad⟩;obtain⟨nq,aq,lq,dq,mq,oq,pq,rfl,E⟩:=E;have x:=Hi ((by first|exact f.o|exact f.o.drew:Bl X1 _).trans (ad.mono (by first|exact f.o.size|exact f.o.drew.size)));have ef:O (FracV v2 (.agg #[.bool nq,.slice aq lq dq,.slice mq oq pq]) 1):=Hi ⟨nq,aq,lq,dq,mq,oq,pq,rfl,E⟩;clear E ad s0 s1 s2 s3 s4;have bq:=Hi (ab.o.below x.o);have s0:=(z.o.below x.o z.o.lt).cell 0;have s1:=(z.o.below x.o z.o.lt).cell 1;have s2:=(z.o.below x.o z.o.lt).cell 2;have s3:=bq.o.cell bh.o;have s4:=(d.o.below x.o d.o.lt).cell 1;simp at s0 s1 s2 s4;obtain⟨e0,e1,e2,f0,f1,f2,f3,f4,f5⟩:=bq.o.at bh.o ee
       skip)
      |fail)
     obtain⟨Q,hQ⟩:=nm (set3 v2 gR C (.bool nq) (.slice aq lq dq) (.slice mq oq pq));have cr:O (BM w Q F G W K T (balM vb y.length (vh.take (k+1)))):=Hi (by
      rw[<-hQ];refine(bq.o.put bh.o ee ef.o (Fits.one.mono (by omega)) au).congr (fun r c=>?_);have h:=Qmf aw.o eq.o r c;rw[es.o] at h
      exact h)
     have am:=hQ;unfold set3 at am;rw[am];clear am hQ s0 s1 s2 s3 s4 f0 f1 f2 f3 f4 f5 bq ef x d;go_wp2;go_roundw
     case rel=>exact⟨k+1,by omega,by go_num,cr.o⟩
     case measure=>simp[intOf];omega
    .
     obtain rfl:k=hs.length:=by omega
     have et:=Hi (by
      have h:=U.o;rw[<-b2.o,List.take_length] at h
      exact h)
     clear U;go_wp2;go_ret;exact⟨N,W,G,T,HN.o.symm,HW.o.symm,rfl,P.o,by rw[az.o];exact et.o⟩
theorem Qhh{P:Program}{e:Func}{p u v x:Tmp}{ty:Vr}(h:e.results=#[.tmp u,.tmp v,.tmp x,.cell p ty])(a:Vw)(w:Vz)(g:Nat)(t:Vr)(b:Vw)(f:Nat × Nat)(d:TypeDesc)
 (i:a.getD p undef=.pointer (some ⟨g,0,none⟩)) (j:w.heap[g]?=some (.cells b t f))
 (k:P.underlying ty=some d) (l:(match d with| .struct _| .array _ _=>true|_=>false)=true) (m:(P.info? ty).map (·.size)=some b.size):
 (results e a).run P w=.ok (.tuple #[a.getD u undef,a.getD v undef,a.getD x undef,.agg b]) w:=by
 have c:a[p]?.getD undef=.pointer (some ⟨g,0,none⟩):=by simpa using i
 simp[results,h,c,asAddr,run_loadVar_row w g t ty b f d j k l m]
theorem GM.rows{w u:Vz}{B G W K:Nat}{d:Vy}{M:Nat->Nat->Rat}(h:GM w u B G W K d M)(H:∀r c,W<=c->M r c=0):
 ∃rs:List MR,rs.length=d.length/\QMat u (some ⟨G,0,none⟩) d.length W rs/\Oks u W K rs/\(∀r,r∈ rs->∀t,t∈ r.ts->t.k<=K)/\rs.map MR.q=(List.range d.length).map M:=by
 have hex:∀r:Nat,∃m:MR,∀g,d[r]?=some g->m.a=some ⟨g,0,none⟩/\m.cap=W/\m.ts.length=W/\QBlk u g m.ts/\∀(c:Nat) (t:FE),m.ts[c]?=some t->t.q=M r c/\t.k<=K:=fun r=>by
  rcases j:d[r]? with _|g
  . exact⟨MR.none,fun g I=>by cases I⟩
  . obtain⟨us,x,s,v⟩:=h.row r g j
    exact⟨⟨some ⟨g,0,none⟩,W,us⟩,fun N C=>by cases C;exact⟨rfl,rfl,s,x,v⟩⟩
 obtain⟨f,J⟩:=Classical.axiomOfChoice hex;have n:∀r,r<d.length->∃g,d[r]?=some g/\(f r).a=some ⟨g,0,none⟩/\(f r).cap=W/\(f r).ts.length=W/\QBlk u g (f r).ts/\∀(c:Nat) (t:FE),(f r).ts[c]?=some t->t.q=M r c/\t.k<=K:=fun r j=>⟨d[r],gE j,J r _ (gE j)⟩
 have y:∀m,m∈ (List.range d.length).map f->∃r,r<d.length/\f r=m:=fun m e=>by
  obtain⟨r,j,rfl⟩:=List.mem_map.1 e;exact⟨r,List.mem_range.1 j,rfl⟩
 have l:(d.map (slRow W)).toArray.toList=((List.range d.length).map f).flatMap MR.cells:=by
  rw[Qes,List.map_map];apply List.ext_getElem?;intro i;simp only[List.getElem?_map,Function.comp];rcases Nat.lt_or_ge i d.length with p|p
  .
   obtain⟨g,x,s,v,z,_⟩:=n i p;rw[x,List.getElem?_range p];simp[slRow,MR.val,s,v,z]
  . rw[List.getElem?_eq_none p,List.getElem?_eq_none (by simpa using p)]
    rfl
 have b:∀m,m∈ (List.range d.length).map f->QRow u m.a m.cap m.ts/\m.ts.length=W/\∀t,t∈ m.ts->t.k<=K:=fun m e=>by
  obtain⟨r,j,rfl⟩:=y m e;obtain⟨g,x,s,v,z,E,D⟩:=n r j;refine⟨?_,z,fun t A=>?_⟩
  . rw[s,v,<-z]
    exact E.row
  . obtain⟨i,p,L⟩:=List.getElem_of_mem A
    exact(D i t (by rw[<-L];exact gE p)).2
 refine⟨(List.range d.length).map f,by simp,⟨h.o.arow l (by simp),fun m e=>⟨(b m e).1,(b m e).2.1⟩⟩,fun m e=>⟨(b m e).1,(b m e).2.1,(b m e).2.2⟩,fun m e=>(b m e).2.2,?_⟩;rw[List.map_map];apply List.map_congr_left;intro r j;obtain⟨g,x,s,v,z,E,D⟩:=n r (List.mem_range.1 j);funext c
 show (f r).q c=M r c
 rcases Nat.lt_or_ge c W with F|F
 .
  obtain⟨t,A⟩:∃t,(f r).ts[c]?=some t:=⟨(f r).ts[c]'(by omega),gE (by omega)⟩;rw[MR.q_at A];exact(D c t A).1
 . rw[MR.q_beyond (by omega),H r c F]
theorem Qcw{a:List (Nat × Nat × Rat × Rat)}{vh:Vy}{nb nh:Nat}(e:a.length=nb)(f:vh.length=nh):∀r c,nb+nh<=c->balM a nb vh r c=0:=by
 intro r c g;have b:a[c]?=none:=List.getElem?_eq_none (by omega);have d:vh[c - nb]?=none:=List.getElem?_eq_none (by omega);simp only[balM,b,d]
theorem Qdr(d f g:Vx)(c1 c2 c3:Nat)(a:List S2)(b:List B6)(hs:List H3)(w:Vz)(j:Glob w)(k:FrRow w d f g c1 c2 c3 a b hs)(l:FrSized a b hs)(h:FrameFault a b hs 0 0):
 Calls prog 36 #[.agg #[.slice d a.length c1,.slice f b.length c2,.slice g hs.length c3]] w fun e w'=>e=.returned (.agg #[.int .i64 0,.int .i64 0])/\Below w.heap.size w w':=by
 refine(Qdi d f g c1 c2 c3 a b hs w j k l).mono ?_;rintro e w' ⟨c,m,rfl,i,n⟩;obtain⟨rfl,rfl⟩:=i.inj h;exact⟨rfl,n⟩
structure FrV (n:Nat) (js:List S2) (bs:List B6) (hs:List H3) (vb:List (Nat × Nat × Rat × Rat)) (vh:Vy):Prop where
 j:js.length<=10
 b:bs.length<=24
 h:hs.length<=20
 lb:vb.length=bs.length
 lh:vh.length=hs.length
 vb:∀(i:Nat) (b:B6) (p:Nat × Nat × Rat × Rat),bs[i]?=some b->vb[i]?=some p->BarV n js b p
 vh:∀(i:Nat) (h:H3) (r:Nat),hs[i]?=some h->vh[i]?=some r->HoldV js.length h r
 n:n<=1048576
def balRows(nj:Nat)(vb:List (Nat × Nat × Rat × Rat))(nb:Nat)(vh:Vy):List Vec:=(List.range (2*nj)).map (balM vb nb vh)
theorem Qds(g i l:Vx)(c1 c2 c3 n K:Nat)(d:List S2)(c:List B6)(hs:List H3)(m:List (Nat × Nat × Rat × Rat))(vh:Vy)(w:Vz)(v:Glob w)(x:FrRow w g i l c1 c2 c3 d c hs)(a:FrV n d c hs m vh)(y:4*n+1+(4*n+1)+1<=K):
 Calls prog 38 #[.agg #[.slice g d.length c1,.slice i c.length c2,.slice l hs.length c3]] w fun e w'=>∃(N G:Nat) (rs:List MR),N=2*d.length/\e=.returned (.slice (some ⟨G,0,none⟩) N N)/\rs.length=N/\QMat w' (some ⟨G,0,none⟩) N (c.length+hs.length) rs/\Oks w' (c.length+hs.length) K rs/\(∀r,r∈ rs->∀t,t∈ r.ts->t.k<=K)/\rs.map MR.q=balRows d.length m c.length vh/\Below w.heap.size w w':=by
 refine(Qmg g i l c1 c2 c3 n K d c hs m vh w v x a.j a.b a.h a.lb a.lh a.vb a.vh a.n y).mono ?_;rintro e w' ⟨N,W,G,B,rfl,rfl,rfl,o,f⟩;obtain⟨rs,p,s,z,A,u⟩:=f.rows (Qcw a.lb a.lh);rw[o] at p s u;exact⟨_,G,rs,rfl,rfl,p,s,z,A,u,f.base⟩
theorem Qhi(m q r:Vx)(c1 c2 c3 n K:Nat)(i:List S2)(d:List B6)(hs:List H3)(vb:List (Nat × Nat × Rat × Rat))(vh:Vy)(w:Vz)(hg:Glob w)(hf:FrRow w m q r c1 c2 c3 i d hs)(hz:FrSized i d hs)(Z:FrameFault i d hs 0 0)(hv:FrV n i d hs vb vh)(hK:4*n+1+(4*n+1)+1<=K)(aq:4*K+1<68719476000)
 (I:Nat->List Vec->List Vec->List Nat->Prop) (hI:Going K I) (h0:I 0 (balRows i.length vb d.length vh) [] []):
 Calls prog 8 #[.agg #[.slice m i.length c1,.slice q d.length c2,.slice r hs.length c3]] w fun e w'=>(∃(L S:List Vec) (hh:Vy),e=.returned (.tuple #[.int .i64 (S.length:Nat),.int .i64 ((d.length:Int)+(hs.length:Int) - (S.length:Nat)),.int .i64 (2*(i.length:Int) - (S.length:Nat)),.agg #[.int .i64 0,.int .i64 0]])/\S.length<=d.length+hs.length/\I (d.length+hs.length) L S hh)/\Below w.heap.size w w':=by
 obtain⟨HG,HF,HZ,ar,HV,HI,H0⟩:=If hg hf hz Z hv hI h0;have n1:=hv.j;have n2:=hv.b;have n3:=hv.h;clear hg hf hz Z hv hI h0;obtain⟨c,H⟩:=nm w.heap.size;obtain⟨V0,D⟩:=nm ((w.alloc (.cells #[.slice m i.length c1,.slice q d.length c2,.slice r hs.length c3] 26)).alloc (.cells #[.int .i64 0,.int .i64 0] 31));have k:=Ub D;have Q:=Ug D H;have R:=Uh D H;obtain⟨aa,T,ab⟩:=Ib D H (Qdr m q r c1 c2 c3 i d hs V0 (HG.o.below k.o) (HF.o.below k.o) HZ.o ar.o);clear D H
 go_enter func8,ntmps8;go_wp2_with fail;rw[aa.o,T.o];clear aa;go_fit ab.o;rintro e w1 ⟨rfl,l⟩;have ad:=Q.o.below l Q.o.lt;have E:=R.o.below l R.o.lt;obtain⟨V,hV⟩:=nm ((w1.setCell ⟨c+1,0,none⟩ (.int .i64 0)).setCell ⟨c+1,1,none⟩ (.int .i64 0));have ho:Only (c+1) w1 V:=by rw[<-hV];exact((Only.refl _ _).setCell _ _).setCell _ _
 have f:=Hi (ad.only ho (by omega));have g:O (SB V (c+1) 31 #[.int .i64 0,.int .i64 0]):=Hi (by rw[<-hV];exact(E.set 0 _).set 1 _);have y:=Hi ((k.o.trans (l.mono k.o.size)).trans (ho.below (by have:=T.o;omega) (k.o.trans (l.mono k.o.size)).size));obtain⟨z0,z1,-⟩:=zc E;have f0:=E.free 0;have f1:=E.free 1;obtain⟨k0,k1,-⟩:=zc g.o;have au:=Hi hV;rw[<-hV] at k0 k1;clear l ad E ho Q R ab hV;go_wp2_with fail;rw[au.o];have a:=f;have F:V.cell? ⟨c,0,none⟩=some (.slice m i.length c1):=by
  have h:=a.o.cell 0
  simpa using h
 have x1:V.cell? ⟨c,1,none⟩=some (.slice q d.length c2):=by
  have h:=a.o.cell 1
  simpa using h
 have x2:V.cell? ⟨c,2,none⟩=some (.slice r hs.length c3):=by
  have h:=a.o.cell 2
  simpa using h
 clear z0 z1 f0 f1 k0 k1;have s:O (Bl V V):=Hi bR;obtain⟨U,X,ae⟩:=Ib (fun u (hu:Bl V u)=>Qds m q r c1 c2 c3 n K i d hs vb vh u (HG.o.below (y.o.trans (hu.mono y.o.size))) (HF.o.below (y.o.trans (hu.mono y.o.size))) HV.o hK) (fun u=>Qdm m q r c1 c2 c3 i.length d.length hs.length u n2 n3) (fun u=>Qeu m q r c1 c2 c3 i.length d.length hs.length u n1);obtain⟨W,hW⟩:=nm (d.length+hs.length);obtain⟨Y,af⟩:=nm (2*i.length);have eW:(d.length:Int)+(hs.length:Int)=(W:Int):=by omega
 have eN:2*(i.length:Int)=(Y:Int):=by omega
 simp only[eW] at X;simp only[eN] at ae;rw[hW] at U;obtain⟨ag,av,aw,ax⟩:=Ic hW af eW eN;have ay:W<=100:=by omega
 have az:Y<=100:=by omega
 have a0:0<K:=by omega
 clear eW eN hW af;go_region_held3 (fun v=>v.cell? ⟨c,0,none⟩=some (.slice m i.length c1)/\v.cell? ⟨c,1,none⟩=some (.slice q d.length c2)/\v.cell? ⟨c,2,none⟩=some (.slice r hs.length c3)) ((first|(simp [*];done)|go_keep)) (first
  |(
   go_at_call 38;apply cM;apply U.o;(first|exact s.o|exact s.o.drew);rintro e v1 ⟨N,G,rs,hN,rfl,ah,ai,M,_,hq,l⟩;obtain rfl:Y=N:=by rw[hN];exact av.o.symm
   obtain⟨aj,ak,P,HQ⟩:=Ic ah ai.row M hq;clear hN ah ai M hq;have z:=Hi ((by first|exact s.o|exact s.o.drew:Bl V _).trans (l.mono (by first|exact s.o.size|exact s.o.drew.size)));clear l s F x1 x2 a;have a:=Hi (f.o.below z.o f.o.lt);have F:v1.cell? ⟨c,0,none⟩=some (.slice m i.length c1):=by
    have h:=a.o.cell 0
    simpa using h
   have x1:v1.cell? ⟨c,1,none⟩=some (.slice q d.length c2):=by
    have h:=a.o.cell 1
    simpa using h
   have x2:v1.cell? ⟨c,2,none⟩=some (.slice r hs.length c3):=by
    have h:=a.o.cell 2
    simpa using h
   skip)
  |(
   go_at_call 39;apply cM;apply X.o;rintro e v2 ⟨rfl,J⟩;(first
     |have x:=Hi J
     |have x:O (Bl v1 v2):=Hi (bR.drew.trans J))
   have A:=Hi ((by first|exact z.o|exact z.o.drew:Bl V _).trans (J.mono (by first|exact z.o.size|exact z.o.drew.size)));clear J z F x1 x2 a;have a:=Hi (f.o.below A.o f.o.lt);have F:v2.cell? ⟨c,0,none⟩=some (.slice m i.length c1):=by
    have h:=a.o.cell 0
    simpa using h
   have x1:v2.cell? ⟨c,1,none⟩=some (.slice q d.length c2):=by
    have h:=a.o.cell 1
    simpa using h
   have x2:v2.cell? ⟨c,2,none⟩=some (.slice r hs.length c3):=by
    have h:=a.o.cell 2
    simpa using h
   skip)
  |(
   go_at_call 37;apply cM
   (have al:=Qv6 (some ⟨G,0,none⟩) Y W K rs v2 I HI.o (ak.o.below x.o) (P.o.fr (Fr.of_below x.o)) (by rw[aj.o];omega) (by omega) a0 aq (by rw[HQ.o];exact H0.o)
    rw[aj.o] at al
    exact al)
   rintro e v3 ⟨⟨L,S,hh,rfl,a4,hi⟩,am⟩;have HJ:=Hi hi;clear hi;have t:=Hi ((by first|exact A.o|exact A.o.drew:Bl V _).trans (am.mono (by first|exact A.o.size|exact A.o.drew.size)));clear am A F x1 x2 a;have a:=Hi (f.o.below t.o f.o.lt);have F:v3.cell? ⟨c,0,none⟩=some (.slice m i.length c1):=by
    have h:=a.o.cell 0
    simpa using h
   have x1:v3.cell? ⟨c,1,none⟩=some (.slice q d.length c2):=by
    have h:=a.o.cell 1
    simpa using h
   have x2:v3.cell? ⟨c,2,none⟩=some (.slice r hs.length c3):=by
    have h:=a.o.cell 2
    simpa using h
   skip)
  |fail)
 have a5:IntKind.i64.wrap ((W:Int) - (S.length:Int))=(W:Int) - (S.length:Int):=wrap_i64 _ (by omega) (by omega);have a6:IntKind.i64.wrap ((Y:Int) - (S.length:Int))=(Y:Int) - (S.length:Int):=wrap_i64 _ (by omega) (by omega);have a9:=Hi (g.o.below t.o g.o.lt);clear ak P HQ x U;go_wp2_with fail;go_region_held3 (fun v=>v.cell? ⟨c,0,none⟩=some (.slice m i.length c1)/\v.cell? ⟨c,1,none⟩=some (.slice q d.length c2)/\v.cell? ⟨c,2,none⟩=some (.slice r hs.length c3)) ((first|(simp [*];done)|go_keep)) (first
  |(
   go_at_call 39;apply cM;apply X.o;rintro e v4 ⟨rfl,an⟩;have B:=Hi ((by first|exact t.o|exact t.o.drew:Bl V _).trans (an.mono (by first|exact t.o.size|exact t.o.drew.size)));clear an t F x1 x2 a;have a:=Hi (f.o.below B.o f.o.lt);have F:v4.cell? ⟨c,0,none⟩=some (.slice m i.length c1):=by
    have h:=a.o.cell 0
    simpa using h
   have x1:v4.cell? ⟨c,1,none⟩=some (.slice q d.length c2):=by
    have h:=a.o.cell 1
    simpa using h
   have x2:v4.cell? ⟨c,2,none⟩=some (.slice r hs.length c3):=by
    have h:=a.o.cell 2
    simpa using h
   skip)
  |(
   go_at_call 40;apply cM;apply ae.o;rintro e v5 ⟨rfl,ao⟩;have C:=Hi ((by first|exact B.o|exact B.o.drew:Bl V _).trans (ao.mono (by first|exact B.o.size|exact B.o.drew.size)));clear ao B F x1 x2 a;have a:=Hi (f.o.below C.o f.o.lt);have F:v5.cell? ⟨c,0,none⟩=some (.slice m i.length c1):=by
    have h:=a.o.cell 0
    simpa using h
   have x1:v5.cell? ⟨c,1,none⟩=some (.slice q d.length c2):=by
    have h:=a.o.cell 1
    simpa using h
   have x2:v5.cell? ⟨c,2,none⟩=some (.slice r hs.length c3):=by
    have h:=a.o.cell 2
    simpa using h
   obtain⟨y0,y1,-⟩:=zc (g.o.below C.o g.o.lt);have g0:=(g.o.below C.o g.o.lt).free 0;have g1:=(g.o.below C.o g.o.lt).free 1
   skip)
  |fail)
 obtain⟨a7,a8⟩:=Ia (g.o.below C.o g.o.lt) (y.o.trans (C.o.mono y.o.size));have ap:w.heap.size<=c+1:=by have:=T.o;omega
 clear F x1 x2 y0 y1 g0 g1 a5 a6;go_wp2;refine bodyPost_ret (Qhh rfl _ _ (c+1) 31 #[.int .i64 0,.int .i64 0] (0,0) _ rfl ((a7.o.set 0 _).set 1 _) underlying31 rfl Tryz.faultInfo) rfl ?_;exact⟨⟨L,S,hh,by rw[aw.o,ax.o];rfl,by rw[ag.o];exact a4,by rw[ag.o];exact HJ.o⟩,(a8.o.setCell (p:=⟨c+1,0,none⟩) ap _).setCell (p:=⟨c+1,1,none⟩) ap _⟩
def LoadsFault(nj en:Nat)(ls:List L3)(c at_:Int):Prop:=
 (20<ls.length/\c=2/\at_=(en:Nat))∨
 (ls.length<=20/\((∃(k:Nat) (l:L3),ls[k]?=some l/\(∀(i:Nat) (x:L3),i<k->ls[i]?=some x->IsJ nj x.j)/\¬IsJ nj l.j/\c=4/\at_=(en:Nat)+(k:Nat))∨
 ((∀(i:Nat) (x:L3),ls[i]?=some x->IsJ nj x.j)/\c=0/\at_=0)))
theorem Qmh(A W X Y:Vx)(c1 c2 c3 Z m nb nh:Nat)(b:List L3)(w:Vz)(hl:ARow L3.cells w Y Z b)(n1:m<=10)(n2:nb<=24)(n3:nh<=20)(aa:b.length<=9223372036854775807):
 Calls prog 58 #[.agg #[.slice A m c1,.slice W nb c2,.slice X nh c3],.slice Y b.length Z] w fun e w'=>∃c D,e=.returned (.agg #[.int .i64 c,.int .i64 D])/\LoadsFault m (nb+nh) b c D/\Below w.heap.size w w':=by
 have HL:=Hi hl;clear hl;obtain⟨n,f⟩:=nm w.heap.size;obtain⟨V,B⟩:=nm ((w.alloc (.cells #[.slice A m c1,.slice W nb c2,.slice X nh c3] 26)).alloc (.cells #[.int .i64 0,.int .i64 0] 31));have d:=Ub B;have t:=Ug B f;have g:=Uh B f;obtain⟨y,E⟩:=nm (nb+nh);have ei:(nb:Int)+(nh:Int)=(y:Int):=by omega
 obtain⟨-,x1,x2,-⟩:=zc t.o;obtain⟨J,y1,-⟩:=zc g.o;have K:=g.o.free 0;have L:=g.o.free 1;rw[<-B,<-f] at x1 x2 J y1 K L;obtain⟨F,q,G⟩:=Ib B f E;have r:w.heap.size<=n+1:=by omega
 have O:y<=44:=by omega
 clear B f E;go_enter func58,ntmps58;by_cases P:20<b.length
 .
  have Q:(20:Int)<(b.length:Int):=by omega
  go_wp2;simp only[F.o,q.o,ei];refine bodyPost_ret (results_cell_row rfl _ _ (n+1) 31 #[.int .i64 2,.int .i64 (y:Int)] (0,0) _ rfl (by rw[<-q.o];exact Qa1 w _ _ _) underlying31 rfl Tryz.faultInfo) rfl ?_;exact⟨2,(y:Nat),rfl,.inl ⟨P,rfl,by rw[G.o]⟩,(by have:=q.o;subst this;exact Below.new2 _ _ _)⟩
 .
  have Q:¬((20:Int)<(b.length:Int)):=by omega
  go_wp2_with fail;simp only[F.o,q.o,ei];clear x1 x2 J y1 K L;go_loopw [21] (fun R wr=>∃k:Nat,k<=b.length/\R=.int .i64 k/\(∀(i:Nat) (x:L3),i<k->b[i]?=some x->IsJ m x.j)/\Below V.heap.size V wr) (fun R _=>b.length - (intOf R).toNat)
  case atStart=>exact⟨0,by omega,rfl,fun i x hi=>by omega,Below.refl _ _⟩
  case round=>
   obtain⟨k,hk,rfl,s,M⟩:=hrel;obtain⟨S,N,HX,a⟩:=Ic s M (t.o.below M t.o.lt) (g.o.below M g.o.lt);clear s M;by_cases T:k<b.length
   .
    obtain⟨l,hl⟩:∃l,b[k]?=some l:=⟨b[k],gE T⟩;obtain⟨lb,lo,rfl,ab,d0,d1,d2⟩:=(HL.o.below (d.o.trans (N.o.mono d.o.size))).load hl;obtain⟨x0,-⟩:=zc HX.o;have q1:((k:Int)<(b.length:Int)):=by omega
    have H:=Hi hl;have wE:IntKind.i64.wrap ((y:Int)+(k:Int))=(y:Int)+(k:Int):=wrap_i64 _ (by omega) (by omega);clear hl;by_cases C:IsJ m l.j
    .
     obtain⟨U,z⟩:=Ia (fun u=>Qbc A m c1 l.j u C) C;clear C;go_wp2_with fail;go_region_held3 (fun v=>v.cell? ⟨n,0,none⟩=some (.slice A m c1)/\v.cell? ⟨lb,lo+k*3,none⟩=some (.int .i64 l.j)) ((first|(simp [*];done)|go_keep)) (first
      |(
       go_at_call 99;apply cM;apply U.o
       rintro e v1 ⟨rfl,rfl⟩)
      |fail)
     go_wp2;go_roundw
     case rel=>
      refine⟨k+1,by omega,by go_num,fun i x hi I=>?_,N.o.drew⟩;rcases Nat.lt_or_ge i k with h|h
      . exact S.o i x h I
      .
       obtain rfl:i=k:=by omega
       rw[<-Option.some.inj (H.o.symm.trans I)];exact z.o
     case measure=>simp[intOf];omega
    .
     obtain⟨U,z⟩:=Ia (fun u=>Qeo A m c1 l.j u C) C;obtain⟨J,y1,-⟩:=zc a.o;have K:=a.o.free 0;have L:=a.o.free 1;clear C;go_wp2_with fail;go_region_held3 (fun v=>v.cell? ⟨n,0,none⟩=some (.slice A m c1)/\v.cell? ⟨lb,lo+k*3,none⟩=some (.int .i64 l.j)) ((first|(simp [*];done)|go_keep)) (first
      |(
       go_at_call 99;apply cM;apply U.o
       rintro e v1 ⟨rfl,rfl⟩)
      |fail)
     go_wp2;refine bodyPost_ret (results_cell_row rfl _ _ (n+1) 31 #[.int .i64 (4),.int .i64 ((y:Int)+(k:Int))] (0,0) _ rfl ((a.o.set 0 _).set 1 _) underlying31 rfl Tryz.faultInfo) rfl ?_;exact⟨4,_,rfl,.inr ⟨by omega,.inl ⟨k,l,H.o,S.o,z.o,rfl,by rw[G.o]⟩⟩,(((d.o.trans (N.o.mono d.o.size)).setCell (p:=⟨n+1,0,none⟩) r _).setCell (p:=⟨n+1,1,none⟩) r _).drew⟩
   .
    obtain rfl:k=b.length:=by omega
    obtain⟨J,y1,-⟩:=zc a.o;have K:=a.o.free 0;have L:=a.o.free 1;go_wp2;refine bodyPost_ret (results_cell_row rfl _ _ (n+1) 31 #[.int .i64 (0),.int .i64 (0)] (0,0) _ rfl ((a.o.set 0 _).set 1 _) underlying31 rfl Tryz.faultInfo) rfl ?_;exact⟨0,0,rfl,.inr ⟨by omega,.inr ⟨fun i x I=>S.o i x (gZ I).1 I,rfl,rfl⟩⟩,((d.o.trans (N.o.mono d.o.size)).setCell (p:=⟨n+1,0,none⟩) r _).setCell (p:=⟨n+1,1,none⟩) r _⟩
end Go.Proofs.YtppkmifkpjkgpaaGreatDoor
