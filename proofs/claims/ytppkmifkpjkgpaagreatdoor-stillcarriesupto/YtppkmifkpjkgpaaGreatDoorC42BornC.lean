import Derived.Test.YtppkmifkpjkgpaaGreatDoorC41PlnF
namespace Go.Proofs.YtppkmifkpjkgpaaGreatDoor
open Go.RowKit
open Go.Proofs.Tryz
set_option linter.unusedSimpArgs false
set_option linter.unusedVariables false
set_option maxHeartbeats 8000000
set_option maxRecDepth 1000000
def LoadsOfSays(js:List S2)(bs:List B6)(hs:List H3)(ls:List L3)(vs:List (Nat × Rat × Rat))(w:Vz)(e:Ending)(w':Vz):Prop:=
 Below w.heap.size w w'/\∃(lv:Value) (c at_:Int),e=.returned (.tuple #[lv,.agg #[.int .i64 c,.int .i64 at_]])/\
  ((c≠0/\FrameFault js bs hs c at_/\lv=.slice none 0 0)∨
   (FrameFault js bs hs 0 0/\LoadsFault js.length (bs.length+hs.length) ls c at_/\((c≠0/\lv=.slice none 0 0)∨
     (c=0/\at_=0/\∃(g N:Nat) (ts:List RT),N=2*js.length/\lv=.slice (some ⟨g,0,none⟩) N N/\PBlk w' g ts/\ts.length=N/\∀(i:Nat) (t:RT),ts[i]?=some t->t.2.1= -agn vs i/\t.2.2<=kL 20))))
theorem LoadsFault.zero{b c:Nat}{a:List L3}{x:Int}(h:LoadsFault b c a 0 x):a.length<=20/\(∀(i:Nat) (y:L3),a[i]?=some y->IsJ b y.j)/\x=0:=by
 rcases h with ⟨_,h,_⟩|⟨d,⟨_,_,_,_,_,h,_⟩|⟨e,_,f⟩⟩
 . cases h
 . cases h
 . exact⟨d,e,f⟩
theorem Qpw(F H I Y:Vx)(c1 c2 c3 Z:Nat)(v:List S2)(x:List B6)(y:List H3)(E:List L3)(vs:List (Nat × Rat × Rat))(w:Vz)(hg:Glob w)(hf:FrRow w F H I c1 c2 c3 v x y)(hz:FrSized v x y)(hl:ARow L3.cells w Y Z E)(hv:LVal E vs)(aa:E.length<=1048576):
 Calls prog 21 #[.agg #[.slice F v.length c1,.slice H x.length c2,.slice I y.length c3],.slice Y E.length Z] w (LoadsOfSays v x y E vs w):=by
 obtain⟨HG,HF,HZ,HL,ab⟩:=Id hg hf hz hl hv;clear hg hf hz hl hv;obtain⟨b,l⟩:=nm w.heap.size;obtain⟨V,J⟩:=nm ((w.alloc (.cells #[.slice F v.length c1,.slice H x.length c2,.slice I y.length c3] 26)).alloc (.cells #[.int .i64 0,.int .i64 0] 31));have m:=Ub J;have K:=Ug J l;have z:=Uh J l;obtain⟨ad,ae⟩:=Ia J l;have d:w.heap.size<=b+1:=by omega
 have L:=Hi (Qs1 F H I c1 c2 c3 v x y V (HG.o.below m.o) (HF.o.below m.o) HZ.o);clear J l;go_enter func21,ntmps21;go_wp2_with fail;rw[ad.o];simp only[ae.o];go_fit L.o;rintro e w1 ⟨c,A,rfl,M,q⟩;obtain⟨U,O⟩:=nm (w1.alloc (.cells #[.int .i64 c,.int .i64 A] 31));obtain⟨G,hG⟩:=nm w1.heap.size;have a:Below V.heap.size V U:=by rw[<-O];exact q.alloc q.size _
 obtain⟨am,j,af,f⟩:=Ic a (m.o.trans (a.mono m.o.size)) (K.o.below a K.o.lt) (z.o.below a z.o.lt);have ag:=Uf O hG;have r:=Hi M;obtain⟨p0,p1,-⟩:=zc ag.o;obtain⟨x0,x1,x2,-⟩:=zc af.o;obtain⟨z0,z1,-⟩:=zc f.o;have f0:=f.o.free 0;have f1:=f.o.free 1;have P:b+1≠G:=by have h1:=z.o.lt;have h2:=q.size;omega
 obtain⟨Q,an⟩:=Ia O hG;rw[<-O] at p0 p1 x0 x1 x2 z0 z1 f0 f1;rw[<-hG] at p0 p1 P;clear a M O hG q L;by_cases hc:c=0
 .
  subst hc;obtain⟨s,_,_,rfl⟩:=r.o.few;have n1:v.length<=10:=Nat.le_of_not_lt fun h=>s (.inr (.inl h))
  have n2:x.length<=24:=Nat.le_of_not_lt fun h=>s (.inr (.inr (.inl h)))
  have n3:y.length<=20:=Nat.le_of_not_lt fun h=>s (.inr (.inr (.inr h)))
  have ah:=Hi (Qpv F H I Y c1 c2 c3 Z v.length x.length y.length E vs U (HG.o.below j.o).most (HL.o.below j.o) ab.o n1 n2 n3 aa);clear s;go_wp2_with fail;rw[Q.o];clear p0 p1 x0 x1 x2 z0 z1 f0 f1 P;go_fit ah.o;rintro e w2 ⟨B,c',x',R,S⟩;obtain⟨C,T⟩:=Ia R (j.o.trans (B.mono j.o.size));have k:=f.o.below B f.o.lt;obtain⟨z0,z1,-⟩:=zc k;have f0:=k.free 0;have f1:=k.free 1;have u:=Hi k;clear k R B;rcases S with ⟨ai,rfl⟩|⟨rfl,g,N,ts,hN,rfl,W,X,hq⟩
  .
   go_wp2;refine bodyPost_ret (Qbe rfl _ _ (b+1) 31 #[.int .i64 c',.int .i64 x'] (0,0) _ rfl ((u.o.set 0 _).set 1 _) underlying31 rfl Tryz.faultInfo) rfl ?_;exact⟨(T.o.setCell (p:=⟨b+1,0,none⟩) d _).setCell (p:=⟨b+1,1,none⟩) d _,_,c',x',rfl,.inr ⟨r.o,C.o,.inl ⟨ai,rfl⟩⟩⟩
  .
   obtain⟨D,aj,HQ,HN⟩:=Ic W X hq hN;have ak:=C.o.zero.2.2;subst ak;clear W X hq hN;go_wp2;refine bodyPost_ret (Qbe rfl _ _ (b+1) 31 #[.int .i64 0,.int .i64 0] (0,0) _ rfl ((u.o.set 0 _).set 1 _) underlying31 rfl Tryz.faultInfo) rfl ?_;have ho:Only (b+1) w2 ((w2.setCell ⟨b+1,0,none⟩ (.int .i64 0)).setCell ⟨b+1,1,none⟩ (.int .i64 0)):=((Only.refl _ _).setCell _ _).setCell _ _;refine⟨(T.o.setCell (p:=⟨b+1,0,none⟩) d _).setCell (p:=⟨b+1,1,none⟩) d _,_,0,0,rfl,.inr ⟨r.o,C.o,.inr ⟨rfl,rfl,g,N,ts,HN.o,rfl,⟨D.o.blk.only ho (D.o.blk.unlike u.o (by decide)),fun t ht=>?_⟩,aj.o,HQ.o⟩⟩⟩;obtain⟨v1,v2,v3⟩:=D.o.vs t ht;exact⟨v1.only32 ho u.o (by decide) (fun i n h=>by match i,h with|0,h=>simp at h|1,h=>simp at h|i+2,h=>simp at h),v2,v3⟩
 .
  have e0:(c != 0)=true:=by simpa using hc
  go_wp2;go_region
  all_goals
   go_wp2;rw[Q.o];refine bodyPost_ret (Qbe rfl _ _ (b+1) 31 #[.int .i64 c,.int .i64 A] (0,0) _ rfl ((f.o.set 0 _).set 1 _) underlying31 rfl Tryz.faultInfo) rfl ?_;exact⟨((j.o.setCell (p:=⟨b+1,0,none⟩) d _).setCell (p:=⟨b+1,1,none⟩) d _).drew,_,c,A,rfl,.inl ⟨hc,r.o,rfl⟩⟩
end Go.Proofs.YtppkmifkpjkgpaaGreatDoor
namespace Go.Proofs.YtppkmifkpjkgpaaGreatDoor
open Go.ChangeShapes Go.WideShapes Go.ChangeAt Go.RowKit
open Go.Proofs.Tryz
set_option linter.unusedSimpArgs false
set_option linter.unusedVariables false
set_option maxHeartbeats 8000000
set_option maxRecDepth 1000000
theorem Qgu:prog.cellsOf 62=3:=by kernel_rfl
theorem Quc:prog.readableRec 59=true:=by kernel_rfl
theorem Qud:59<prog.types.size:=by refine of_decide_eq_true ?_;kernel_rfl
section
variable {H:Type} {enc:TypeId × Value->H} {W:Vz}
theorem Qkx{P:Program}{w:Vz}{c:Nat}{b:Nat->Bool}{d:Bool}{e:Nat}{g i j f:Vr}{f0 f1 k m:Field}{o:Vv}{x:DataW H × List MemPlace}(A:P.underlying g=some (.struct #[f0,f1]))(B:P.underlying i=some (.int .i64))(C:P.underlying j=some (.struct #[k,m]))(D:P.underlying f=some .string)(E:P.cellsOf g=3)(F:P.cellsOf i=1)(z:P.cellsOf j=2)(G:P.cellsOf f=1)
 (t0:f0.type=i) (t1:f1.type=j) (I:f0.offset=0) (J:f1.offset=1) (K:k.type=f) (L:m.type=f) (M:k.offset=0) (N:m.offset=1)
 (h:DataW.trod enc P w c b d e g o=some x):∃l:L3,o=l.cells/\x.1=loadD l:=by
 obtain⟨xs,n,rfl,rfl,hl,p,q⟩:=DataW.trod_struct A h;rw[E] at hl;clear h;have r:=q 0 f0 rfl;have u:=q 1 f1 rfl;rw[t0,I,F] at r;rw[t1,J,z] at u;clear q
 match o,hl,xs,p with
 | [v0,v1,v2],_,[y0,y1],_=>
   simp only[List.drop_zero,List.drop_succ_cons,List.take_succ_cons,List.take_zero,List.getElem?_cons_zero,List.getElem?_cons_succ] at r u;obtain⟨a,O,rfl,_⟩:=DataW.trod_int B r;obtain⟨s,t,v,Q,_⟩:=Qgm C D z G K L M N u;obtain rfl:v0=_:=by simpa using O
   injection v with v y
   injection y with y _
   subst v y;refine⟨⟨a,s,t⟩,rfl,?_⟩
   show DataW.agg [_,y1.1]=_
   rw[Q];rfl
theorem Qky(l:L3):1<=Rows.uptoBulk (loadD (H:=H) l)/\l.x.size+l.y.size<=Rows.uptoBulk (loadD (H:=H) l):=by
 simp[loadD,textD,Rows.uptoBulk,Rows.uptoBulkAll];omega
theorem Qkz:∀a:List S2,jW a<=Rows.uptoBulkAll (a.map (spotD (H:=H)))
 | []=>by simp[jW,Rows.uptoBulkAll]
 |s :: l=>by
  have b:=Qkz l;have c:=(Qgs (H:=H) s).2;simp only[jW,List.map_cons,Rows.uptoBulkAll];omega
theorem Qk0:∀a:List L3,lW a<=Rows.uptoBulkAll (a.map (loadD (H:=H)))
 | []=>by simp[lW,Rows.uptoBulkAll]
 |s :: l=>by
  have b:=Qk0 l;have c:=(Qky (H:=H) s).2;simp only[lW,List.map_cons,Rows.uptoBulkAll];omega
theorem Que{a:Vx}{n c:Nat}{d:DataW H}{i:List MemPlace}(h:DataW.Trod enc prog W 0 (fun _=>true) true 59 (.slice a n c) d i):
 ∃b:List L3,n=b.length/\ARow L3.cells W a c b/\Rows.uptoBulkAll (b.map (loadD (H:=H)))<=Rows.uptoBulk d:=by
 obtain⟨f,h⟩:=h;obtain⟨j,k,b,e,l,hl,m⟩:=Qek (c:=L3.cells) (dat:=loadD) (sz:=3) ⟨0,⟨#[]⟩,⟨#[]⟩⟩ (by decide) (fun _=>rfl) underlying59 Qgu (fun f s x o=>Qkx underlying62 underlying3 underlying56 underlying54 Qgu cellsInt Qda Qbv rfl rfl rfl rfl rfl rfl rfl rfl o) h;have g: [Value.slice a n c]= [Value.slice j b.length k]:=e;injection g with g _
 injection g with p q r
 subst p q r;exact⟨b,rfl,l,Qdb lZ hl m⟩
end
end Go.Proofs.YtppkmifkpjkgpaaGreatDoor
namespace Go.Proofs.YtppkmifkpjkgpaaGreatDoor
open Go.RowKit
open Go.Proofs.Tryz
set_option linter.unusedSimpArgs false
set_option linter.unusedVariables false
set_option maxHeartbeats 8000000
set_option maxRecDepth 1000000
theorem zeroQ:∀w,(zeroValue 54).run prog w=.ok (.string ⟨#[]⟩) w:=by
 intro w;have a:(prog.info? 54).map (·.zero)=some (some (.string ⟨#[]⟩)):=by kernel_rfl
 obtain⟨i,b,h⟩:=Option.map_eq_some_iff.1 a;simp[zeroValue,typeInfo,b,h]
theorem Qvg(w:Vz):Calls prog 25 #[.slice none 0 0] w fun e w'=>e=.returned (.tuple #[])/\w'=w:=by
 go_enter func25,ntmps25;have a:∀(w:Vz) ty,(Builtin.clear_ #[48] ty #[.slice none 0 0]).run prog w=.ok (.tuple #[]) w:=fun w ty=>by simp[Builtin.clear_,underlying,underlying48]
 go_wp2;go_end0;exact⟨rfl,rfl⟩
theorem Qvh(g n:Nat)(C:Vw)(w:Vz)(a:SB w g 54 C)(f:C.size=n)(l:n<=1000):
 Calls prog 25 #[.slice (some ⟨g,0,none⟩) n n] w fun e w'=>e=.returned (.tuple #[])/\Only g w w'/\∃b,SB w' g 54 b/\b.size=n:=by
 have h:O (Only g w (w.setCells g 0 (List.replicate n (.string ⟨#[]⟩)))/\∃b,SB (w.setCells g 0 (List.replicate n (.string ⟨#[]⟩))) g 54 b/\b.size=n):=Hi ⟨(SB.cells _ 0 a).2,_,(SB.cells _ 0 a).1,by rw[Qcp];exact f⟩;have d:∀ty,(Builtin.clear_ #[48] ty #[.slice (some ⟨g,0,none⟩) n n]).run prog w=.ok (.tuple #[]) (w.setCells g 0 (List.replicate n (.string ⟨#[]⟩))):=fun ty=>by
  rcases Nat.eq_zero_or_pos n with rfl|i
  . simp[Builtin.clear_,underlying,underlying48,World.setCells]
  .
   exact Lib.run_clear_slice w _ _ ty _ underlying48 zeroQ rfl rfl g 0 n n i (fun j k=>by
    rw[Nat.zero_add,a.cell,Array.getElem?_eq_getElem (by omega)]
    rfl) (fun j k=>a.free _)
 obtain⟨w1,c⟩:=nm (w.setCells g 0 (List.replicate n (.string ⟨#[]⟩)));rw[c] at h d;clear a f c;go_enter func25,ntmps25;go_wp2;go_end0;exact⟨rfl,h.o⟩
theorem Qnc:(prog.info? 103).map (fun i=>(i.zero,i.size,i.bytes))=some (some (.slice .none 0 0),1,24):=by kernel_rfl
theorem Qnd(n:Nat):madeCells (Value.cells (.slice none 0 0)) n=(List.replicate n (Value.slice none 0 0)).toArray:=by
 have e:Value.cells (.slice none 0 0)=#[.slice none 0 0]:=by rfl
 rw[e];apply Array.ext';rw[toList_madeCells_one]
theorem Qne(n:Nat)(e:n<=1048576)(w:Vz):(Instr.makeSlice 44 (.int .i64 n) (.int .i64 n)).run prog w=.ok (.slice (some ⟨w.heap.size,0,.none⟩) n n) (w.alloc (.cells (List.replicate n (Value.slice none 0 0)).toArray 103)):=by
 obtain⟨i,a,h⟩:=Option.map_eq_some_iff.1 Qnc;simp only[Prod.mk.injEq] at h;obtain⟨b,c,d⟩:=h;have:=run_make w 44 103 i _ underlying44 a b .i64 .i64 n n (by omega) (by omega) (by rw[d];omega) (by omega);rw[Int.toNat_natCast,c,Nat.mul_one,Qnd] at this;exact this
theorem PGrow.keep{w w':Vz}{B:Nat}{v:Value}{ts:List RT}(h:PGrow w B v ts)(hk:∀b,v.ownBlock=some b->w'.heap[b]?=w.heap[b]?)(c:∀b q,RatVal w b q->RatVal w' b q):PGrow w' B v ts:=
 ⟨h.list.keep hk,fun t a=>⟨c _ _ (h.vs t a).1,(h.vs t a).2⟩⟩
theorem PGrow.ptr{w:Vz}{B b:Nat}{v:Value}{ts:List RT}(h:PGrow w B v ts)(a:v.ownBlock=some b):∃C,SB w b 84 C:=by
 obtain⟨C,c,_⟩:=h.list.sb a;exact⟨C,c⟩
theorem SB.same{w w':Vz}{b:Nat}{t:Vr}{C:Vw}(h:SB w b t C)(e:w'.heap[b]?=w.heap[b]?):SB w' b t C:=by
 unfold SB at h ⊢;rw[e];exact h
structure GR (w:Vz) (B g:Nat) (vs:Vv) (tss:List (List RT)):Prop where
 blk:SB w g 103 vs.toArray
 low:B<=g
 len:tss.length=vs.length
 row:∀(i:Nat) (v:Value) (ts:List RT),vs[i]?=some v->tss[i]?=some ts->PGrow w B v ts
 apart:∀(i j:Nat) (u v:Value) (b:Nat),i≠j->vs[i]?=some u->vs[j]?=some v->u.ownBlock=some b->v.ownBlock≠some b
section
variable {w w':Vz} {B g:Nat} {vs:Vv} {tss:List (List RT)}
theorem GR.below(h:GR w B g vs tss)(a:Below w.heap.size w w'):GR w' B g vs tss:=⟨h.blk.below a h.blk.lt,h.low,h.len,fun i v ts b c=>(h.row i v ts b c).below a,h.apart⟩
theorem GR.start(w:Vz)(n:Nat):GR (w.alloc (.cells (List.replicate n (Value.slice none 0 0)).toArray 103)) w.heap.size w.heap.size (List.replicate n (Value.slice none 0 0)) (List.replicate n []):=by
 refine⟨SB.new _ _ _,Nat.le_refl _,by simp,fun i v ts a c=>?_,fun i j u v b _ d _ e=>?_⟩
 .
  obtain⟨_,rfl⟩:=List.mem_replicate.1 (mO a);obtain⟨_,rfl⟩:=List.mem_replicate.1 (mO c);exact PGrow.nil _ _
 . obtain⟨_,rfl⟩:=List.mem_replicate.1 (mO d)
   cases e
theorem GR.get(h:GR w B g vs tss){i:Nat}{v:Value}(b:vs[i]?=some v):∃ts,tss[i]?=some ts/\PGrow w B v ts/\w.cell? ⟨g,i,none⟩=some v/\∃a c,v=.slice a ts.length c:=by
 obtain⟨ts,d⟩:∃ts,tss[i]?=some ts:=⟨_,gE (by rw[h.len];exact(gZ b).1)⟩;have f:=h.row i v ts b d;obtain⟨a,c,e,_⟩:=f.row;exact⟨ts,d,f,by rw[h.blk.cell];simpa using b,a,c,e⟩
theorem GR.sl(h:GR w B g vs tss){v:Value}(b:v∈ vs):IsSl v:=by
 obtain⟨i,d⟩:=List.getElem?_of_mem b;obtain⟨ts,_,_,_,a,c,e⟩:=h.get d;exact⟨_,_,_,e⟩
theorem GR.own_ne(h:GR w B g vs tss){v:Value}{b:Nat}(a:v∈ vs)(c:v.ownBlock=some b):b≠g/\b<w.heap.size:=by
 obtain⟨i,d⟩:=List.getElem?_of_mem a;obtain⟨ts,_,e,_⟩:=h.get d;obtain⟨C,hC⟩:=e.ptr c;exact⟨hC.unlike h.blk Qea,hC.lt⟩
theorem Qcs{α:Type}{l:List α}{i j:Nat}{x y:α}(h:(l.set i x)[j]?=some y):(j=i/\x=y)∨(j≠i/\l[j]?=some y):=by
 by_cases e:j=i
 .
  subst e;have hl:=(gZ h).1;rw[List.getElem?_set_self (by simpa using hl)] at h;exact .inl ⟨rfl,Option.some.inj h⟩
 . rw[List.getElem?_set_ne (Ne.symm e)] at h
   exact .inr ⟨e,h⟩
theorem GR.app{i pb K:Nat}{q:Rat}{v:Value}{ts:List RT}(h:GR w B g vs tss)(G:vs[i]?=some v)(V:tss[i]?=some ts)(hq:RatVal w pb q)(hf:Fits q K)(hK:0<K)(hn:ts.length<=1000)(hB:B<=w.heap.size)(ty:Vr):
 ∃o w',appR prog 103 ty v (.slice (some ⟨w.heap.size,0,none⟩) 1 1) (w.alloc (.cells #[.pointer (some ⟨pb,0,none⟩)] 84))=.ok o w'/\w'.cell? ⟨g,i,none⟩=some v/\w'.frozen? ⟨g,i,none⟩=false/\(∃a c,o=.slice a (ts.length+1) c)/\
  GR (w'.setCell ⟨g,i,none⟩ o) B g (vs.set i o) (tss.set i (ts++ [(pb,q,K)]))/\Below B w w'/\(∀b q,RatVal w b q->RatVal (w'.setCell ⟨g,i,none⟩ o) b q)/\
  ∀r,(∀u,u∈ vs->u.ownBlock≠some r)->r<w.heap.size->r≠g->(w'.setCell ⟨g,i,none⟩ o).heap[r]?=w.heap[r]?/\∀u,u∈ vs.set i o->u.ownBlock≠some r:=by
 obtain⟨Y,W⟩:=nm (w.alloc (.cells #[.pointer (some ⟨pb,0,none⟩)] 84));have f:Below w.heap.size w Y:=by rw[<-W];exact(Below.refl _ _).alloc lZ _
 have X:Y.cell? ⟨w.heap.size,0,none⟩=some (.pointer (some ⟨pb,0,none⟩)):=by rw[<-W];exact Qa8 w _ _
 rw[W];have y:=h.below f;have hp:=y.row i v ts G V;obtain⟨o,w',S,z,Z,T,H,U⟩:=hp.appT (t:=103) (us:=[(pb,q,K)]) (nb:=w.heap.size) (c:=1) (m:=1) underlying103 (fun t V=>by
  obtain rfl:=List.mem_singleton.1 V
  exact⟨hq.below f,hf,hK⟩) rfl (fun j u I=>by
  match j,I with
  |0,I=>
   obtain rfl:Value.pointer (some ⟨pb,0,none⟩)=u:=by simpa [ptrV] using I
   rw[Qaq]
   exact X) (by omega) (Nat.le_trans hB f.size) ty
 have A:=mO G;have n:∀b,b<Y.heap.size->v.ownBlock≠some b->w'.heap[b]?=Y.heap[b]?:=fun b d J=>H.block b d (fun e=>J e.symm)
 have l:SB w' g 103 vs.toArray:=y.blk.same (n g y.blk.lt (fun e=>(y.own_ne A e).1 rfl));have ho:Only g w' (w'.setCell ⟨g,i,none⟩ o):=(Only.refl g w').setCell _ _;have aa:∀u,u∈ vs.toArray.toList->IsSl u:=fun u p=>h.sl (by simpa using p)
 have L:∀b q,RatVal w' b q->RatVal (w'.setCell ⟨g,i,none⟩ o) b q:=fun b q d=>d.fs (Fs.of_only ho l aa)
 have s:∀b,b≠g->b<w'.heap.size->(w'.setCell ⟨g,i,none⟩ o).heap[b]?=w'.heap[b]?:=fun b d hl=>ho.block b hl d
 have ab:=(gZ G).1;have M:∀b,o.ownBlock=some b->v.ownBlock=some b∨(v.ownBlock≠some b/\Y.heap.size=b):=fun b d=>by
  rcases U with e|e
  . exact .inl (e ▸ d)
  .
   rw[e] at d;obtain rfl:=Option.some.inj d;exact .inr ⟨fun R=>by have:=(y.own_ne A R).2;omega,rfl⟩
 obtain⟨na,nc,ad,_⟩:=z.row;refine⟨o,w',S,by rw[l.cell];simpa using G,l.free i,⟨na,nc,by simpa using ad⟩,⟨?_,h.low,by simp[h.len],fun j u us p D=>?_,fun j k u x b E p hx d=>?_⟩,?_,fun b q d=>L b q ((d.below f).fp T),fun r N O J=>⟨?_,fun u p=>?_⟩⟩
 . have:=l.set i o
   simpa using this
 .
  rcases Qcs p with ⟨rfl,rfl⟩|⟨I,p⟩
  .
   rw[List.getElem?_set_self (by rw[h.len];exact ab)] at D;obtain rfl:=Option.some.inj D;refine z.keep (fun b d=>s b ?_ (z.list.lt d).2) L;obtain⟨C,hC⟩:=z.ptr d;exact hC.unlike l Qea
  .
   rw[List.getElem?_set_ne (Ne.symm I)] at D;have P:=y.row j u us p D;refine(P.keep (w':=w') (fun b d=>n b (P.list.lt d).2 (fun e=>y.apart i j v u b (Ne.symm I) G p e d)) (fun b q d=>d.fp T)).keep (fun b d=>s b (y.own_ne (mO p) d).1 ?_) L;exact Nat.lt_of_lt_of_le (P.list.lt d).2 H.size
 .
  rcases Qcs p with ⟨ej,eu⟩|⟨I,Q⟩
  .
   rcases Qcs hx with ⟨ek,_⟩|⟨hk,F⟩
   . exact absurd (ej.trans ek.symm) E
   .
    rw[<-eu] at d;rcases M b d with e|⟨_,e⟩
    . exact h.apart i k v x b (by rw[<-ej];exact E) G F e
    . exact fun R=>by have:=(y.own_ne (mO F) R).2;omega
  .
   rcases Qcs hx with ⟨ek,ex⟩|⟨hk,F⟩
   .
    intro R;rw[<-ex] at R;rcases M b R with e|⟨_,e⟩
    . exact h.apart i j v u b (by rw[<-ek];exact Ne.symm E) G Q e d
    . have:=(y.own_ne (mO Q) d).2
      omega
   . exact h.apart j k u x b E Q F d
 . exact(f.mono hB).trans Z
 . rw[s r J (Nat.lt_of_lt_of_le O (Nat.le_trans f.size H.size)),n r (Nat.lt_of_lt_of_le O f.size) (N v A),f.block r O]
 .
  rcases List.mem_or_eq_of_mem_set p with p|rfl
  . exact N u p
  .
   intro e;rcases M r e with e|⟨_,e⟩
   . exact N v A e
   . have:=f.size
     omega
theorem GR.pmat(h:GR w B g vs tss)(O:∀ts,ts∈ tss->0<ts.length):∃rs:List PR,rs.length=vs.length/\rs.map PR.ts=tss/\PMat w B g [] rs:=by
 have hex:∀i:Nat,∃r:PR,∀v ts,vs[i]?=some v->tss[i]?=some ts->r.ts=ts/\r.val=v/\v.ownBlock=some r.b/\SB w r.b 84 r.cells.toArray/\B<=r.b/\(∀u,u∈ r.sp->IsPt u)/\r.ts.length<=r.cap:=fun i=>by
  rcases q:vs[i]? with _|v
  . exact⟨⟨0,0,[],[]⟩,fun v ts q=>by cases q⟩
  obtain⟨ts,t,K,_⟩:=h.get q;have U:=O ts (mO t);rcases K.list.own.2 with ⟨_,e⟩|⟨b,cap,m,rfl,x,L,A,P,Q,k⟩
  . omega
  rw[Nat.mul_one] at k;have n:ts.map ptrV++m.toList.drop ts.length=m.toList:=by
   rw[<-k];exact List.take_append_drop _ _
  refine⟨⟨b,cap,ts,m.toList.drop ts.length⟩,fun M D E F=>?_⟩;obtain rfl:=Option.some.inj E;obtain rfl:=Option.some.inj (t.symm.trans F);refine⟨rfl,rfl,rfl,?_,x,fun u G=>?_,A⟩
  .
   show SB w b _ (ts.map ptrV++m.toList.drop ts.length).toArray
   rw[n];exact L
  .
   obtain⟨C,hC,R⟩:=K.list.all b rfl;rw[L] at hC;injection hC with hC
   injection hC with hC _ _
   subst hC;exact R u (List.mem_of_mem_drop G)
 obtain⟨f,S⟩:=Classical.axiomOfChoice hex;have d:∀i,i<vs.length->∃v ts,vs[i]?=some v/\tss[i]?=some ts/\(f i).ts=ts/\(f i).val=v/\v.ownBlock=some (f i).b/\SB w (f i).b 84 (f i).cells.toArray/\B<=(f i).b/\(∀u,u∈ (f i).sp->IsPt u)/\(f i).ts.length<=(f i).cap:=fun i c=>by
  have q:=gE c;obtain⟨ts,t,_⟩:=h.get q;exact⟨_,ts,q,t,S i _ ts q t⟩
 have y:((List.range vs.length).map f).map PR.val=vs:=by
  apply List.ext_getElem?;intro i;rw[List.map_map,List.getElem?_map];rcases Nat.lt_or_ge i vs.length with c|c
  .
   obtain⟨v,ts,s,_,_,o,_⟩:=d i c;rw[List.getElem?_range c,s];simp[o]
  . rw[List.getElem?_eq_none c,List.getElem?_eq_none (by simpa using c)]
    rfl
 have p:∀r,r∈ (List.range vs.length).map f->∃i,i<vs.length/\f i=r:=fun r z=>by
  obtain⟨i,c,rfl⟩:=List.mem_map.1 z;exact⟨i,List.mem_range.1 c,rfl⟩
 refine⟨(List.range vs.length).map f,by simp,?_,⟨?_,(fun u G=>by cases G),h.low,fun r z=>?_,fun r z=>?_,fun i j a b H I x=>?_⟩⟩
 .
  apply List.ext_getElem?;intro i;rw[List.map_map,List.getElem?_map];rcases Nat.lt_or_ge i vs.length with c|c
  .
   obtain⟨v,ts,_,s,o,_⟩:=d i c;rw[List.getElem?_range c,s];simp[o]
  . rw[List.getElem?_eq_none (l:=tss) (by rw[h.len];exact c),List.getElem?_eq_none (by simpa using c)]
    rfl
 . rw[y,List.append_nil]
   exact h.blk
 .
  obtain⟨i,c,rfl⟩:=p r z;obtain⟨v,ts,_,_,_,_,_,o⟩:=d i c;exact o
 .
  obtain⟨i,c,rfl⟩:=p r z;obtain⟨v,ts,s,o,J,_⟩:=d i c;rw[J];exact(h.row i v ts s o).vs
 .
  have c:i<vs.length:=by simpa using (gZ I).1
  have N:j<vs.length:=by simpa using (gZ x).1
  rw[List.getElem?_map,List.getElem?_range c] at I;rw[List.getElem?_map,List.getElem?_range N] at x;obtain rfl:=Option.some.inj I;obtain rfl:=Option.some.inj x;obtain⟨v,ts,s,_,_,_,o,_⟩:=d i c;obtain⟨M,D,J,_,_,_,T,_⟩:=d j N;intro e;exact h.apart i j v M _ H s J o (by rw[e];exact T)
end
def Bals(M:Nat->Vec)(K i k:Nat)(tss:List (List RT)):Prop:=∀(r:Nat) (ts:List RT),tss[r]?=some ts->ts.length=(if r<i then k+1 else k)/\∀(c:Nat) (t:RT),ts[c]?=some t->t.2.1=M r c/\t.2.2=K
theorem Bals.step{M:Nat->Vec}{K i k pb:Nat}{a:List (List RT)}{ts:List RT}{q:Rat}(h:Bals M K i k a)(l:a[i]?=some ts)(m:q=M i k):Bals M K (i+1) k (a.set i (ts++ [(pb,q,K)])):=by
 intro r us b;have f:=h i ts l;rw[if_neg (Nat.lt_irrefl _)] at f;rcases Qcs b with ⟨rfl,rfl⟩|⟨n,b⟩
 .
  rw[if_pos (Nat.lt_succ_self _),List.length_append,f.1];refine⟨rfl,fun c t d=>?_⟩;rcases Nat.lt_or_ge c ts.length with hl|hl
  . rw[List.getElem?_append_left hl] at d
    exact f.2 c t d
  .
   have g:=(gZ d).1;rw[List.length_append,List.length_singleton] at g;obtain rfl:c=ts.length:=by omega
   rw[List.getElem?_append_right lZ,Nat.sub_self] at d;obtain rfl:=Option.some.inj d;rw[f.1];exact⟨m,rfl⟩
 .
  have j:=h r us b;refine⟨?_,j.2⟩;rw[j.1];by_cases e:r<i
  . rw[if_pos e,if_pos (by omega)]
  . rw[if_neg e,if_neg (by omega)]
theorem Bals.next{M:Nat->Vec}{K n k:Nat}{a:List (List RT)}(h:Bals M K n k a)(d:a.length<=n):Bals M K 0 (k+1) a:=by
 intro r ts b;have c:=h r ts b;rw[if_pos (Nat.lt_of_lt_of_le (gZ b).1 d)] at c;rw[if_neg (Nat.not_lt_zero _)];exact c
theorem GR.mono{w:Vz}{B b g:Nat}{vs:Vv}{a:List (List RT)}(h:GR w B g vs a)(hB:b<=B):GR w b g vs a:=⟨h.blk,Nat.le_trans hB h.low,h.len,fun i v ts c d=>(h.row i v ts c d).low hB,h.apart⟩
theorem PV.take{w:Vz}{B g n K m:Nat}{x:Vec}{ts:List RT}(h:PV w B g n K x ts):PRow w (some ⟨g,0,none⟩) (ts.take m):=
 ⟨⟨fun j u b=>by
   obtain⟨t,a,rfl⟩:=Option.map_eq_some_iff.1 (by rw[List.getElem?_map] at b;exact b);have hl:=(gZ a).1;rw[List.length_take] at hl;rw[List.getElem?_take_of_lt (by omega)] at a
   exact⟨g,0,rfl,h.blk.blk.lt,by rw[Nat.zero_add];exact h.blk.cell a⟩⟩,fun t a=>h.blk.vs t (List.mem_of_mem_take a)⟩
theorem PV.drop{w:Vz}{B g n K m:Nat}{x:Vec}{ts:List RT}(h:PV w B g n K x ts):PRow w (some ⟨g,m,none⟩) (ts.drop m):=
 ⟨⟨fun j u b=>by
   obtain⟨t,a,rfl⟩:=Option.map_eq_some_iff.1 (by rw[List.getElem?_map] at b;exact b);rw[List.getElem?_drop] at a
   exact⟨g,m,rfl,h.blk.blk.lt,h.blk.cell a⟩⟩,fun t a=>h.blk.vs t (List.mem_of_mem_drop a)⟩
theorem PRow.nil(w:Vz)(a:Vx):PRow w a []:=⟨⟨fun j u b=>by simp at b⟩,fun t c=>by cases c⟩
theorem Qnf{W c:Nat}(a:c<W)(x:Vec):dot W x (unitV c)=x c:=by
 rw[Qd3 W x _ c a (fun i _ b=>by simp only[unitV,if_neg b];grind)];simp only[unitV,if_pos];grind
theorem Qng(a1 a2 a3:Vx)(c1 c2 c3 K:Nat)(S:List S2)(a:List B6)(B:List H3)(vb:List (Nat × Nat × Rat × Rat))(vh:Vy)(w:Vz)
 (hg:∃m,w.cell? ⟨4,0,none⟩=some (.int .i64 m)) (hf:FrRow w a1 a2 a3 c1 c2 c3 S a B) (T:FrV 1048576 S a B vb vh) (hw:∀(i:Nat) (h:H3),B[i]?=some h->h.w=1∨h.w=2) (hK:738197945<=K):
 Calls prog 13 #[.agg #[.slice a1 S.length c1,.slice a2 a.length c2,.slice a3 B.length c3]] w fun e w'=>∃(N g:Nat) (vs:Vv) (d:List (List RT)),N=2*S.length/\e=.returned (.slice (some ⟨g,0,none⟩) N N)/\GR w' w.heap.size g vs d/\vs.length=N/\Bals (balM vb a.length vh) K 0 (a.length+B.length) d/\Below w.heap.size w w':=by
 have n1:=T.j;have n2:=T.b;have n3:=T.h;obtain⟨HG,HF,HV,HW⟩:=Ic (RBag.start hg) hf T hw;obtain⟨N,hN⟩:=nm (2*S.length);obtain⟨n,hn⟩:=nm (a.length+B.length);have eN:IntKind.i64.wrap (2*(S.length:Int))=(N:Int):=by rw[wrap_i64 _ (by omega) (by omega)];omega
 have ar:=fun w=>Qne N (by omega) w
 obtain⟨MC,am⟩:=nm ((List.replicate N (Value.slice none 0 0)).toArray);rw[am] at ar;obtain⟨B0,an⟩:=nm w.heap.size;obtain⟨V,hV⟩:=nm (w.alloc (.cells #[.slice a1 S.length c1,.slice a2 a.length c2,.slice a3 B.length c3] 26));have au:=Ua hV;have av:=Uf hV an;obtain⟨aw,U⟩:=Ia hN hn;have br:N<=20:=by omega
 have bt:n<=44:=by omega
 have bu:a.length<=n:=by omega
 obtain⟨bl,bm,bn⟩:=Ib hV an am;clear hg hf T hw hN hn am hV an;go_enter func13,ntmps13;go_wp2_with fail;rw[bl.o];simp only[bm.o];go_fit (Qen a1 a2 a3 c1 c2 c3 S.length a.length B.length V n2 n3);rintro e w1 ⟨rfl,W⟩;have en:((a.length:Int)+(B.length:Int))=(n:Int):=by have:=U.o;omega
 rw[en];obtain⟨bv,H⟩:=Ia W (au.o.trans (W.mono au.o.size));have ao:=av.o.below W av.o.lt;obtain⟨z0,-⟩:=zc ao;obtain⟨g,ap⟩:=nm w1.heap.size;obtain⟨W1,X⟩:=nm (w1.alloc (.cells MC 103));have ax:O (GR W1 g g (List.replicate N (Value.slice none 0 0)) (List.replicate N [])):=Hi (by rw[<-X,<-bn.o,<-ap];exact GR.start w1 N);have ay:=Ua X;obtain⟨Y,x,az⟩:=Ib ao ap X;clear W en ao ap X;go_wp2_with fail;rw[az.o];rw[x.o];clear z0 ar;go_loopw [5] (fun iv wr=>∃(k:Nat) (vs:Vv) (d:List (List RT)),k<=n/\iv=.int .i64 k/\GR wr g g vs d/\vs.length=N/\Bals (balM vb a.length vh) K 0 k d/\Below g w1 wr) (fun iv _=>n - (intOf iv).toNat)
 case atStart=>
  refine⟨0,_,_,Nat.zero_le _,rfl,ax.o,by simp,fun r ts hr=>?_,ay.o.mono (Nat.le_of_eq x.o.symm)⟩;obtain⟨_,rfl⟩:=List.mem_replicate.1 (mO hr);exact⟨by simp,fun c t hc=>by simp at hc⟩
 case round=>
  clear ax ay az;obtain⟨k,vs,d,hk,rfl,I,J,L,E⟩:=hrel;obtain⟨l,y,C,F,M⟩:=Id I J L E (H.o.trans (E.mono (by have:=x.o;have:=H.o.size;omega)));clear I J L E;by_cases bo:k<n
  .
   have q1:(k:Int)<(n:Int):=by omega
   have HU:=Hi (Qrw n k wr ((HG.o.below M.o).glob) bo (by omega));go_wp2_with fail;go_fit HU.o;rintro e w2 ⟨gu,us,rfl,a0,Z⟩;obtain⟨z,P,aa⟩:=Ib a0 (M.o.trans (Z.mono M.o.size)) (l.o.below Z);have s:O (Below g w1 w2):=Hi (F.o.trans (Z.mono (by have:=F.o.size;have:=x.o;omega)));clear a0 Z HU;have a4:=Y.o.below s.o (by have:=Y.o.lt;have:=x.o;omega);obtain⟨z0,z1,z2,-⟩:=zc a4;clear a4;obtain⟨A,hA,a5⟩:∃A:Addr,(if n=a.length then some (⟨gu,0,none⟩:Addr) else some ⟨gu,a.length,none⟩)=some A/\PRow w2 (some A) (us.drop a.length):=by
    by_cases e:n=a.length
    .
     refine⟨⟨gu,0,none⟩,by simp[e],?_⟩;rw[List.drop_of_length_le (by rw[z.o.len];omega)];exact PRow.nil _ _
    . exact⟨⟨gu,a.length,none⟩,by simp[e],z.o.drop⟩
   have a6:n - a.length=B.length:=by have:=U.o;omega
   have a7:=Hi (fun u (hu:Below w2.heap.size w2 u)=>Qrz a1 a2 a3 (some ⟨gu,0,none⟩) (some A) c1 c2 c3 n B.length 1 S a B vb vh (us.take a.length) (us.drop a.length) (unitV k) u (((HG.o.below P.o).below hu).glob) ((HF.o.below P.o).below hu) HV.o HW.o (z.o.take.below hu) (by rw[List.length_take,z.o.len];omega) (a5.below hu) (by rw[List.length_drop,z.o.len];exact a6) (fun i t ht=>by
    rw[List.getElem?_take_of_lt (by have:=(gZ ht).1;rw[List.length_take] at this;omega)] at ht
    exact z.o.q i t ht) (fun i t ht=>by
    rw[List.getElem?_drop] at ht
    exact z.o.q _ t ht) (by decide))
   clear a5;go_wp2_with fail;go_region_held3 (fun v=>v.cell? ⟨B0,0,none⟩=some (.slice a1 S.length c1)/\v.cell? ⟨B0,1,none⟩=some (.slice a2 a.length c2)/\v.cell? ⟨B0,2,none⟩=some (.slice a3 B.length c3)) ((first|(simp [*];done)|go_keep)) (first
    |(
     go_at_call_of 51 (Value.slice (some ⟨gu,0,none⟩) a.length n);apply cM;apply a7.o;(focus(repeat(first|exact Below.refl _ _|apply Qav|apply Qaw)));rintro e w3 ⟨N',ge,es,ab,rfl,G,aq⟩;rw[aw.o] at ab;have ab:=ab.symm;subst ab;have f:=Hi G;have ad:O (Below w2.heap.size w2 w3):=Hi (by first|exact aq|exact(Below.refl _ _).drew.trans aq);have a8:O (w2.heap.size<=ge):=Hi G.low;clear G aq z0 z1 z2;have a9:=Y.o.below (s.o.trans (ad.o.mono (by have:=s.o.size;have:=x.o;omega))) (by have:=Y.o.lt;have:=x.o;omega);obtain⟨z0,z1,z2,-⟩:=zc a9;clear a9
     skip)
    |fail)
   all_goals
    clear z0 z1 z2 hA a6;have ba:=Hi (aa.o.below ad.o);have ae:O (Below g w1 w3):=Hi (s.o.trans (ad.o.mono (by have:=s.o.size;have:=x.o;omega)));have D:O (∀u,u∈ vs->u.ownBlock≠some ge):=Hi (fun u hu e=>by have:=(aa.o.own_ne hu e).2;have:=a8.o;omega);have bb:O (ge≠g):=Hi (fun e=>by have:=aa.o.blk.lt;have:=a8.o;omega);clear a7 z aa;go_wp2_with fail;go_loopw [37] (fun iv wr=>∃(i:Nat) (vs:Vv) (d:List (List RT)),i<=N/\iv=.int .i64 i/\GR wr g g vs d/\vs.length=N/\Bals (balM vb a.length vh) K i k d/\PV wr ge ge N 738197945 (fun r=>dot (a.length+B.length) (balM vb a.length vh r) (unitV k)) es/\(∀u,u∈ vs->u.ownBlock≠some ge)/\Below g w1 wr) (fun iv _=>N - (intOf iv).toNat)
    case atStart=>exact⟨0,vs,d,Nat.zero_le _,rfl,ba.o,y.o,C.o,⟨f.o.blk,Nat.le_refl _,f.o.len,f.o.q⟩,D.o,ae.o⟩
    case round=>
     clear ba ae D l y C f M P F s ad;obtain⟨i,vs,d,hi,rfl,I,J,L,G,af,E⟩:=hrel;obtain⟨l,y,C,f,D,F⟩:=Ie I J L G af E;clear I J L G af E;by_cases bc:i<N
     .
      obtain⟨v,T⟩:∃v,vs[i]?=some v:=⟨_,gE (by rw[y.o];exact bc)⟩;obtain⟨ts,Q,hp,x0,va,vc,rfl⟩:=l.o.get T;obtain⟨pb,pk,_,x1,hq,bd,_⟩:=f.o.get bc;have ag:=(C.o i ts Q).1;rw[if_neg (Nat.lt_irrefl _)] at ag;obtain⟨v',w4,be,x2,x3,⟨na,nc,bp⟩,ah,bf,bg,bh⟩:=l.o.app T Q hq (bd.mono hK) (by omega) (by omega) (by have:=l.o.low;have:=l.o.blk.lt;omega) 103;subst bp;obtain⟨ai,aj⟩:=bh ge D.o f.o.blk.blk.lt bb.o;have ak:=Hi ah;have bi:=Hi (bf.setCell (p:=⟨g,i,none⟩) l.o.low (.slice na (ts.length+1) nc));have al:O (PV _ ge ge N 738197945 _ es):=Hi ⟨⟨f.o.blk.blk.same ai,fun t ht=>⟨bg _ _ (f.o.blk.vs t ht).1,(f.o.blk.vs t ht).2⟩⟩,f.o.low,f.o.len,f.o.q⟩;have R:=Hi aj
      have bj:=Hi (C.o.step (pb:=pb) Q (show dot (a.length+B.length) (balM vb a.length vh i) (unitV k)=balM vb a.length vh i k from Qnf (by have:=U.o;omega) _));have bw:=Hi Q;have q2:(i:Int)<(N:Int):=by omega
      obtain⟨tl,bk⟩:=nm ts.length;rw[bk] at x0 x2 be ak al R bi;clear T hp hq bd ag ah bf bg bh ai aj Q bk;go_wp2;go_roundw
      case rel=>
       refine⟨i+1,_,_,by omega,by go_num,ak.o,by rw[List.length_set];exact y.o,bj.o,al.o,R.o,F.o.trans bi.o⟩
      case measure=>simp[intOf];omega
     .
      obtain rfl:N=i:=by omega
      go_wp2;go_roundw
      case rel=>exact⟨k+1,vs,d,by omega,by go_num,l.o,y.o,C.o.next (by rw[l.o.len,y.o];exact Nat.le_refl _),F.o⟩
      case measure=>simp[intOf];omega
  .
   obtain rfl:n=k:=by omega
   go_wp2;go_ret;have bq:w.heap.size<=g:=by have:=x.o;have:=H.o.size;omega
   exact⟨N,g,vs,d,aw.o.symm,rfl,l.o.mono bq,y.o,by rw[U.o];exact C.o,M.o⟩
def bornM(n:Nat)(vb:List (Nat × Nat × Rat × Rat))(nb:Nat)(vh:Vy)(l:Vec)(r:Nat):Vec:=wider n (balM vb nb vh r) (l r)
theorem born_sol{e n nb:Nat}{a:List (Nat × Nat × Rat × Rat)}{vh:Vy}{l x:Vec}:Fills n ((List.range (2*e)).map (bornM n a nb vh l)) x↔Sol n (balRows e a nb vh) ((List.range (2*e)).map l) x:=by
 have g:∀r,dot n (bornM n a nb vh l r) x=dot n (balM a nb vh r) x:=fun r=>Qau n _ _ _ _ (fun c o=>by unfold bornM wider;rw[if_neg (by omega)])
 have hl:∀r,bornM n a nb vh l r n=l r:=fun r=>by unfold bornM wider;rw[if_pos rfl]
 constructor
 .
  intro h i r v b k;unfold balRows at b;rw[List.getElem?_map] at b k;obtain⟨j,d,rfl⟩:=Option.map_eq_some_iff.1 b;obtain⟨p,f,rfl⟩:=Option.map_eq_some_iff.1 k;obtain rfl:=Option.some.inj (d.symm.trans f);have:=h _ (List.mem_map.2 ⟨j,mO d,rfl⟩);rw[g,hl] at this;exact this
 .
  intro h r b;obtain⟨j,d,rfl⟩:=List.mem_map.1 b;rw[g,hl];obtain⟨i,m⟩:=List.getElem?_of_mem d;exact h i _ _ (by unfold balRows;rw[List.getElem?_map,m];rfl) (by rw[List.getElem?_map,m];rfl)
theorem Bals.of{M M':Nat->Vec}{K n:Nat}{a:List (List RT)}(h:Bals M K 0 n a)(e:∀r c,c<n->M' r c=M r c):Bals M' K 0 n a:=fun r ts f=>by
 have b:=h r ts f;refine⟨b.1,fun c t d=>?_⟩;rw[if_neg (Nat.not_lt_zero _)] at b;rw[e r c (by have:=(gZ d).1;omega)];exact b.2 c t d
theorem GR.pq{w:Vz}{B g W K N:Nat}{vs:Vv}{d:List (List RT)}{M:Nat->Vec}(h:GR w B g vs d)(m:Bals M K 0 W d)(n:0<W)(o:vs.length=N)(hB:B<=w.heap.size)(p:∀r c,W<=c->M r c=0):∃rs:List PR,rs.length=N/\PQ w w B g W K [] rs [] (.slice none 0 0)/\rs.map PR.q=(List.range N).map M:=by
 have e:∀(r:Nat) (ts:List RT),d[r]?=some ts->ts.length=W/\∀(c:Nat) (t:RT),ts[c]?=some t->t.2.1=M r c/\t.2.2=K:=fun r ts a=>by
  have:=m r ts a;rw[if_neg (Nat.not_lt_zero _)] at this;exact this
 obtain⟨rs,hl,l,s⟩:=h.pmat (fun ts j=>by
  obtain⟨r,a⟩:=List.getElem?_of_mem j;rw[(e r ts a).1]
  exact n)
 have b:∀(i:Nat) (r:PR),rs[i]?=some r->d[i]?=some r.ts:=fun i r a=>by
  rw[<-l,List.getElem?_map,a];rfl
 refine⟨rs,hl.trans o,⟨s,fun r a=>?_,fun r a t j=>?_,Grow.nil _ _ _ _ _,Below.refl _ _,hB⟩,?_⟩
 . obtain⟨i,f⟩:=List.getElem?_of_mem a
   exact(e i _ (b i r f)).1
 .
  obtain⟨i,f⟩:=List.getElem?_of_mem a;obtain⟨c,k⟩:=List.getElem?_of_mem j;exact((e i _ (b i r f)).2 c t k).2
 .
  apply List.ext_getElem?;intro i;rw[List.getElem?_map,List.getElem?_map];rcases Nat.lt_or_ge i N with f|f
  .
   obtain⟨r,a⟩:∃r,rs[i]?=some r:=⟨_,gE (by omega)⟩;obtain⟨v,u⟩:=e i _ (b i r a);rw[a,List.getElem?_range f];refine congrArg some (funext fun c=>?_)
   show ratV r.ts c=M i c
   rcases Nat.lt_or_ge c W with k|k
   .
    obtain⟨t,j⟩:∃t,r.ts[c]?=some t:=⟨_,gE (by omega)⟩;rw[Qd9 j];exact(u c t j).1
   . rw[Qj2 (by omega),p i c k]
  . rw[List.getElem?_eq_none (by omega),List.getElem?_eq_none (by simpa using f)]
    rfl
theorem Qnh{b K:Nat}(h:22*b+200<=K):(20+1)*(2 ^ b*(2*((20+1)*2 ^ b)) ^ 20)*2 ^ b<2 ^ K:=by
 have a:2*((20+1)*2 ^ b)<=2 ^ (b+6):=by
  rw[Nat.pow_add];have:0<2 ^ b:=Nat.pow_pos (by decide);omega
 have c:(2*((20+1)*2 ^ b)) ^ 20<=2 ^ ((b+6)*20):=by
  rw[Nat.pow_mul];exact Nat.pow_le_pow_left a 20
 have d:(20+1)*(2 ^ b*(2*((20+1)*2 ^ b)) ^ 20)*2 ^ b<=2 ^ 5*(2 ^ b*2 ^ ((b+6)*20))*2 ^ b:=
  Nat.mul_le_mul_right _ (Nat.mul_le_mul (by decide) (Nat.mul_le_mul_left _ c))
 refine Nat.lt_of_le_of_lt d ?_;rw[<-Nat.pow_add,<-Nat.pow_add,<-Nat.pow_add];exact Nat.pow_lt_pow_right (by decide) (by omega)
theorem Qni(a1 a2 a3 al:Vx)(c1 c2 c3 cl K P b N:Nat)(js:List S2)(u:List B6)(D:List H3)(vb:List (Nat × Nat × Rat × Rat))(vh:Vy)(tl:List RT)(l:Vec)(w:Vz)
 (hg:∃m,w.cell? ⟨4,0,none⟩=some (.int .i64 m)) (hf:FrRow w a1 a2 a3 c1 c2 c3 js u D) (E:FrV 1048576 js u D vb vh) (hw:∀(i:Nat) (h:H3),D[i]?=some h->h.w=1∨h.w=2) (x:738197945<=K)
 (hN:N=2*js.length) (hl:PRow w al tl) (ap:tl.length=N) (aq:∀(i:Nat) (t:RT),tl[i]?=some t->t.2.1= -l i/\t.2.2<=K)
 (hP:0<P) (ar:P<=2 ^ b) (hM:∀r j,Wh P b (bornM (u.length+D.length) vb u.length vh l r j)) (hb:22*b+200<=K) (bi:4*K<100000000000):
 Calls prog 22 #[.agg #[.slice a1 js.length c1,.slice a2 u.length c2,.slice a3 D.length c3],.slice al N cl] w (SolveSays (u.length+D.length) K w.heap.size ((List.range N).map (bornM (u.length+D.length) vb u.length vh l)) w):=by
 have n1:=E.j;have n2:=E.b;have n3:=E.h;obtain⟨HG,HF,HV,HW,HL,bj,bk,HM,bl⟩:=Ih (RBag.start hg) hf E hw hl ap aq hM hN;have bm:=Hi ar;obtain⟨n,hn⟩:=nm (u.length+D.length);obtain⟨B0,ad⟩:=nm w.heap.size;obtain⟨V,hV⟩:=nm (w.alloc (.cells #[.slice a1 js.length c1,.slice a2 u.length c2,.slice a3 D.length c3] 26));have y:=Ua hV;have F:=Uf hV ad;have f:=Hi hn;have au:N<=20:=by omega
 have b6:n<=44:=by omega
 obtain⟨bn,bo,z⟩:=Ib hV ad (Qng a1 a2 a3 c1 c2 c3 K js u D vb vh V ((HG.o.below y.o).glob) (HF.o.below y.o) HV.o HW.o x);clear hg hf E hw hl ap aq hM hN hn hV ad ar;go_enter func22,ntmps22;go_wp2_with fail;rw[bn.o];simp only[bo.o];go_fit z.o;rintro e w1 ⟨N',g,vs,G,av,rfl,q,s,A,ae⟩;rw[<-bl.o] at av;have br:=av.symm;subst br;rw[f.o] at A;obtain⟨aw,W,X,ax,bt⟩:=Id q s (A.of (M':=bornM n vb u.length vh l) (fun r c hc=>by unfold bornM wider;rw[if_neg (by omega)])) ae (F.o.below ae F.o.lt);have b7:O (B0<V.heap.size):=Hi F.o.lt;clear q s A ae z;go_wp2_with fail
 go_loopw [12] (fun iv wr=>∃(i:Nat) (vs:Vv) (G:List (List RT)),i<=N/\iv=.int .i64 i/\GR wr V.heap.size g vs G/\vs.length=N/\Bals (bornM n vb u.length vh l) K i n G/\Below V.heap.size V wr) (fun iv _=>N - (intOf iv).toNat)
 case atStart=>exact⟨0,vs,G,Nat.zero_le _,rfl,aw.o,W.o,X.o,ax.o⟩
 case round=>
  clear aw W X ax bt;obtain⟨i,vs,G,hi,rfl,q,s,A,af⟩:=hrel;obtain⟨B,Q,z,H,C⟩:=Id q s A af (y.o.trans (af.mono y.o.size));clear q s A af;by_cases ay:i<N
  .
   obtain⟨v,E⟩:∃v,vs[i]?=some v:=⟨_,gE (by rw[Q.o];exact ay)⟩;obtain⟨ts,ag,hp,M,va,vc,rfl⟩:=B.o.get E;obtain⟨t,ht⟩:∃t,tl[i]?=some t:=⟨_,gE (by rw[bj.o];exact ay)⟩;obtain⟨lb,lo,rfl,ah,az⟩:=HL.o.at ht;have x1:=ce C.o ah az;have a0:=Nat.lt_of_lt_of_le ah C.o.size;have bu:=Nat.lt_of_lt_of_le ah y.o.size;clear az;obtain⟨R,T⟩:=bk.o i t ht;have I:=(z.o i ts ag).1;rw[if_neg (Nat.lt_irrefl _)] at I;have bv:=Hi I;have s:=(HL.o.below C.o).vs t (mO ht);obtain⟨a4,bw,a5,a6⟩:=Ic (((HG.o.below C.o).rebase).put s.1 (s.2.1.mono T) (by omega)) R ag E;have a7:=B.o.blk.lt;obtain⟨tn,ai⟩:=nm ts.length;rw[ai] at M a6;have b8:=Hi ai;obtain⟨tb,a8⟩:=nm t.1;rw[a8] at x1 a4
   obtain⟨bx,bz⟩:=Ia M x1;have q2:(i:Int)<(N:Int):=by omega
   clear E hp ag ht R T I s ai a8;go_wp2_with fail;refine AnyBut.begin (S:=Cells2 ⟨g,i,none⟩ ⟨lb,lo+i,none⟩ (.slice va tn vc) (.pointer (some ⟨tb,0,none⟩))) (k:=14) (by kernel_rfl) ?_;have a:Cells2 ⟨g,i,none⟩ ⟨lb,lo+i,none⟩ (.slice va tn vc) (.pointer (some ⟨tb,0,none⟩)) wr.drew:=⟨M,x1⟩;refine Plan.of [0,1,2,3,4,5,6,7,8,9,10,11,12,13,14] ?_
   iterate 10
    refine AnyBut.bp (v:=?_) (by rfl) (by kernel_rfl) (by kernel_rfl) (by kernel_rfl) (by kernel_rfl) (by exact fun _ _ _ h=>h) a (Or.inl ⟨by rfl,?_⟩) ?_
    rotate_left 1
    (focus(intro wq aj;obtain⟨R,T⟩:=aj;first|(go_simp;done)|(go_simp;with_reducible rfl)));(try simp only[Act.put,List.setIfInBounds_toArray,List.set_cons_zero,List.set_cons_succ])
   clear a;refine AnyBut.op (by kernel_rfl) (by rfl) (fun KK x=>?_);go_simp;apply cM;apply RBag.neg (w0:=wr);exact a4.o.drew;exact List.Mem.head _;omega;rintro e w2 ⟨bq,rfl,J⟩;have d:=Hi J.base;have U:=J.ts _ (List.Mem.head _);clear M x1;have M:=ce d.o a7 bx.o;have x1:=ce d.o a0 bz.o;obtain⟨v',w4,Y,y0,y1,⟨na,nc,a9⟩,Z,ak,_,_⟩:=(B.o.below d.o).app a6.o a5.o U.1 U.2.1 U.2.2 (by have:=bv.o;omega) (Nat.le_trans H.o.size d.o.size) 103;subst a9;have ba:=Hi Z;have b0:=Hi ak;have y2:w4.cell? ⟨lb,lo+i,none⟩=some (.pointer (some ⟨tb,0,none⟩)):=ce ak bu x1;clear J U Z ak
   have z0:=(((Below.refl w2.heap.size w2).alloc lZ (.cells #[.pointer (some ⟨bq,0,none⟩)] 84)).cell (p:=⟨g,i,none⟩) (Nat.lt_of_lt_of_le a7 d.o.size)).trans M;have z1:=(((Below.refl w2.heap.size w2).alloc lZ (.cells #[.pointer (some ⟨bq,0,none⟩)] 84)).cell (p:=⟨lb,lo+i,none⟩) (Nat.lt_of_lt_of_le a0 d.o.size)).trans x1;refine x.out _ _ (fun _=>⟨M,x1⟩) ?_;clear x KK;(try simp only[Act.put,List.setIfInBounds_toArray,List.set_cons_zero,List.set_cons_succ]);refine AnyBut.op (by kernel_rfl) (by rfl) (fun KK x=>?_);go_simp;refine x.out _ _ (fun _=>⟨z0,z1⟩) ?_;clear x KK;(try simp only[Act.put,List.setIfInBounds_toArray,List.set_cons_zero,List.set_cons_succ]);clear z0 z1;refine AnyBut.op (by kernel_rfl) (by rfl) (fun KK x=>?_)
   refine Qa6 (t:=103) rfl (.tmp 20) (.tmp 26) rfl (vs:=.slice va tn vc) (vx:=.slice (some ⟨w2.heap.size,0,none⟩) 1 1) (by simp[Act.eval]) (by simp[Act.eval]) Y ?_;refine x.out _ _ (fun _=>⟨y0,y2⟩) ?_;clear x KK;(try simp only[Act.put,List.setIfInBounds_toArray,List.set_cons_zero,List.set_cons_succ]);have a:Cells2 ⟨g,i,none⟩ ⟨lb,lo+i,none⟩ (.slice va tn vc) (.pointer (some ⟨tb,0,none⟩)) w4:=⟨y0,y2⟩;refine AnyBut.bp (v:=?_) (by rfl) (by kernel_rfl) (by kernel_rfl) (by kernel_rfl) (by kernel_rfl) (by exact fun _ _ _ h=>h) a (Or.inl ⟨by rfl,?_⟩) ?_
   rotate_left 1
   (focus(intro wq aj;obtain⟨R,T⟩:=aj;first|(go_simp;done)|(go_simp;with_reducible rfl)));(try simp only[Act.put,List.setIfInBounds_toArray,List.set_cons_zero,List.set_cons_succ]);clear a;refine AnyBut.op (by kernel_rfl) (by rfl) (fun KK x=>?_);go_simp;refine x.out _ _ (fun h=>absurd rfl h) ?_;clear x KK;(try simp only[Act.put,List.setIfInBounds_toArray,List.set_cons_zero,List.set_cons_succ]);refine Plan.done (AnyBut.done (by kernel_rfl) ?_ _);clear M x1 y0 y1 y2 Y;go_wp2;go_roundw
   case rel=>
    refine⟨i+1,_,_,by omega,by go_num,ba.o,by rw[List.length_set];exact Q.o,z.o.step a5.o ?_,(H.o.trans (d.o.mono H.o.size)).trans (b0.o.setCell (p:=⟨g,i,none⟩) B.o.low _)⟩;rw[bw.o];unfold bornM wider;rw[if_pos rfl];grind
   case measure=>simp[intOf];omega
  .
   obtain rfl:N=i:=by omega
   have aa:w.heap.size<=V.heap.size:=y.o.size;obtain⟨rs,bb,bc,bd⟩:=(B.o.mono aa).pq (z.o.next (by rw[B.o.len,Q.o];exact Nat.le_refl _)) (Nat.succ_pos n) Q.o (Nat.le_trans aa H.o.size) (fun r c hc=>by
    unfold bornM wider;rw[if_neg (by omega)]
    exact Qb8 HV.o.lb HV.o.lh r c (by have:=f.o;omega))
   obtain⟨M,x1,x2,-⟩:=zc (F.o.below H.o F.o.lt);obtain⟨b1,b2,b3⟩:=Ib bc bb bd;clear bc bb bd;go_wp2_with fail;clear M x1 x2;go_fit (Qen a1 a2 a3 c1 c2 c3 js.length u.length D.length wr n2 n3);rintro e w2 ⟨rfl,am⟩;have en:((u.length:Int)+(D.length:Int))=(n:Int):=by have:=f.o;omega
   rw[en];have an:Below w.heap.size w w2:=C.o.trans (am.mono C.o.size);have ab:PQ w2 w2 w.heap.size g (n+1) K [] rs [] (.slice none 0 0):=by
    have h:=b1.o.below am;exact⟨h.mat,h.wide,h.tag,Grow.nil _ _ _ _ _,Below.refl _ _,Nat.le_trans h.low h.base.size⟩
   have be:(n+1)*1=n+1:=by omega
   have bf:=Hi (Qru w.heap.size g n 20 K N N [] rs ((List.range N).map (bornM n vb u.length vh l)) w2 ((HG.o.below an).glob) (by
    obtain⟨m,hm⟩:=HG.o.glob
    exact World.block_lt_of_cell? _ _ hm) (fun c L b9 b4=>b4.fits hP bm.o (fun r hr j=>by
    obtain⟨i,_,rfl⟩:=List.mem_map.1 hr;have:=HM.o i j;rw[f.o] at this
    exact this) (Qnh hb) (by omega)) (by omega) bi ab (by rw[b3.o];exact Pl.start _ _ _ (fun v E i hi=>by
     obtain⟨r,_,rfl⟩:=List.mem_map.1 E;unfold bornM wider;rw[if_neg (by omega)]
     exact Qb8 HV.o.lb HV.o.lh r i (by have:=f.o;omega))                (.inl (by simpa using au))) (by omega) b2.o (by omega) lZ)
   clear ab en be;have d:=Hi an;clear am an;go_wp2_with fail;go_fit bf.o;rintro e w3 ⟨bg,bh⟩;have ao:O (Below w.heap.size w w3):=Hi (d.o.trans bg);clear bg bf;rcases bh with ⟨rfl,h⟩|⟨rfl,h⟩|⟨v,ts,rfl,q,h1,h2,h3⟩
   .
    have HH:=Hi h;clear h;go_wp2;go_ret2;exact⟨ao.o,.inl ⟨rfl,by rw[f.o];exact HH.o⟩⟩
   .
    have HH:=Hi h;clear h;go_wp2;go_ret2;exact⟨ao.o,.inr (.inl ⟨rfl,by rw[f.o];exact HH.o⟩)⟩
   .
    have HH:=Hi (And.intro (q.low d.o.size) (And.intro h1 (And.intro h2 h3)));obtain⟨xa,xc,b5,_⟩:=q.row;subst b5;clear q h1 h2 h3;go_wp2;go_ret2;exact⟨ao.o,.inr (.inr ⟨_,ts,rfl,HH.o.1,by rw[f.o];exact HH.o.2.1,HH.o.2.2.1,by rw[f.o];exact HH.o.2.2.2⟩)⟩
end Go.Proofs.YtppkmifkpjkgpaaGreatDoor
