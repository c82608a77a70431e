import Derived.Test.YtppkmifkpjkgpaaGreatDoorC42BornC
namespace Go.Proofs.YtppkmifkpjkgpaaGreatDoor
open Go.RowKit
open Go.Proofs.Tryz
set_option linter.unusedSimpArgs false
set_option linter.unusedVariables false
set_option maxHeartbeats 8000000
set_option maxRecDepth 1000000
def IsTx(u:Value):Prop:=∃s,u=Value.string s
abbrev TG(w:Vz)(B:Nat)(v:Value)(ss:Vt):Prop:=Grow w B 54 1 IsTx v ss.length (textsV ss)
theorem TG.app{w:Vz}{B nb c:Nat}{v:Value}{a:Vt}{s:Vs}(h:TG w B v a)(k:w.cell? ⟨nb,0,none⟩=some (.string s))(y:a.length<=1000)(hB:B<=w.heap.size)(ty:Vr):
 ∃d w',appR prog 48 ty v (.slice (some ⟨nb,0,none⟩) 1 c) w=.ok d w'/\TG w' B d (a++ [s])/\Below B w w':=by
 obtain⟨i,l,m⟩:=Option.map_eq_some_iff.1 Qlh;injection m with n e
 injection e with e o
 obtain⟨d,w',p,q,r,_⟩:=Grow.app h (P:=prog) (t:=48) (ty:=ty) underlying48 l n e o rfl (by decide) (fun u b=>⟨_,by simpa [Value.cells] using b⟩) ⟨nb,0,none⟩ 1 c [.string s] rfl (fun j u f=>by
  match j,f with
  |0,f=>
   obtain rfl:=Option.some.inj f
   exact k) (fun u b=>by obtain rfl:=List.mem_singleton.1 b;rfl) (fun u b=>by obtain rfl:=List.mem_singleton.1 b;exact⟨_,rfl⟩) (by omega) (by decide) hB
 refine⟨d,w',p,?_,Qlb r (fun g x=>(h.lt x).1) hB⟩
 show Grow _ _ _ _ _ _ (a++ [s]).length (textsV (a++ [s]))
 rw[List.length_append,List.length_singleton,textsV,List.map_append];exact q
theorem TG.tlst{w:Vz}{B:Nat}{v:Value}{b:Vt}(h:TG w B v b):∃a cap,v=.slice a b.length cap/\TLst w a b:=by
 obtain⟨a,cap,e,_,c,_⟩:=Grow.slice h;exact⟨a,cap,e,fun i s d=>c.cell i (.string s) (by simp[textsV,d])⟩
theorem Qg4(a:Vx)(cap n K:Nat)(ts:List RT)(w:Vz)(W:∃m,w.cell? ⟨4,0,none⟩=some (.int .i64 m))(h:PRow w a ts)(hk:∀t,t∈ ts->t.2.2<=K)(hK:K<274877906000)(X:ts.length=n)(hl:n<=1000):
 Calls prog 54 #[.slice a n cap] w fun e w'=>∃(v:Value) (r:Vt),e=.returned v/\TG w' w.heap.size v r/\r.length=n/\(∀(i:Nat) (t:RT) (s:Vs),ts[i]?=some t->r[i]?=some s->QText s.data.toList t.2.1)/\Below w.heap.size w w':=by
 obtain⟨Z,N,HK,HN⟩:=Ic h (RBag.start W) hk X;clear h W hk X;go_enter func54,ntmps54;go_wp2_with fail;go_loopw [3,8] (fun ov P wr=>∃(k:Nat) (r:Vt),k<=n/\P=.int .i64 k/\TG wr w.heap.size ov r/\r.length=k/\(∀(i:Nat) (t:RT) (s:Vs),ts[i]?=some t->r[i]?=some s->QText s.data.toList t.2.1)/\Below w.heap.size w wr) (fun _ P _=>n - (intOf P).toNat)
 case atStart=>exact⟨0,[],Nat.zero_le _,rfl,Grow.nil _ _ _ _ _,rfl,fun i t s _ L=>by simp at L,Below.refl _ _⟩
 case round=>
  obtain⟨k,r,hk,rfl,y,A,g,B⟩:=hrel;obtain⟨C,d,D,f⟩:=Ic y A g B;obtain⟨oa,oc,Q,_⟩:=TG.tlst y;subst Q;clear y A g B;by_cases aa:k<n
  .
   obtain⟨t,E⟩:∃t,ts[k]?=some t:=⟨_,gE (by have:=HN.o;omega)⟩;obtain⟨b,ab,rfl,hb,x0⟩:=(Z.o.below f.o).at E;have R:=HK.o t (mO E);have HT:=Hi (RBag.text (bx:=t.1) (p:=t.2.1) (j:=t.2.2) ((Z.o.below f.o).bag ((N.o.below f.o).glob)) (mO E) (by omega));have q1:((k:Int)<(n:Int)):=by omega
   have S:=Hi E;clear E R;go_wp2_with fail;go_fit HT.o;rintro e w2 ⟨⟨s,rfl,L⟩,l⟩;have z:=Hi (f.o.trans (l.base.mono f.o.size));have x:=Grow.below C.o l.base;have HS:=Hi L;obtain⟨Y,M⟩:=nm (w2.alloc (.cells #[.string s] 54));have u:Below w2.heap.size w2 Y:=by rw[<-M];exact(Below.refl _ _).alloc lZ _
   have F:Y.cell? ⟨w2.heap.size,0,none⟩=some (.string s):=by rw[<-M];exact Qa8 w2 _ _
   obtain⟨v',w',G,H,I⟩:=TG.app (Grow.below x u) (s:=s) (nb:=w2.heap.size) (c:=1) F (by have:=d.o;omega) (Nat.le_trans z.o.size u.size) 48;rw[<-M] at G;have T:=Hi H;have U:O (Below w.heap.size w w'):=Hi ((z.o.trans (u.mono z.o.size)).trans I);clear L l x M u F H I HT x0;go_wp2;go_roundw
   case rel=>
    refine⟨k+1,r++ [s],by omega,by go_num,T.o,by simp[d.o],fun i t' s' J q=>?_,U.o⟩;rcases Nat.lt_or_ge i k with hi|hi
    . rw[List.getElem?_append_left (by have:=d.o;omega)] at q
      exact D.o i t' s' J q
    .
     have V:=(gZ q).1;rw[List.length_append,d.o,List.length_singleton] at V;obtain rfl:i=k:=by omega
     rw[List.getElem?_append_right (by have:=d.o;omega),d.o,Nat.sub_self] at q;obtain rfl:=Option.some.inj q;obtain rfl:=Option.some.inj (S.o.symm.trans J);exact HS.o
   case measure=>simp[intOf];omega
  .
   obtain rfl:n=k:=by omega
   go_wp2;go_ret;exact⟨_,r,rfl,C.o,d.o,D.o,f.o⟩
def StressSays(nb:Nat)(ts:List RT)(w:Vz)(e:Ending)(w':Vz):Prop:=∃(v1 v2:Value) (x y:Vt),e=.returned (.agg #[v1,v2])/\TG w' w.heap.size v1 x/\TG w' w.heap.size v2 y/\x.length=nb/\y.length=ts.length - nb/\(∀(i:Nat) (t:RT) (s:Vs),(ts.take nb)[i]?=some t->x[i]?=some s->QText s.data.toList t.2.1)/\(∀(i:Nat) (t:RT) (s:Vs),(ts.drop nb)[i]?=some t->y[i]?=some s->QText s.data.toList t.2.1)/\Below w.heap.size w w'
theorem PRow.take{w:Vz}{a:Vx}{ts:List RT}(h:PRow w a ts)(n:Nat):PRow w a (ts.take n):=
 ⟨⟨fun j u b=>by
   rw[List.map_take] at b;have hl:=(gZ b).1;rw[List.length_take] at hl;rw[List.getElem?_take_of_lt (by omega)] at b
   exact h.row.cell j u b⟩,fun t c=>h.vs t (List.mem_of_mem_take c)⟩
theorem PRow.drop{w:Vz}{g a:Nat}{ts:List RT}(h:PRow w (some ⟨g,a,none⟩) ts)(n:Nat):PRow w (some ⟨g,a+n,none⟩) (ts.drop n):=
 ⟨⟨fun j u c=>by
   rw[List.map_drop,List.getElem?_drop] at c;obtain⟨b,o,e,d,f⟩:=h.row.cell (n+j) u c;injection e with e
   injection e with i k m
   subst i k
   exact⟨g,a+n,rfl,d,by rw[Nat.add_assoc];exact f⟩⟩,fun t l=>h.vs t (List.mem_of_mem_drop l)⟩
theorem TG.other{w:Vz}{B b i:Nat}{t:Vr}{C:Vw}{v x:Value}{a:Vt}(h:TG w B v a)(d:SB w b t C)(e:54≠t):TG (w.setCell ⟨b,i,none⟩ x) B v a:=
 Grow.keep h fun g f=>by
  obtain⟨D,c,_⟩:=Grow.sb h f;exact((Only.refl b w).setCell i x).block g c.lt (c.unlike d e)
theorem Qwl(L M:Value)(N:Vx)(c2 nb g cap n K:Nat)(ts:List RT)(w:Vz)(P:∃m,w.cell? ⟨4,0,none⟩=some (.int .i64 m))(h:PRow w (some ⟨g,0,none⟩) ts)(hk:∀t,t∈ ts->t.2.2<=K)(hK:K<274877906000)(hl:n<=1000)(B:ts.length=n)(hn:nb<=n)(Q:n<=cap)(o1:L.oneCell'=true)(o3:M.oneCell'=true):
 Calls prog 17 #[.agg #[L,.slice N nb c2,M],.slice (some ⟨g,0,none⟩) n cap] w (StressSays nb ts w):=by
 have l1:(ts.take nb).length=nb:=by rw[List.length_take];omega
 have l2:(ts.drop nb).length=n - nb:=by rw[List.length_drop];omega
 obtain⟨A,hA,C⟩:∃A:Addr,(if cap=nb then some (⟨g,0,none⟩:Addr) else some ⟨g,nb,none⟩)=some A/\PRow w (some A) (ts.drop nb):=by
  by_cases e:cap=nb
  .
   refine⟨⟨g,0,none⟩,by simp[e],?_⟩;have:ts.drop nb= []:=List.drop_of_length_le (by omega);rw[this];exact⟨⟨fun j u hj=>by simp at hj⟩,fun t D=>by cases D⟩
  . exact⟨⟨g,nb,none⟩,by simp[e],by simpa using h.drop nb⟩
 obtain⟨R,S,T⟩:=Ib (fun u (E:Below w.heap.size w u)=>Qg4 (some ⟨g,0,none⟩) cap nb K (ts.take nb) u (((RBag.start P).below E).glob) ((h.take nb).below E) (fun t D=>hk t (List.mem_of_mem_take D)) hK l1 (by omega)) (fun u (E:Below w.heap.size w u)=>Qg4 (some A) (cap - nb) (n - nb) K (ts.drop nb) u (((RBag.start P).below E).glob) (C.below E) (fun t D=>hk t (List.mem_of_mem_drop D)) hK l2 (by omega)) B;clear h P hk C l1 l2 B;go_enter func17,ntmps17;obtain⟨V,F⟩:=nm ((w.alloc (.cells #[L,.slice N nb c2,M] 26)).alloc (.cells #[.slice none 0 0,.slice none 0 0] 50));have s:=Ub F;have i:=Ud F
 have a:=Ue F;have HV:=Hi F;clear F;have U:nb<=cap:=by omega
 have W:n<=cap:=Q;obtain⟨-,x1,-⟩:=zc i.o;have b:O (Below V.heap.size V V):=Hi bR;go_wp2_with fail;rw[HV.o];go_region_held3 (fun v=>v.cell? ⟨w.heap.size,1,none⟩=some (.slice N nb c2)) ((first|(simp [*];done)|go_keep)) (first
  |(
   go_at_call_of 54 (Value.slice (some ⟨g,0,none⟩) nb cap);apply cM;apply R.o;(focus(repeat(first|exact s.o|apply Qav|apply Qaw)));rintro e1 w1 ⟨v1,x,rfl,c,k,l,d⟩;have z:O (Below w.heap.size w w1):=Hi (s.o.trans (Below.mono (by first|exact d|exact(Below.refl _ _).drew.trans d) s.o.size));have q:O (Below V.heap.size V w1):=Hi (b.o.trans (Below.mono (by first|exact d|exact(Below.refl _ _).drew.trans d) b.o.size));clear b;have b:=q;have G:=Hi (Grow.mono c s.o.size);have ae:O (Below _ _ w1):=Hi (by first|exact d|exact(Below.refl _ _).drew.trans d);obtain⟨X,Y⟩:=Ia k l;obtain⟨p1,U,Z,_⟩:=TG.tlst c;subst Z;clear c k l d x1;obtain⟨-,x1,-⟩:=zc (i.o.below q.o i.o.lt)
   obtain⟨r0,r1,-⟩:=zc (a.o.below q.o a.o.lt);have f0:=(a.o.below q.o a.o.lt).free 0;have f1:=(a.o.below q.o a.o.lt).free 1
   skip)
  |(
   go_at_call_of 54 (Value.slice (some A) (n - nb) (cap - nb));apply cM;apply S.o;(focus(repeat(first|exact z.o|apply Qav|apply Qaw)));rintro e2 w2 ⟨v2,y,rfl,c,k,l,d⟩;have aa:O (Below w.heap.size w w2):=Hi (z.o.trans (Below.mono (by first|exact d|exact(Below.refl _ _).drew.trans d) z.o.size));have f:O (Below V.heap.size V w2):=Hi (b.o.trans (Below.mono (by first|exact d|exact(Below.refl _ _).drew.trans d) b.o.size));clear b;have b:=f;have H:=Hi (Grow.mono c z.o.size);have I:O (Below _ _ w2):=Hi (by first|exact d|exact(Below.refl _ _).drew.trans d);obtain⟨ab,ad⟩:=Ia k l;obtain⟨p2,W,hv2,_⟩:=TG.tlst c;subst hv2;clear c k l d x1;obtain⟨-,x1,-⟩:=zc (i.o.below f.o i.o.lt)
   obtain⟨r0,r1,-⟩:=zc (a.o.below f.o a.o.lt);have f0:=(a.o.below f.o a.o.lt).free 0;have f1:=(a.o.below f.o a.o.lt).free 1
   skip)
  |fail)
 all_goals
  go_wp2;have r:=a.o.below f.o a.o.lt;refine bodyPost_ret (v:=.agg #[.slice p1 x.length U,.slice p2 y.length W]) (results_cell_row rfl _ _ (w.heap.size+1) 50 #[.slice p1 x.length U,.slice p2 y.length W] (0,0) _ rfl ((r.set 0 _).set 1 _) underlying50 rfl Tryz.stressInfo) rfl ?_;have J:w.heap.size<=w.heap.size+1:=Nat.le_succ _;refine⟨_,_,x,y,rfl,?_,?_,X.o,by rw[ab.o,T.o],Y.o,ad.o,(aa.o.setCell (p:=⟨w.heap.size+1,0,none⟩) J _).setCell (p:=⟨w.heap.size+1,1,none⟩) J _⟩
  . have h1:=Grow.below G.o (show Below w1.heap.size w1 w2 from I.o)
    exact TG.other (TG.other h1 r (by decide)) (r.set 0 _) (by decide)
  . exact TG.other (TG.other H.o r (by decide)) (r.set 0 _) (by decide)
theorem Qwm(F G:Value)(H:Vx)(c2:Nat)(w:Vz)(M:∃m,w.cell? ⟨4,0,none⟩=some (.int .i64 m))(X:F.oneCell'=true)(Y:G.oneCell'=true):
 Calls prog 17 #[.agg #[F,.slice H 0 c2,G],.slice none 0 0] w (StressSays 0 [] w):=by
 have r:=Hi (fun u (S:Below w.heap.size w u)=>Qg4 none 0 0 1 [] u (((RBag.start M).below S).glob) ⟨⟨fun j u T=>by simp at T⟩,fun t n=>by cases n⟩ (fun t n=>by cases n) (by decide) rfl (by decide));clear M;go_enter func17,ntmps17;obtain⟨V,z⟩:=nm ((w.alloc (.cells #[F,.slice H 0 c2,G] 26)).alloc (.cells #[.slice none 0 0,.slice none 0 0] 50));have l:=Ub z;have f:=Ud z;have a:=Ue z;have U:=Hi z;clear z;obtain⟨-,x1,-⟩:=zc f.o;have c:O (Below V.heap.size V V):=Hi bR;go_wp2_with fail;rw[U.o]
 go_region_held3 (fun v=>v.cell? ⟨w.heap.size,1,none⟩=some (.slice H 0 c2)) ((first|(simp [*];done)|go_keep)) (first
  |(
   fail_if_success (have:=g)
   go_at_call 54;apply cM;apply r.o;(focus(repeat(first|exact l.o|apply Qav|apply Qaw)));rintro Z w1 ⟨v1,x,rfl,b,h,q,d⟩;have g:O (Below w.heap.size w w1):=Hi (l.o.trans (Below.mono (by first|exact d|exact(Below.refl _ _).drew.trans d) l.o.size));have A:O (Below V.heap.size V w1):=Hi (c.o.trans (Below.mono (by first|exact d|exact(Below.refl _ _).drew.trans d) c.o.size));clear c;have c:=A;have B:=Hi (Grow.mono b l.o.size);have I:=Hi h;obtain⟨N,P,J,_⟩:=TG.tlst b;subst J;clear b h q d x1;obtain⟨-,x1,-⟩:=zc (f.o.below A.o f.o.lt)
   skip)
  |(
   go_at_call 54;apply cM;apply r.o;(focus(repeat(first|exact g.o|apply Qav|apply Qaw)));rintro e2 w2 ⟨v2,y,rfl,b,h,q,d⟩;have K:O (Below w.heap.size w w2):=Hi (g.o.trans (Below.mono (by first|exact d|exact(Below.refl _ _).drew.trans d) g.o.size));have e:O (Below V.heap.size V w2):=Hi (c.o.trans (Below.mono (by first|exact d|exact(Below.refl _ _).drew.trans d) c.o.size));have C:O (Below _ _ w2):=Hi (by first|exact d|exact(Below.refl _ _).drew.trans d);have D:=Hi (Grow.mono b g.o.size);have L:=Hi h;obtain⟨Q,R,hv2,_⟩:=TG.tlst b;subst hv2;clear b h q d x1;obtain⟨-,x1,-⟩:=zc (f.o.below e.o f.o.lt);obtain⟨r0,-⟩:=zc (a.o.below e.o a.o.lt)
   obtain⟨-,r1,-⟩:=zc (a.o.below e.o a.o.lt);have f0:=(a.o.below e.o a.o.lt).free 0;have f1:=(a.o.below e.o a.o.lt).free 1
   skip)
  |fail)
 all_goals
  go_wp2;have k:=a.o.below e.o a.o.lt;refine bodyPost_ret (v:=.agg #[.slice N x.length P,.slice Q y.length R]) (results_cell_row rfl _ _ (w.heap.size+1) 50 #[.slice N x.length P,.slice Q y.length R] (0,0) _ rfl ((k.set 0 _).set 1 _) underlying50 rfl Tryz.stressInfo) rfl ?_;have E:w.heap.size<=w.heap.size+1:=Nat.le_succ _;refine⟨_,_,x,y,rfl,?_,?_,I.o,L.o,(fun i t s n=>by simp at n),(fun i t s n=>by simp at n),(K.o.setCell (p:=⟨w.heap.size+1,0,none⟩) E _).setCell (p:=⟨w.heap.size+1,1,none⟩) E _⟩
  . have W:=Grow.below B.o (show Below w1.heap.size w1 w2 from C.o)
    exact TG.other (TG.other W k (by decide)) (k.set 0 _) (by decide)
  . exact TG.other (TG.other D.o k (by decide)) (k.set 0 _) (by decide)
theorem Qwn(a b:Value)(c:Vx)(c2 nb:Nat)(w:Vz)(d:∃m,w.cell? ⟨4,0,none⟩=some (.int .i64 m))(e:nb=0)(f:a.oneCell'=true)(g:b.oneCell'=true):
 Calls prog 17 #[.agg #[a,.slice c nb c2,b],.slice none 0 0] w (StressSays nb [] w):=by
 subst e;exact Qwm a b c c2 w d f g
theorem LoadsFault.inj{a r:Nat}{b:List L3}{c d x y:Int}(h:LoadsFault a r b c x)(k:LoadsFault a r b d y):c=d/\x=y:=by
 have p:∀{k e:Nat} {l g:L3},b[k]?=some l->(∀(i:Nat) (x:L3),i<k->b[i]?=some x->IsJ a x.j)->¬IsJ a l.j->b[e]?=some g->(∀(i:Nat) (x:L3),i<e->b[i]?=some x->IsJ a x.j)->¬IsJ a g.j->k=e:=fun {k e l g} f q n t u v=>by
  rcases Nat.lt_trichotomy k e with h|h|h
  . exact absurd (u k l h f) n
  . exact h
  . exact absurd (q e g h t) v
 rcases h with ⟨w,rfl,rfl⟩|⟨w,⟨i,l,f,q,n,rfl,rfl⟩|⟨f,rfl,rfl⟩⟩<;>rcases k with ⟨z,rfl,rfl⟩|⟨z,⟨j,m,o,A,s,rfl,rfl⟩|⟨o,rfl,rfl⟩⟩
 . exact⟨rfl,rfl⟩
 . omega
 . omega
 . omega
 . rw[p f q n o A s]
   exact⟨rfl,rfl⟩
 . exact absurd (o i l f) n
 . omega
 . exact absurd (f j m o) s
 . exact⟨rfl,rfl⟩
theorem Qnn(y z A al:Vx)(c1 c2 c3 cl:Nat)(q:List S2)(r:List B6)(s:List H3)(ls:List L3)(c b:Int)(w:Vz)(hg:Glob w)(hf:FrRow w y z A c1 c2 c3 q r s)(hz:FrSized q r s)(g:FrameFault q r s c b)(hc:c≠0):
 Calls prog 24 #[.agg #[.slice y q.length c1,.slice z r.length c2,.slice A s.length c3],.slice al ls.length cl] w fun e w'=>e=.returned (.tuple #[.agg #[.slice none 0 0,.slice none 0 0],.agg #[.int .i64 c,.int .i64 b]])/\Below w.heap.size w w':=by
 obtain⟨HG,HF,HZ,L,M⟩:=Id hg hf hz g hc;clear hg hf hz g hc;obtain⟨a,i⟩:=nm w.heap.size;obtain⟨t,f⟩:=nm (((w.alloc (.cells #[.slice y q.length c1,.slice z r.length c2,.slice A s.length c3] 26)).alloc (.cells #[.slice none 0 0,.slice none 0 0] 50)).alloc (.cells #[.int .i64 0,.int .i64 0] 31));have d:O (Below w.heap.size w t):=Hi (by rw[<-f];exact(Below.new2 w _ _).alloc (by simp;omega) _);have aa:O (SB t a 26 #[.slice y q.length c1,.slice z r.length c2,.slice A s.length c3]):=Hi (by rw[<-f,<-i];exact((SB.new w _ _).alloc _).alloc _);have C:O (SB t (a+1) 50 #[.slice none 0 0,.slice none 0 0]):=Hi (by rw[<-f,<-i];exact(Qan w _ _ _).alloc _);have u:O (SB t (a+1+1) 31 #[.int .i64 0,.int .i64 0]):=Hi (by
  rw[<-f,<-i];have h:=Qan (w.alloc (.cells #[.slice y q.length c1,.slice z r.length c2,.slice A s.length c3] 26)) (.cells #[.slice none 0 0,.slice none 0 0] 50) 31 #[.int .i64 0,.int .i64 0];rw[World.size_alloc] at h
  exact h)
 obtain⟨D,N⟩:=Ia f i;have k:w.heap.size<=a+1:=by omega
 clear f i;have P:=Hi (Qgp y z A c1 c2 c3 q r s t (HG.o.below d.o) (HF.o.below d.o) HZ.o);go_enter func24,ntmps24;go_wp2_with fail;rw[D.o,N.o];clear D;go_fit P.o;rintro e w1 ⟨c',ab,rfl,g,E⟩;obtain⟨e1,e2⟩:=L.o.inj g;obtain rfl:=e1;obtain rfl:=e2;have v:=Hi E;clear g E;obtain⟨V,B⟩:=nm (w1.alloc (.cells #[.int .i64 c,.int .i64 b] 31));have l:Below t.heap.size t V:=by rw[<-B];exact(v.o).alloc (v.o).size _
 obtain⟨F,G,H⟩:=Ib (C.o.below l C.o.lt) (u.o.below l u.o.lt) (d.o.trans (l.mono d.o.size));obtain⟨K,j⟩:=nm w1.heap.size;have I:SB V K 31 #[.int .i64 c,.int .i64 b]:=by rw[<-B,<-j];exact SB.new w1 _ _
 obtain⟨k0,k1,-⟩:=zc I;have Q:a+1+1<K:=by have:=u.o.lt;have:=(v.o).size;omega
 have R:K≠a+1:=by omega
 have S:K≠a+1+1:=by omega
 obtain⟨m,n⟩:=Ia (F.o.below (Below.refl V.heap.size V) F.o.lt) (G.o.below (Below.refl V.heap.size V) G.o.lt);obtain⟨y0,y1,-⟩:=zc m.o;obtain⟨y2,y3,-⟩:=zc n.o;have T:V.frozen? ⟨a+1,0,none⟩=false:=m.o.free 0;have U:V.frozen? ⟨a+1,1,none⟩=false:=m.o.free 1;have W:V.frozen? ⟨a+1+1,0,none⟩=false:=n.o.free 0;have X:V.frozen? ⟨a+1+1,1,none⟩=false:=n.o.free 1;obtain⟨Y,Z,ad⟩:=Ib (H.o.trans (((Below.refl V.heap.size V)).mono H.o.size)) B j;have e0:(c != 0)=true:=by simpa using M.o
 rw[<-B,<-j] at k0 k1;rw[<-B] at y0 y1 y2 y3 T U W X;rw[<-j] at R S;clear B j I l Q;go_wp2;go_region
 all_goals
  go_wp2;rw[Z.o];have J:=Qcr (x1:=.slice none 0 0) (x2:=.slice none 0 0) (y1:=.int .i64 c) (y2:=.int .i64 b) (by omega:a+1≠a+1+1) m.o n.o;refine bodyPost_ret (Qcq rfl _ _ (a+1) (a+1+1) 50 31 #[.slice none 0 0,.slice none 0 0] #[.int .i64 c,.int .i64 b] (0,0) (0,0) _ _ rfl J.1 rfl J.2.1 underlying50 rfl Tryz.stressInfo underlying31 rfl Tryz.faultInfo) rfl ?_;have x:=(((Y.o.setCell (p:=⟨a+1,0,none⟩) k (.slice none 0 0)).setCell (p:=⟨a+1,1,none⟩) k (.slice none 0 0)).setCell (p:=⟨a+1+1,0,none⟩) (Nat.le_succ_of_le k) (.int .i64 c)).setCell (p:=⟨a+1+1,1,none⟩) (Nat.le_succ_of_le k) (.int .i64 b);exact⟨rfl,x.drew⟩
theorem Qno(z A B Y:Vx)(c1 c2 c3 Z:Nat)(i:List S2)(j:List B6)(k:List H3)(K:List L3)(c d:Int)(w:Vz)(hg:Glob w)(hf:FrRow w z A B c1 c2 c3 i j k)(hz:FrSized i j k)(D:FrameFault i j k 0 0)(hl:ARow L3.cells w Y Z K)(aa:K.length<=9223372036854775807)(l:LoadsFault i.length (j.length+k.length) K c d)(hc:c≠0):
 Calls prog 24 #[.agg #[.slice z i.length c1,.slice A j.length c2,.slice B k.length c3],.slice Y K.length Z] w fun e w'=>e=.returned (.tuple #[.agg #[.slice none 0 0,.slice none 0 0],.agg #[.int .i64 c,.int .i64 d]])/\Below w.heap.size w w':=by
 obtain⟨HG,HF,HZ,ab,HL,ad,ae⟩:=If hg hf hz D hl l hc;have r:=D.few.1;have n1:i.length<=10:=Nat.le_of_not_lt fun h=>r (.inr (.inl h))
 have n2:j.length<=24:=Nat.le_of_not_lt fun h=>r (.inr (.inr (.inl h)))
 have n3:k.length<=20:=Nat.le_of_not_lt fun h=>r (.inr (.inr (.inr h)))
 clear hg hf hz D hl l hc r;obtain⟨a,m⟩:=nm w.heap.size;obtain⟨s,g⟩:=nm (((w.alloc (.cells #[.slice z i.length c1,.slice A j.length c2,.slice B k.length c3] 26)).alloc (.cells #[.slice none 0 0,.slice none 0 0] 50)).alloc (.cells #[.int .i64 0,.int .i64 0] 31));have b:O (Below w.heap.size w s):=Hi (by rw[<-g];exact(Below.new2 w _ _).alloc (by simp;omega) _);have L:O (SB s a 26 #[.slice z i.length c1,.slice A j.length c2,.slice B k.length c3]):=Hi (by rw[<-g,<-m];exact((SB.new w _ _).alloc _).alloc _);have M:O (SB s (a+1) 50 #[.slice none 0 0,.slice none 0 0]):=Hi (by rw[<-g,<-m];exact(Qan w _ _ _).alloc _);have E:O (SB s (a+1+1) 31 #[.int .i64 0,.int .i64 0]):=Hi (by
  rw[<-g,<-m];have h:=Qan (w.alloc (.cells #[.slice z i.length c1,.slice A j.length c2,.slice B k.length c3] 26)) (.cells #[.slice none 0 0,.slice none 0 0] 50) 31 #[.int .i64 0,.int .i64 0];rw[World.size_alloc] at h
  exact h)
 obtain⟨N,af⟩:=Ia g m;have t:w.heap.size<=a+1:=by omega
 clear g m;have ag:=Hi (Qew z A B c1 c2 c3 i j k s (HG.o.below b.o) (HF.o.below b.o) HZ.o ab.o);go_enter func24,ntmps24;go_wp2_with fail;rw[N.o,af.o];clear N;go_fit ag.o;rintro e w1 ⟨rfl,F⟩;obtain⟨I,n⟩:=nm (w1.alloc (.cells #[.int .i64 0,.int .i64 0] 31));have f:Below s.heap.size s I:=by rw[<-n];exact F.alloc F.size _
 have u:=Hi (L.o.below f L.o.lt);have x0:I.cell? ⟨a,0,none⟩=some (.slice z i.length c1):=by
  have h:=u.o.cell 0
  simpa using h
 have x1:I.cell? ⟨a,1,none⟩=some (.slice A j.length c2):=by
  have h:=u.o.cell 1
  simpa using h
 have x2:I.cell? ⟨a,2,none⟩=some (.slice B k.length c3):=by
  have h:=u.o.cell 2
  simpa using h
 have W:I.cell? ⟨w1.heap.size,0,none⟩=some (.int .i64 0):=by rw[<-n];exact(SB.new w1 _ _).cell 0
 rw[<-n] at x0 x1 x2 W;obtain⟨ah,C⟩:=Ia (b.o.trans (f.mono b.o.size)) f;obtain⟨ai,aj⟩:=Ia (Qg9 z A B Y c1 c2 c3 Z i.length j.length k.length K I (HL.o.below ah.o) n1 n2 n3 aa) n;clear n f F u;go_wp2_with fail;rw[aj.o];go_fit ai.o;rintro e w2 ⟨c',aw,rfl,l,P⟩;obtain⟨e1,e2⟩:=ad.o.inj l;obtain rfl:=e1;obtain rfl:=e2;have G:=Hi (C.o.trans (P.mono C.o.size));clear l P x0 x1 x2 W;obtain⟨V,J⟩:=nm (w2.alloc (.cells #[.int .i64 c,.int .i64 d] 31));have v:Below s.heap.size s V:=by rw[<-J];exact(G.o).alloc (G.o).size _
 obtain⟨Q,R,S⟩:=Ib (M.o.below v M.o.lt) (E.o.below v E.o.lt) (b.o.trans (v.mono b.o.size));obtain⟨X,q⟩:=nm w2.heap.size;have T:SB V X 31 #[.int .i64 c,.int .i64 d]:=by rw[<-J,<-q];exact SB.new w2 _ _
 obtain⟨W,k1,-⟩:=zc T;have ak:a+1+1<X:=by have:=E.o.lt;have:=(G.o).size;omega
 have am:X≠a+1:=by omega
 have an:X≠a+1+1:=by omega
 obtain⟨x,y⟩:=Ia (Q.o.below (Below.refl V.heap.size V) Q.o.lt) (R.o.below (Below.refl V.heap.size V) R.o.lt);obtain⟨y0,y1,-⟩:=zc x.o;obtain⟨y2,y3,-⟩:=zc y.o;have ao:V.frozen? ⟨a+1,0,none⟩=false:=x.o.free 0;have ap:V.frozen? ⟨a+1,1,none⟩=false:=x.o.free 1;have aq:V.frozen? ⟨a+1+1,0,none⟩=false:=y.o.free 0;have ar:V.frozen? ⟨a+1+1,1,none⟩=false:=y.o.free 1;obtain⟨au,av,ax⟩:=Ib (S.o.trans (((Below.refl V.heap.size V)).mono S.o.size)) J q;have e0:(c != 0)=true:=by simpa using ae.o
 rw[<-J,<-q] at W k1;rw[<-J] at y0 y1 y2 y3 ao ap aq ar;rw[<-q] at am an;clear J q T v ak;go_wp2;go_region
 all_goals
  go_wp2;rw[av.o];have U:=Qcr (x1:=.slice none 0 0) (x2:=.slice none 0 0) (y1:=.int .i64 c) (y2:=.int .i64 d) (by omega:a+1≠a+1+1) x.o y.o;refine bodyPost_ret (Qcq rfl _ _ (a+1) (a+1+1) 50 31 #[.slice none 0 0,.slice none 0 0] #[.int .i64 c,.int .i64 d] (0,0) (0,0) _ _ rfl U.1 rfl U.2.1 underlying50 rfl Tryz.stressInfo underlying31 rfl Tryz.faultInfo) rfl ?_;have H:=(((au.o.setCell (p:=⟨a+1,0,none⟩) t (.slice none 0 0)).setCell (p:=⟨a+1,1,none⟩) t (.slice none 0 0)).setCell (p:=⟨a+1+1,0,none⟩) (Nat.le_succ_of_le t) (.int .i64 c)).setCell (p:=⟨a+1+1,1,none⟩) (Nat.le_succ_of_le t) (.int .i64 d);exact⟨rfl,H.drew⟩
def SpV(w:Vz)(B:Nat)(v:Value)(x:Vt):Prop:=(v=.slice none 0 0/\x= [])∨∃g,B<=g/\v=.slice (some ⟨g,0,none⟩) x.length x.length/\SB w g 54 (textsV x).toArray
theorem SpV.tlst{w:Vz}{B:Nat}{v:Value}{x:Vt}(h:SpV w B v x):∃a,v=.slice a x.length x.length/\TLst w a x:=by
 rcases h with ⟨rfl,rfl⟩|⟨g,_,rfl,h⟩
 . exact⟨none,rfl,fun i s c=>by simp at c⟩
 . exact⟨_,rfl,h.texts⟩
def CarryAs(c at_:Int)(x y:Vt)(w:Vz)(e:Ending)(w':Vz):Prop:=
 ∃v1 v2,e=.returned (.tuple #[.agg #[v1,v2],.agg #[.int .i64 c,.int .i64 at_]])/\SpV w' w.heap.size v1 x/\SpV w' w.heap.size v2 y/\Below w.heap.size w w'
theorem Qnj{s t:Vs}{q:Rat}(a:QText s.data.toList q)(c:QText t.data.toList q):s=t:=by
 have:=a.inj c;cases s;cases t
 congr 1
 exact Array.toList_inj.1 this
section
variable {nb nh:Nat} {M:List Vec} {b:List Rat} {w w':Vz} {e:Ending}
theorem Qnk(h:CarrySays nb nh M b w e w')(c:∀x,¬Sol (nb+nh) M b x):CarryAs 8 0 [] [] w e w':=by
 obtain⟨h,d⟩:=h;rcases h with ⟨rfl,_⟩|⟨_,x,_,f,_⟩|⟨j,k,x,y,us,_,_,_,_,_,_,a⟩
 . exact⟨_,_,rfl,.inl ⟨rfl,rfl⟩,.inl ⟨rfl,rfl⟩,d⟩
 . exact absurd f (c x)
 . refine absurd ((a (fun i=>match us[i]? with|some t=>t.q|none=>0)).2 fun i t g=>?_) (c _)
   simp only[g]
theorem Qnl(h:CarrySays nb nh M b w e w')(j:∃x y,Sol (nb+nh) M b x/\Sol (nb+nh) M b y/\∃c,c<nb+nh/\x c≠y c):CarryAs 9 0 [] [] w e w':=by
 obtain⟨x,y,g,k,c,l,d⟩:=j;obtain⟨h,m⟩:=h;rcases h with ⟨_,h⟩|⟨rfl,_⟩|⟨n,o,_,_,us,_,_,_,_,_,f,a⟩
 . exact absurd g (h x)
 . exact⟨_,_,rfl,.inl ⟨rfl,rfl⟩,.inl ⟨rfl,rfl⟩,m⟩
 . obtain⟨t,i⟩:∃t,us[c]?=some t:=⟨_,gE (by rw[f.1];exact l)⟩
   exact absurd (((a x).1 g c t i).trans ((a y).1 k c t i).symm) d
theorem Qhr{us:List FE}{ts:List RT}{x a:Vt}(hl:us.length=ts.length)(n:∀(i:Nat) (u:FE) (t:RT),us[i]?=some u->ts[i]?=some t->u.q=t.2.1)(d:Told us x)(o:a.length=ts.length)(f:∀(i:Nat) (t:RT) (s:Vs),ts[i]?=some t->a[i]?=some s->QText s.data.toList t.2.1):x=a:=by
 apply List.ext_getElem?;intro i;rcases Nat.lt_or_ge i us.length with c|c
 .
  have g:=gE c;have h:=gE (l:=ts) (i:=i) (by omega);have j:=gE (l:=x) (i:=i) (by rw[d.1];exact c);have k:=gE (l:=a) (i:=i) (by omega);have m:=d.2 i _ _ g j;rw[n i _ _ g h] at m;rw[j,k,Qnj m (f i _ _ h k)]
 . rw[List.getElem?_eq_none (by rw[d.1];exact c),List.getElem?_eq_none (by omega)]
theorem Qnm(h:CarrySays nb nh M b w e w'){ts:List RT}(hl:ts.length=nb+nh)(d:∀y,Sol (nb+nh) M b y↔∀(i:Nat) (t:RT),ts[i]?=some t->y i=t.2.1){x y:Vt}(l:x.length=nb)(m:y.length=nh)
 (r:∀(i:Nat) (t:RT) (s:Vs),(ts.take nb)[i]?=some t->x[i]?=some s->QText s.data.toList t.2.1) (v:∀(i:Nat) (t:RT) (s:Vs),(ts.drop nb)[i]?=some t->y[i]?=some s->QText s.data.toList t.2.1):CarryAs 0 0 x y w e w':=by
 have p:=(d (ratV ts)).2 fun i t a=>Qd9 a
 obtain⟨h,z⟩:=h;rcases h with ⟨_,h⟩|⟨_,x,y,n,A,c,L,o⟩|⟨B,C,D,E,us,rfl,F,G,H,ty,j,g⟩
 . exact absurd p (h _)
 . obtain⟨t,a⟩:∃t,ts[c]?=some t:=⟨_,gE (by omega)⟩
   exact absurd (((d x).1 n c t a).trans ((d y).1 A c t a).symm) o
 .
  have I:=(g _).1 p;have k:∀(i:Nat) (u:FE) (t:RT),us[i]?=some u->ts[i]?=some t->u.q=t.2.1:=fun i u t f a=>by rw[<-I i u f,Qd9 a]
  have J:D=x:=Qhr (us:=us.take nb) (ts:=ts.take nb) (by rw[List.length_take,List.length_take];omega) (fun i u t f a=>by
   have n:=(gZ f).1;rw[List.length_take] at n;rw[List.getElem?_take_of_lt (by omega)] at f a
   exact k i u t f a) H (by rw[List.length_take];omega) r
  have K:E=y:=Qhr (us:=us.drop nb) (ts:=ts.drop nb) (by rw[List.length_drop,List.length_drop];omega) (fun i u t f a=>by
   rw[List.getElem?_drop] at f a
   exact k _ u t f a) ty (by rw[List.length_drop];omega) v
  subst J K;exact⟨_,_,rfl,.inr ⟨B,j.2.1,by rw[l],F⟩,.inr ⟨C,j.2.2,by rw[m],G⟩,z⟩
end
def SpW(w:Vz)(B:Nat)(v:Value)(n:Nat):Prop:=(v=.slice none 0 0/\n=0)∨∃(g:Nat) (C:Vw),B<=g/\v=.slice (some ⟨g,0,none⟩) n n/\SB w g 54 C/\C.size=n
theorem SpV.spw{w:Vz}{B:Nat}{v:Value}{x:Vt}(h:SpV w B v x):SpW w B v x.length:=by
 rcases h with ⟨rfl,rfl⟩|⟨g,a,rfl,c⟩
 . exact .inl ⟨rfl,rfl⟩
 . exact .inr ⟨g,_,a,rfl,c,by simp[textsV]⟩
theorem SpW.below{w w':Vz}{B n:Nat}{v:Value}(h:SpW w B v n)(c:Below w.heap.size w w'):SpW w' B v n:=by
 rcases h with h|⟨g,C,d,f,a,i⟩
 . exact .inl h
 . exact .inr ⟨g,C,d,f,a.below c a.lt,i⟩
theorem Qhs{w:Vz}{B n:Nat}{v:Value}(h:SpW w B v n)(j:n<=1000)(hB:B<=w.heap.size):
 Calls prog 25 #[v] w fun e w'=>e=.returned (.tuple #[])/\Below B w w'/\(∀c m,SpW w B c m->SpW w' B c m)/\∀b t C,SB w b t C->t≠54->SB w' b t C:=by
 rcases h with ⟨rfl,rfl⟩|⟨g,C,k,rfl,a,l⟩
 .
  refine(Qvg w).mono ?_;rintro e w' ⟨rfl,rfl⟩;exact⟨rfl,Below.refl _ _,fun _ _ h=>h,fun _ _ _ h _=>h⟩
 .
  refine(Qvh g n C w a l j).mono ?_;rintro e w' ⟨rfl,d,o,p,r⟩;refine⟨rfl,d.below k hB,fun c m h=>?_,fun b t D i q=>i.only d (i.unlike a q)⟩;rcases h with h|⟨f,D,d1,rfl,d2,d3⟩
  . exact .inl h
  .
   by_cases e:f=g
   .
    subst e;have:D=C:=by
     unfold SB at d2 a;rw[d2] at a;injection a with a
     injection a
    subst this;exact .inr ⟨f,o,d1,rfl,p,by omega⟩
   . exact .inr ⟨f,D,d1,rfl,d2.only d e,d3⟩
end Go.Proofs.YtppkmifkpjkgpaaGreatDoor
