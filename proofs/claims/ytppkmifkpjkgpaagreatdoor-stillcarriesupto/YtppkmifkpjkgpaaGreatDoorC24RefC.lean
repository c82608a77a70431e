import Derived.Test.YtppkmifkpjkgpaaGreatDoorC23MapPair
namespace Go.Proofs.YtppkmifkpjkgpaaGreatDoor
open Go.RowKit
open Go.Proofs.Tryz
set_option linter.unusedSimpArgs false
set_option linter.unusedVariables false
set_option maxHeartbeats 8000000
set_option maxRecDepth 1000000
def holdC(n:Nat)(j wy:Int)(tw:Bool):Int:=if 0<=j/\j<n then (if wy≠1/\wy≠2 then 3 else if tw=true then 7 else 0) else 4
theorem Qti(a:Vx)(n cap:Nat)(j k:Int)(q:Vs)(p:Bool)(w:Vz):
 Calls prog 123 #[.slice a n cap,.agg #[.int .i64 j,.int .i64 k,.string q],.bool p] w fun e w'=>e=.returned (.int .i64 (holdC n j k p))/\Below w.heap.size w w':=by
 unfold holdC;by_cases m:IsJ n j
 .
  rw[if_pos (show 0<=j/\j<(n:Int) from m)];have l:=Hi m;clear m;by_cases r:k=1
  .
   subst r;rw[if_neg (by simp)];cases p with
   |true=>
    rw[if_pos rfl];go_enter func123,ntmps123;obtain⟨W,b⟩:=nm (w.alloc (.cells #[.int .i64 j,.int .i64 1,.string q] 83));have d:=Ua b;have c:SB W w.heap.size 83 #[.int .i64 j,.int .i64 1,.string q]:=by rw[<-b];exact SB.new w _ _
    obtain⟨f,g,h,-⟩:=zc c;rw[<-b] at f g h;have i:=Hi b;clear b c;go_wp2_with fail;go_fit (Qbd a n cap j _ l.o);rintro e w1 ⟨rfl,rfl⟩;go_wp2;go_ret;exact⟨rfl,by rw[i.o];exact d.o⟩
   |false=>
    rw[if_neg (by simp)];go_enter func123,ntmps123;obtain⟨W,b⟩:=nm (w.alloc (.cells #[.int .i64 j,.int .i64 1,.string q] 83));have d:=Ua b;have c:SB W w.heap.size 83 #[.int .i64 j,.int .i64 1,.string q]:=by rw[<-b];exact SB.new w _ _
    obtain⟨f,g,h,-⟩:=zc c;rw[<-b] at f g h;have i:=Hi b;clear b c;go_wp2_with fail;go_fit (Qbd a n cap j _ l.o);rintro e w1 ⟨rfl,rfl⟩;go_wp2;go_ret;exact⟨rfl,by rw[i.o];exact d.o⟩
  .
   by_cases s:k=2
   .
    subst s;rw[if_neg (by simp)];cases p with
    |true=>
     rw[if_pos rfl];go_enter func123,ntmps123;obtain⟨W,b⟩:=nm (w.alloc (.cells #[.int .i64 j,.int .i64 2,.string q] 83));have d:=Ua b;have c:SB W w.heap.size 83 #[.int .i64 j,.int .i64 2,.string q]:=by rw[<-b];exact SB.new w _ _
     obtain⟨f,g,h,-⟩:=zc c;rw[<-b] at f g h;have i:=Hi b;clear b c;go_wp2_with fail;go_fit (Qbd a n cap j _ l.o);rintro e w1 ⟨rfl,rfl⟩;go_wp2;go_ret;exact⟨rfl,by rw[i.o];exact d.o⟩
    |false=>
     rw[if_neg (by simp)];go_enter func123,ntmps123;obtain⟨W,b⟩:=nm (w.alloc (.cells #[.int .i64 j,.int .i64 2,.string q] 83));have d:=Ua b;have c:SB W w.heap.size 83 #[.int .i64 j,.int .i64 2,.string q]:=by rw[<-b];exact SB.new w _ _
     obtain⟨f,g,h,-⟩:=zc c;rw[<-b] at f g h;have i:=Hi b;clear b c;go_wp2_with fail;go_fit (Qbd a n cap j _ l.o);rintro e w1 ⟨rfl,rfl⟩;go_wp2;go_ret;exact⟨rfl,by rw[i.o];exact d.o⟩
   .
    rw[if_pos ⟨r,s⟩];have t:(k != 1)=true:=by simpa using r
    have u:(k != 2)=true:=by simpa using s
    clear r s;go_enter func123,ntmps123;obtain⟨W,b⟩:=nm (w.alloc (.cells #[.int .i64 j,.int .i64 k,.string q] 83));have d:=Ua b;have c:SB W w.heap.size 83 #[.int .i64 j,.int .i64 k,.string q]:=by rw[<-b];exact SB.new w _ _
    obtain⟨f,g,h,-⟩:=zc c;rw[<-b] at f g h;have i:=Hi b;clear b c;go_wp2_with fail;go_fit (Qbd a n cap j _ l.o);rintro e w1 ⟨rfl,rfl⟩;go_wp2;go_ret;exact⟨rfl,by rw[i.o];exact d.o⟩
 .
  rw[if_neg (show ¬(0<=j/\j<(n:Int)) from m)];have l:=Hi m;clear m;go_enter func123,ntmps123;obtain⟨W,b⟩:=nm (w.alloc (.cells #[.int .i64 j,.int .i64 k,.string q] 83));have d:=Ua b;have c:SB W w.heap.size 83 #[.int .i64 j,.int .i64 k,.string q]:=by rw[<-b];exact SB.new w _ _
  obtain⟨f,g,h,-⟩:=zc c;rw[<-b] at f g h;have i:=Hi b;clear b c;go_wp2_with fail;go_fit (Qem a n cap j _ l.o);rintro e w1 ⟨rfl,rfl⟩;go_wp2;go_ret;exact⟨rfl,by rw[i.o];exact d.o⟩
def places(hs:List H3):List (Int × Int):=hs.map fun h=>(h.j,h.w)
def holdAt(n:Nat)(hs:List H3)(k:Nat)(h:H3):Int:=holdC n h.j h.w (decide ((h.j,h.w)∈ places (hs.take k)))
def HoldsFault(n m:Nat)(hs:List H3)(c at_:Int):Prop:=
 (∃k h,hs[k]?=some h/\(∀i x,i<k->hs[i]?=some x->holdAt n hs i x=0)/\holdAt n hs k h=c/\c≠0/\at_=m+k)∨
 ((∀i x,hs[i]?=some x->holdAt n hs i x=0)/\c=0/\at_=0)
theorem PairSet.push{a:Array MapEntry}{c:List (Int × Int)}{p:Int × Int}{b:Nat}(h:PairSet a c):PairSet (a.push { key:=pairV p,val:=.agg #[],born:=b }) (c++ [p]):=by
 unfold PairSet at*;rw[Array.toList_push,List.map_append,h,List.map_append];rfl
theorem Qtj{a:List H3}{k:Nat}{h:H3}(hk:a[k]?=some h):places (a.take (k+1))=places (a.take k)++ [(h.j,h.w)]:=by
 unfold places;rw[List.take_add_one,hk];simp
theorem Tryz.faultInfo:(prog.info? 31).map (·.size)=some 2:=by kernel_rfl
theorem Qtk{w:Vz}{r b:Nat}{o:Obj}(h:b≠r):({ w with heap:=w.heap.setIfInBounds r o }:World).heap[b]?=w.heap[b]?:=by
 simp[Array.getElem?_setIfInBounds,h.symm]
theorem Only.map{w:Vz}{r:Nat}(o:Obj):Only r w { w with heap:=w.heap.setIfInBounds r o }:=⟨rfl,rfl,rfl,by simp,fun k hk a=>Qtk a⟩
theorem Qtl{w:Vz}{r:Nat}{o:Obj}(h:r<w.heap.size):({ w with heap:=w.heap.setIfInBounds r o }:World).heap[r]?=some o:=by
 simp[Array.getElem?_setIfInBounds,h]
theorem Qtm(a1 a2 a3:Vx)(n c1 m c2 c3:Nat)(g:List H3)(w:Vz)(hh:ARow H3.cells w a3 c3 g)(hl:g.length<=20)(hm:m<=24):
 Calls prog 75 #[.agg #[.slice a1 n c1,.slice a2 m c2,.slice a3 g.length c3]] w fun e w'=>∃c aa,e=.returned (.agg #[.int .i64 c,.int .i64 aa])/\HoldsFault n m g c aa/\Below w.heap.size w w':=by
 have HH:=Hi hh;clear hh;go_enter func75,ntmps75;obtain⟨W,L⟩:=nm (((w.alloc (.cells #[.slice a1 n c1,.slice a2 m c2,.slice a3 g.length c3] 26)).alloc (.cells #[.int .i64 0,.int .i64 0] 31)).alloc (.map #[] 0));have B:O (Below w.heap.size w W):=Hi (by rw[<-L];exact(Below.new2 w _ _).alloc (by simp<;>omega) _);have C:O (SB W w.heap.size 26 #[.slice a1 n c1,.slice a2 m c2,.slice a3 g.length c3]):=Hi (by rw[<-L];exact((SB.new w _ _).alloc _).alloc _);have ab:O (SB W (w.heap.size+1) 31 #[.int .i64 0,.int .i64 0]):=Hi (by rw[<-L];exact(SB.new2 w _ _ _ _).alloc _);have ad:O (W.heap[w.heap.size+2]?=some (.map #[] 0)):=Hi (by
  rw[<-L];have:=(Go.MapKept.heap_alloc ((w.alloc (.cells #[.slice a1 n c1,.slice a2 m c2,.slice a3 g.length c3] 26)).alloc (.cells #[.int .i64 0,.int .i64 0] 31)) (.map #[] 0)).1
  simpa using this)
 obtain⟨-,-,k2,-⟩:=zc C.o;rw[<-L] at k2;have HW:=Hi L;have M:∀v:Vz,(Instr.makeMap 176 none).run prog v=.ok (.map (some v.heap.size)) (v.alloc (.map #[] 0)):=fun v=>rfl
 clear L;go_wp2_with fail;rw[HW.o];clear k2 M;obtain⟨r,hr⟩:=nm (w.heap.size+1+1);have ax:w.heap.size+1<r:=by omega
 have ao:O (W.heap[r]?=some (.map #[] 0)):=Hi (by rw[<-hr];exact ad.o);rw[hr];clear hr ad;go_loopw [14] (fun iv wr=>∃(k:Nat) (A:Array MapEntry) (a:Nat),k<=g.length/\iv=.int .i64 k/\(∀i x,i<k->g[i]?=some x->holdAt n g i x=0)/\PairSet A (places (g.take k))/\wr.heap[r]?=some (.map A a)/\Only r W wr) (fun iv _=>g.length - (intOf iv).toNat)
 case atStart=>exact⟨0,#[],0,by omega,rfl,fun i x hi=>by omega,rfl,ao.o,Only.refl _ _⟩
 case round=>
  obtain⟨k,A,a,hk,rfl,H,ae,s,ho⟩:=hrel;obtain⟨t,N,I,HO⟩:=Ic H ae s ho;have af:O (Below w.heap.size w wr):=Hi (B.o.trans (ho.below (by omega) B.o.size));have ag:r<wr.heap.size:=by
   rcases Nat.lt_or_ge r wr.heap.size with h|h
   . exact h
   . rw[Array.getElem?_eq_none h] at s
     cases s
  clear H ae s ho;by_cases ap:k<g.length
  .
   obtain⟨f,hf⟩:∃f,g[k]?=some f:=⟨g[k],gE ap⟩;obtain⟨fb,ay,rfl,az,d0,d1,d2⟩:=(HH.o.below af.o).hold hf;have P:=Hi hf;obtain⟨V,hV⟩:=nm ((wr.alloc (.cells #[.int .i64 f.j,.int .i64 f.w,.string f.q] 83)).alloc (.cells #[.int .i64 f.j,.int .i64 f.w] 177));have u:Below wr.heap.size wr V:=by rw[<-hV];exact Below.new2 wr _ _
   have ah:V.heap[r]?=some (.map A a):=(u.block r ag).trans I.o;have y:(Instr.lookup 176 (.map (some r)) (.agg #[.int .i64 f.j,.int .i64 f.w]) true).run prog V=.ok (.tuple #[.agg #[],.bool (decide ((f.j,f.w)∈ places (g.take k)))]) V:=Qp0 r a A _ (f.j,f.w) V ah N.o;obtain⟨tw,Q⟩:=nm (decide ((f.j,f.w)∈ places (g.take k)));rw[Q,<-hV] at y;obtain⟨R,HV,a0⟩:=Ib Q hV u;have q1:((k:Int)<(g.length:Int)):=by omega
   obtain⟨V3,D⟩:=nm (V.alloc (.cells #[] 178));have S:Below wr.heap.size wr V3:=by rw[<-D];exact u.alloc u.size _
   have ai:=Hi S;have z:=(C.o.only HO.o (by omega)).below S (C.o.only HO.o (by omega)).lt;obtain⟨k0,k1,-⟩:=zc z;rw[<-D,<-hV] at k0 k1;have aj:=Hi D;clear hf Q hV u ah D S z;go_wp2_with fail;rw[HV.o,aj.o];clear k0 k1 y d0 d1 d2;obtain⟨Z,l⟩:=nm (holdC n f.j f.w tw);have ak:=Hi (Qti a1 n c1 f.j f.w f.q tw V3);rw[l] at ak;have T:O (holdAt n g k f=Z):=Hi (by unfold holdAt;rw[R.o];exact l);clear l;go_fit ak.o;rintro e E ⟨rfl,U⟩;obtain⟨X,al⟩:=Ia (ai.o.trans (U.mono ai.o.size)) U;have F:O (Only r W E):=Hi (HO.o.trans (Only.of_below X.o));have aq:O (E.heap[r]?=some (.map A a)):=Hi ((X.o.block r ag).trans I.o);have z:=C.o.only F.o (by omega)
   have d:=ab.o.only F.o (by omega);obtain⟨-,k1,-⟩:=zc z;obtain⟨z0,z1,-⟩:=zc d;have f0:=d.free 0;have f1:=d.free 1;have Y:=Hi d;clear z d U;by_cases l:Z=0
   .
    subst l;have am:tw=false:=by
     cases tw with
     |false=>rfl
     |true=>
      exfalso
      have h:=T.o;unfold holdAt holdC at h;rw[R.o] at h
      split at h
      .
       split at h
       . simp at h
       . simp at h
      . simp at h
    have J:(f.j,f.w) ∉ places (g.take k):=of_decide_eq_false (R.o.trans am);have an:(Instr.mapUpdate 176 (.map (some r)) (.agg #[.int .i64 f.j,.int .i64 f.w]) (.agg #[])).run prog E=.ok () { E with heap:=E.heap.setIfInBounds r (.map (A.push { key:=.agg #[.int .i64 f.j,.int .i64 f.w],val:=.agg #[],born:=a }) (a+1)) }:=Qp1 r a A _ (f.j,f.w) E aq.o N.o J;obtain⟨w5,G⟩:∃w5,({ E with heap:=E.heap.setIfInBounds r (.map (A.push { key:=.agg #[.int .i64 f.j,.int .i64 f.w],val:=.agg #[],born:=a }) (a+1)) }:World)=w5:=⟨_,rfl⟩;have ar:O (Only r W w5):=Hi (by rw[<-G];exact F.o.trans (Only.map _));have au:O (w5.heap[r]?=some (.map (A.push { key:=.agg #[.int .i64 f.j,.int .i64 f.w],val:=.agg #[],born:=a }) (a+1))):=Hi (by rw[<-G];exact Qtl (by have:=X.o.size;omega));rw[G] at an
    have hv:=(HV.o ▸ SB.new2 wr 83 177 #[.int .i64 f.j,.int .i64 f.w,.string f.q] #[.int .i64 f.j,.int .i64 f.w]:SB V (wr.heap.size+1) 177 #[.int .i64 f.j,.int .i64 f.w]);have K:Below V.heap.size V E:=by
     have h1:Below V.heap.size V V3:=by rw[<-aj.o];exact(Below.refl _ _).alloc lZ _
     exact h1.trans (al.o.mono h1.size)
    obtain⟨p0,p1,-⟩:=zc (hv.below K hv.lt);clear am G J hv K;go_wp2;go_roundw
    case rel=>
     refine⟨k+1,_,_,by omega,by go_num,?_,?_,au.o,ar.o⟩
     .
      intro i x hi hx;rcases Nat.lt_or_ge i k with h|h
      . exact t.o i x h hx
      .
       obtain rfl:i=k:=by omega
       obtain rfl:=Option.some.inj (P.o.symm.trans hx);exact T.o
     . rw[Qtj P.o]
       exact N.o.push (p:=(f.j,f.w)) (b:=a)
    case measure=>simp[intOf];omega
   .
    have e0:(Z != 0)=true:=by simpa using l
    go_wp2;have av:=Hi (B.o.trans (F.o.below (by omega) B.o.size));refine bodyPost_ret (v:=.agg #[.int .i64 Z,.int .i64 ((m:Int)+(k:Int))]) (results_cell_row rfl _ _ (w.heap.size+1) 31 #[.int .i64 Z,.int .i64 ((m:Int)+(k:Int))] (0,0) _ rfl ((Y.o.set 0 _).set 1 _) underlying31 rfl Tryz.faultInfo) rfl ?_;exact⟨Z,_,rfl,.inl ⟨k,f,P.o,t.o,T.o,l,rfl⟩,(av.o.setCell (Nat.le_succ _) _).setCell (Nat.le_succ _) _⟩
  .
   have aw:k=g.length:=by omega
   subst aw;have d:=ab.o.only HO.o (by omega);obtain⟨z0,z1,-⟩:=zc d;have f0:=d.free 0;have f1:=d.free 1;have Y:=Hi d;clear d;go_wp2;refine bodyPost_ret (v:=.agg #[.int .i64 0,.int .i64 0]) (results_cell_row rfl _ _ (w.heap.size+1) 31 #[.int .i64 0,.int .i64 0] (0,0) _ rfl ((Y.o.set 0 _).set 1 _) underlying31 rfl Tryz.faultInfo) rfl ?_;refine⟨0,0,rfl,.inr ⟨fun i x hx=>t.o i x (gZ hx).1 hx,rfl,rfl⟩,(af.o.setCell (Nat.le_succ _) _).setCell (Nat.le_succ _) _⟩
theorem Qtn(a:Vx)(cap:Nat)(d:List S2)(b:B6)(w:Vz)(K:Glob w)(L:ARow S2.cells w a cap d)(C:∀p,p∈ d->p.x.size<=1048576/\p.y.size<=1048576)(t:b.c.size<=1048576/\b.e.size<=1048576/\b.l.size<=1048576/\b.m.size<=1048576):
 Calls prog 74 #[.slice a d.length cap,.agg #[.int .i64 b.a,.int .i64 b.b,.string b.c,.string b.e,.string b.l,.string b.m]] w fun e w'=>∃c,e=.returned (.int .i64 c)/\BarCode d b c/\Below w.heap.size w w':=by
 by_cases h:IsJ d.length b.a/\IsJ d.length b.b
 .
  obtain⟨u,f⟩:=Int.eq_ofNat_of_zero_le h.1.1;obtain⟨v,g⟩:=Int.eq_ofNat_of_zero_le h.2.1;have M:u<d.length:=by have:=h.1.2;omega
  have N:v<d.length:=by have:=h.2.2;omega
  obtain⟨p,z⟩:∃p,d[u]?=some p:=⟨_,gE M⟩;obtain⟨q,A⟩:∃q,d[v]?=some q:=⟨_,gE N⟩;obtain⟨D,i⟩:=QOf.ex p.x.data.toList;obtain⟨E,j⟩:=QOf.ex p.y.data.toList;obtain⟨F,k⟩:=QOf.ex q.x.data.toList;obtain⟨G,n⟩:=QOf.ex q.y.data.toList;obtain⟨H,o⟩:=QOf.ex b.c.data.toList;obtain⟨I,r⟩:=QOf.ex b.l.data.toList;obtain⟨J,s⟩:=QOf.ex b.m.data.toList;rw[f,g];refine(Qth a cap u v d p q b.c b.e b.l b.m D E F G H I J w K L z A (C p (mO z)) (C q (mO A)) ⟨t.1,t.2.2.1,t.2.2.2⟩ i j k n o r s).mono ?_;rintro e w' ⟨rfl,B⟩;exact⟨_,rfl,.inr ⟨h.1,h.2,p,q,by rw[f];exact z,by rw[g];exact A,D,E,F,G,H,I,J,i,j,k,n,o,r,s,rfl⟩,B⟩
 .
  refine(Qtg a d.length cap b.a b.b b.c b.e b.l b.m w h).mono ?_;rintro e w' ⟨rfl,B⟩;exact⟨_,rfl,.inl ⟨h,rfl⟩,B⟩
def Many(j b h:Nat):Prop:=j<1∨10<j∨24<b∨20<h
def FrameFault(js:List S2)(bs:List B6)(hs:List H3)(c at_:Int):Prop:=
 (Many js.length bs.length hs.length/\c=2/\at_=0)∨
 (¬Many js.length bs.length hs.length/\∃(k:Nat) (b:B6),bs[k]?=some b/\(∀(i:Nat) (x:B6),i<k->bs[i]?=some x->BarCode js x 0)/\BarCode js b c/\c≠0/\at_=(k:Int))∨
 (¬Many js.length bs.length hs.length/\(∀(i:Nat) (x:B6),bs[i]?=some x->BarCode js x 0)/\HoldsFault js.length bs.length hs c at_)
theorem HoldsFault.inj{n m:Nat}{p:List H3}{c d x y:Int}(h:HoldsFault n m p c x)(k:HoldsFault n m p d y):c=d/\x=y:=by
 rcases h with ⟨i,f,l,b,rfl,q,rfl⟩|⟨b,rfl,rfl⟩
 .
  rcases k with ⟨j,g,e,a,rfl,o,rfl⟩|⟨a,_,_⟩
  .
   rcases Nat.lt_trichotomy i j with h|rfl|h
   . exact absurd (a i f h l) q
   .
    rw[l] at e;cases e;exact⟨rfl,rfl⟩
   . exact absurd (b j g h e) o
  . exact absurd (a i f l) q
 .
  rcases k with ⟨j,g,e,a,rfl,o,rfl⟩|⟨a,rfl,rfl⟩
  . exact absurd (b j g e) o
  . exact⟨rfl,rfl⟩
theorem FrameFault.inj{r:List S2}{s:List B6}{t:List H3}{c d x y:Int}(h:FrameFault r s t c x)(k:FrameFault r s t d y):c=d/\x=y:=by
 rcases h with ⟨l,rfl,rfl⟩|⟨l,i,f,o,b,p,u,rfl⟩|⟨l,b,v⟩
 .
  rcases k with ⟨_,rfl,rfl⟩|⟨e,_⟩|⟨e,_⟩
  . exact⟨rfl,rfl⟩
  . exact absurd l e
  . exact absurd l e
 .
  rcases k with ⟨e,_⟩|⟨_,j,g,m,a,n,q,rfl⟩|⟨_,a,_⟩
  . exact absurd e l
  .
   rcases Nat.lt_trichotomy i j with h|rfl|h
   . exact absurd (p.inj (a i f h o)) u
   .
    rw[o] at m;cases m;exact⟨p.inj n,rfl⟩
   . exact absurd (n.inj (b j g h m)) q
  . exact absurd (p.inj (a i f o)) u
 .
  rcases k with ⟨e,_⟩|⟨_,j,g,m,a,n,q,rfl⟩|⟨_,a,w⟩
  . exact absurd e l
  . exact absurd (n.inj (b j g m)) q
  . exact v.inj w
theorem Qgp(N R S:Vx)(c1 c2 c3:Nat)(s:List S2)(t:List B6)(y:List H3)(w:Vz)(K:Glob w)(L:FrRow w N R S c1 c2 c3 s t y)(M:FrSized s t y):
 Calls prog 36 #[.agg #[.slice N s.length c1,.slice R t.length c2,.slice S y.length c3]] w fun e w'=>∃c E,e=.returned (.agg #[.int .i64 c,.int .i64 E])/\FrameFault s t y c E/\Below w.heap.size w w':=by
 by_cases h1:s.length<1
 .
  have B:O (Many s.length t.length y.length):=Hi (.inl h1);have q1:((s.length:Int)<1):=by omega
  obtain⟨HG,U,Z⟩:=Ib K L M;clear K L M;go_enter func36,ntmps36;obtain⟨W,n⟩:=nm ((w.alloc (.cells #[.slice N s.length c1,.slice R t.length c2,.slice S y.length c3] 26)).alloc (.cells #[.int .i64 0,.int .i64 0] 31));have u:=Ub n;have g:=Ud n;have d:=Ue n;have r:O (Below W.heap.size W W):=Hi bR;have p:=g.o.below r.o g.o.lt;have q:=d.o.below r.o d.o.lt;obtain⟨A,x1,-⟩:=zc p
  obtain⟨-,-,x2,-⟩:=zc p;obtain⟨C,D,-⟩:=zc q;have f0:=q.free 0;have f1:=q.free 1;clear p q;rw[<-n] at A x1 x2 C D f0 f1;have HW:=Hi n;clear n;go_wp2;refine bodyPost_ret (v:=.agg #[.int .i64 2,.int .i64 0]) (results_cell_row rfl _ _ (w.heap.size+1) 31 #[.int .i64 2,.int .i64 0] (0,0) _ rfl (SB.new2 w _ _ _ _) underlying31 rfl Tryz.faultInfo) rfl ?_;exact⟨2,0,rfl,Or.inl ⟨B.o,rfl,rfl⟩,Below.new2 w _ _⟩
 by_cases h2:10<s.length
 .
  have B:O (Many s.length t.length y.length):=Hi (.inr (.inl h2));have q1:¬((s.length:Int)<1):=by omega
  have q2:((10:Int)<(s.length:Int)):=by omega
  obtain⟨HG,U,Z⟩:=Ib K L M;clear K L M;go_enter func36,ntmps36;obtain⟨W,n⟩:=nm ((w.alloc (.cells #[.slice N s.length c1,.slice R t.length c2,.slice S y.length c3] 26)).alloc (.cells #[.int .i64 0,.int .i64 0] 31));have u:=Ub n;have g:=Ud n;have d:=Ue n;have r:O (Below W.heap.size W W):=Hi bR;have p:=g.o.below r.o g.o.lt;have q:=d.o.below r.o d.o.lt;obtain⟨A,x1,-⟩:=zc p
  obtain⟨-,-,x2,-⟩:=zc p;obtain⟨C,D,-⟩:=zc q;have f0:=q.free 0;have f1:=q.free 1;clear p q;rw[<-n] at A x1 x2 C D f0 f1;have HW:=Hi n;clear n;go_wp2;refine bodyPost_ret (v:=.agg #[.int .i64 2,.int .i64 0]) (results_cell_row rfl _ _ (w.heap.size+1) 31 #[.int .i64 2,.int .i64 0] (0,0) _ rfl (SB.new2 w _ _ _ _) underlying31 rfl Tryz.faultInfo) rfl ?_;exact⟨2,0,rfl,Or.inl ⟨B.o,rfl,rfl⟩,Below.new2 w _ _⟩
 by_cases h3:24<t.length
 .
  have B:O (Many s.length t.length y.length):=Hi (.inr (.inr (.inl h3)));have q1:¬((s.length:Int)<1):=by omega
  have q2:¬((10:Int)<(s.length:Int)):=by omega
  have q3:((24:Int)<(t.length:Int)):=by omega
  obtain⟨HG,U,Z⟩:=Ib K L M;clear K L M;go_enter func36,ntmps36;obtain⟨W,n⟩:=nm ((w.alloc (.cells #[.slice N s.length c1,.slice R t.length c2,.slice S y.length c3] 26)).alloc (.cells #[.int .i64 0,.int .i64 0] 31));have u:=Ub n;have g:=Ud n;have d:=Ue n;have r:O (Below W.heap.size W W):=Hi bR;have p:=g.o.below r.o g.o.lt;have q:=d.o.below r.o d.o.lt;obtain⟨A,x1,-⟩:=zc p
  obtain⟨-,-,x2,-⟩:=zc p;obtain⟨C,D,-⟩:=zc q;have f0:=q.free 0;have f1:=q.free 1;clear p q;rw[<-n] at A x1 x2 C D f0 f1;have HW:=Hi n;clear n;go_wp2;refine bodyPost_ret (v:=.agg #[.int .i64 2,.int .i64 0]) (results_cell_row rfl _ _ (w.heap.size+1) 31 #[.int .i64 2,.int .i64 0] (0,0) _ rfl (SB.new2 w _ _ _ _) underlying31 rfl Tryz.faultInfo) rfl ?_;exact⟨2,0,rfl,Or.inl ⟨B.o,rfl,rfl⟩,Below.new2 w _ _⟩
 by_cases h4:20<y.length
 .
  have B:O (Many s.length t.length y.length):=Hi (.inr (.inr (.inr h4)));have q1:¬((s.length:Int)<1):=by omega
  have q2:¬((10:Int)<(s.length:Int)):=by omega
  have q3:¬((24:Int)<(t.length:Int)):=by omega
  have q4:((20:Int)<(y.length:Int)):=by omega
  obtain⟨HG,U,Z⟩:=Ib K L M;clear K L M;go_enter func36,ntmps36;obtain⟨W,n⟩:=nm ((w.alloc (.cells #[.slice N s.length c1,.slice R t.length c2,.slice S y.length c3] 26)).alloc (.cells #[.int .i64 0,.int .i64 0] 31));have u:=Ub n;have g:=Ud n;have d:=Ue n;have r:O (Below W.heap.size W W):=Hi bR;have p:=g.o.below r.o g.o.lt;have q:=d.o.below r.o d.o.lt;obtain⟨A,x1,-⟩:=zc p
  obtain⟨-,-,x2,-⟩:=zc p;obtain⟨C,D,-⟩:=zc q;have f0:=q.free 0;have f1:=q.free 1;clear p q;rw[<-n] at A x1 x2 C D f0 f1;have HW:=Hi n;clear n;go_wp2;refine bodyPost_ret (v:=.agg #[.int .i64 2,.int .i64 0]) (results_cell_row rfl _ _ (w.heap.size+1) 31 #[.int .i64 2,.int .i64 0] (0,0) _ rfl (SB.new2 w _ _ _ _) underlying31 rfl Tryz.faultInfo) rfl ?_;exact⟨2,0,rfl,Or.inl ⟨B.o,rfl,rfl⟩,Below.new2 w _ _⟩
 have aa:O (¬Many s.length t.length y.length):=Hi (by rintro(h|h|h|h)<;>omega);have q1:¬((s.length:Int)<1):=by omega
 have q2:¬((10:Int)<(s.length:Int)):=by omega
 have q3:¬((24:Int)<(t.length:Int)):=by omega
 have q4:¬((20:Int)<(y.length:Int)):=by omega
 obtain⟨HG,U,Z⟩:=Ib K L M;clear K L M;go_enter func36,ntmps36;obtain⟨W,n⟩:=nm ((w.alloc (.cells #[.slice N s.length c1,.slice R t.length c2,.slice S y.length c3] 26)).alloc (.cells #[.int .i64 0,.int .i64 0] 31));have u:=Ub n;have g:=Ud n;have d:=Ue n;have r:O (Below W.heap.size W W):=Hi bR;have p:=g.o.below r.o g.o.lt;have q:=d.o.below r.o d.o.lt;obtain⟨A,x1,-⟩:=zc p
 obtain⟨-,-,x2,-⟩:=zc p;obtain⟨C,D,-⟩:=zc q;have f0:=q.free 0;have f1:=q.free 1;clear p q;rw[<-n] at A x1 x2 C D f0 f1;have HW:=Hi n;clear n;go_wp2_with fail;rw[HW.o];clear A x1 x2 C D f0 f1;go_loopw [32] (fun iv wr=>∃k:Nat,k<=t.length/\iv=.int .i64 k/\(∀(i:Nat) (x:B6),i<k->t[i]?=some x->BarCode s x 0)/\Below W.heap.size W wr) (fun iv _=>t.length - (intOf iv).toNat)
 case atStart=>exact⟨0,by omega,rfl,fun i x hi=>by omega,Below.refl _ _⟩
 case round=>
  obtain⟨k,hk,rfl,T,hb⟩:=hrel;obtain⟨G,HB,ab⟩:=Ib T hb (u.o.trans (hb.mono u.o.size));clear T hb;by_cases ad:k<t.length
  .
   obtain⟨f,X⟩:∃f,t[k]?=some f:=⟨t[k],gE ad⟩;obtain⟨fb,af,rfl,ag,d0,d1,d2,d3,d4,d5⟩:=(U.o.b.below ab.o).bar X;have Y:=Hi X;have q5:((k:Int)<(t.length:Int)):=by omega
   obtain⟨V,hV⟩:=nm (wr.alloc (.cells #[.int .i64 f.a,.int .i64 f.b,.string f.c,.string f.e,.string f.l,.string f.m] 80));have H:O (Below W.heap.size W V):=Hi (by rw[<-hV];exact HB.o.alloc HB.o.size _);have p:=g.o.below H.o g.o.lt;obtain⟨A,-⟩:=zc p;rw[<-hV] at A;have HV:=Hi hV;clear X hV p;go_wp2_with fail;rw[HV.o];clear A d0 d1 d2 d3 d4 d5;go_fit (Qtn N c1 s f V ((HG.o.below u.o).below H.o) ((U.o.j.below u.o).below H.o) Z.o.j (Z.o.b f (mO Y.o)));rintro e w1 ⟨P,rfl,I,J⟩;obtain⟨Q,z⟩:=Ia I (H.o.trans (J.mono H.o.size));clear I J;by_cases hc:P=0
   .
    subst hc;go_wp2;go_roundw
    case rel=>
     refine⟨k+1,by omega,by go_num,?_,z.o⟩;intro i x hi p;rcases Nat.lt_or_ge i k with h|h
     . exact G.o i x h p
     .
      obtain rfl:i=k:=by omega
      obtain rfl:=Option.some.inj (Y.o.symm.trans p);exact Q.o
    case measure=>simp[intOf];omega
   .
    have e0:(P != 0)=true:=by simpa using hc
    have F:=Hi (d.o.below z.o d.o.lt);obtain⟨C,D,-⟩:=zc F.o;have f0:=F.o.free 0;have f1:=F.o.free 1;go_wp2;refine bodyPost_ret (v:=.agg #[.int .i64 P,.int .i64 (k:Int)]) (results_cell_row rfl _ _ (w.heap.size+1) 31 #[.int .i64 P,.int .i64 (k:Int)] (0,0) _ rfl ((F.o.set 0 _).set 1 _) underlying31 rfl Tryz.faultInfo) rfl ?_;exact⟨P,_,rfl,Or.inr (Or.inl ⟨aa.o,k,f,Y.o,G.o,Q.o,hc,rfl⟩),((u.o.trans (z.o.mono u.o.size)).setCell (Nat.le_succ _) _).setCell (Nat.le_succ _) _⟩
  .
   have ae:k=t.length:=by omega
   subst ae;have p:=g.o.below HB.o g.o.lt;have q:=d.o.below HB.o d.o.lt;obtain⟨A,x1,x2,-⟩:=zc p;obtain⟨C,D,-⟩:=zc q;have f0:=q.free 0;have f1:=q.free 1;clear p q;go_wp2_with fail;clear A x1 x2 C D f0 f1;go_fit (Qtm N R S s.length c1 t.length c2 c3 y wr (U.o.h.below ab.o) (by omega) (by omega));rintro e w1 ⟨P,E,rfl,I,J⟩;obtain⟨Q,z⟩:=Ia I (HB.o.trans (J.mono HB.o.size));clear I J;have p:=g.o.below z.o g.o.lt;have q:=d.o.below z.o d.o.lt
   obtain⟨A,x1,x2,-⟩:=zc p;obtain⟨C,D,-⟩:=zc q;have f0:=q.free 0;have f1:=q.free 1;clear p q;have F:=Hi (d.o.below z.o d.o.lt);go_wp2;refine bodyPost_ret (v:=.agg #[.int .i64 P,.int .i64 E]) (results_cell_row rfl _ _ (w.heap.size+1) 31 #[.int .i64 P,.int .i64 E] (0,0) _ rfl ((F.o.set 0 _).set 1 _) underlying31 rfl Tryz.faultInfo) rfl ?_
   exact⟨P,E,rfl,Or.inr (Or.inr ⟨aa.o,fun i x p=>G.o i x (gZ p).1 p,Q.o⟩),((u.o.trans (z.o.mono u.o.size)).setCell (Nat.le_succ _) _).setCell (Nat.le_succ _) _⟩
theorem Qbe{P:Program}{e:Func}{p u:Tmp}{ty:Vr}(h:e.results=#[.tmp u,.cell p ty])(a:Vw)(w:Vz)(g:Nat)(t:Vr)(b:Vw)(f:Nat × Nat)(d:TypeDesc)
 (i:a.getD p undef=.pointer (some ⟨g,0,none⟩)) (j:w.heap[g]?=some (.cells b t f))
 (k:P.underlying ty=some d) (l:(match d with| .struct _| .array _ _=>true|_=>false)=true) (m:(P.info? ty).map (·.size)=some b.size):
 (results e a).run P w=.ok (.tuple #[a.getD u undef,.agg b]) w:=by
 have c:a[p]?.getD undef=.pointer (some ⟨g,0,none⟩):=by simpa using i
 simp[results,h,c,asAddr,run_loadVar_row w g t ty b f d j k l m]
theorem ref_F(c a:Int)(w:Vz):Calls prog 23 #[.int .i64 c,.int .i64 a] w fun e w'=>e=.returned (.agg #[.int .i64 c,.int .i64 a])/\Below w.heap.size w w':=by
 go_enter func23,ntmps23;go_wp2;refine bodyPost_ret (results_cell_row rfl _ _ w.heap.size 31 #[.int .i64 c,.int .i64 a] (0,0) _ rfl (SB.new w _ _) underlying31 rfl Tryz.faultInfo) rfl ?_;exact⟨rfl,bR.alloc lZ _⟩
theorem Qen(a b c:Vx)(c1 c2 c3 n m k:Nat)(w:Vz)(d:m<=24)(hk:k<=20):
 Calls prog 14 #[.agg #[.slice a n c1,.slice b m c2,.slice c k c3]] w fun e w'=>e=.returned (.int .i64 ((m:Int)+(k:Int)))/\Below w.heap.size w w':=by
 go_enter func14,ntmps14;go_wp2;go_ret;exact⟨rfl,bR.alloc lZ _⟩
theorem Qto(z A B:Vx)(c1 c2 c3:Nat)(g:List S2)(i:List B6)(j:List H3)(w:Vz)(D:Glob w)(E:FrRow w z A B c1 c2 c3 g i j)(F:FrSized g i j):
 Calls prog 27 #[.agg #[.slice z g.length c1,.slice A i.length c2,.slice B j.length c3]] w fun e w'=>∃c a k,e=.returned (.tuple #[.int .i64 k,.agg #[.int .i64 c,.int .i64 a]])/\FrameFault g i j c a/\(c≠0->k=0)/\(c=0->k=(i.length:Int)+(j.length:Int) - 2*(g.length:Int))/\Below w.heap.size w w':=by
 obtain⟨H,I,J⟩:=Ib D E F;clear D E F;go_enter func27,ntmps27;obtain⟨W,s⟩:=nm ((w.alloc (.cells #[.slice z g.length c1,.slice A i.length c2,.slice B j.length c3] 26)).alloc (.cells #[.int .i64 0,.int .i64 0] 31));have d:=Ub s;have t:=Ud s;have r:=Ue s;have K:=Hi s;clear s;go_wp2_with fail;rw[K.o];go_fit (Qgp z A B c1 c2 c3 g i j W (H.o.below d.o) (I.o.below d.o) J.o);rintro e w1 ⟨c,a,rfl,u,l⟩;have m:=Hi u;obtain⟨V,v⟩:=nm (w1.alloc (.cells #[.int .i64 c,.int .i64 a] 31))
 have n:O (Below W.heap.size W V):=Hi (by rw[<-v];exact l.alloc l.size _);have x:SB V w1.heap.size 31 #[.int .i64 c,.int .i64 a]:=by rw[<-v];exact SB.new w1 _ _
 have f:=r.o.below n.o r.o.lt;obtain⟨L,M,-⟩:=zc x;obtain⟨N,x1,x2,-⟩:=zc (t.o.below n.o t.o.lt);obtain⟨P,Q,-⟩:=zc f;have f0:=f.free 0;have f1:=f.free 1;rw[<-v] at L M N x1 x2 P Q f0 f1;obtain⟨y,G⟩:=Ia f v;have R:w.heap.size+1≠w1.heap.size:=by have:=r.o.lt;have:=l.size;omega
 clear u v x f l;by_cases C:c=0
 .
  subst C;have q:¬Many g.length i.length j.length:=by
   rcases m.o with ⟨_,h,_⟩|⟨h,_⟩|⟨h,_⟩
   . exact absurd h (by decide)
   . exact h
   . exact h
  have n1:g.length<=10:=Nat.le_of_not_lt fun h=>q (.inr (.inl h))
  have T:i.length<=24:=Nat.le_of_not_lt fun h=>q (.inr (.inr (.inl h)))
  have U:j.length<=20:=Nat.le_of_not_lt fun h=>q (.inr (.inr (.inr h)))
  clear q;go_wp2;rw[G.o];have S:O (a=0):=Hi (by
   rcases m.o with ⟨_,h,_⟩|⟨_,k,b,_,_,_,h,_⟩|⟨_,_,h⟩
   . exact absurd h (by decide)
   . exact absurd rfl h
   .
    rcases h with ⟨_,_,_,_,_,h,_⟩|⟨_,_,h⟩
    . exact absurd rfl h
    . exact h)
  refine bodyPost_ret (Qbe rfl _ _ (w.heap.size+1) 31 #[.int .i64 0,.int .i64 0] (0,0) _ rfl ((y.o.set 0 _).set 1 _) underlying31 rfl Tryz.faultInfo) rfl ?_;exact⟨0,0,_,rfl,S.o ▸ m.o,fun h=>absurd rfl h,fun _=>rfl,((d.o.trans (n.o.mono d.o.size)).setCell (Nat.le_succ _) _).setCell (Nat.le_succ _) _⟩
 .
  have X:(c != 0)=true:=by simpa using C
  go_wp2;go_region
  all_goals
   go_wp2;rw[G.o];refine bodyPost_ret (Qbe rfl _ _ (w.heap.size+1) 31 #[.int .i64 c,.int .i64 a] (0,0) _ rfl ((y.o.set 0 _).set 1 _) underlying31 rfl Tryz.faultInfo) rfl ?_;exact⟨c,a,0,rfl,m.o,fun _=>rfl,fun h=>absurd h C,(((d.o.trans (n.o.mono d.o.size)).setCell (p:=⟨w.heap.size+1,0,none⟩) (Nat.le_succ _) _).setCell (p:=⟨w.heap.size+1,1,none⟩) (Nat.le_succ _) _).drew⟩
theorem Bag.pair{w:Vz}{bx a j k:Nat}{p q:Rat}(b:RatVal w bx p)(c:RatVal w a q)(d:Fits p j)(e:Fits q k):
 Bag w w [] [.int bx 0 p.num j,.rat bx p.den j,.int a 0 q.num k,.rat a q.den k]:=by
 refine⟨Below.refl _ _,fun n g=>(by cases g),fun t f=>⟨?_,List.not_mem_nil⟩⟩;simp only[List.mem_cons,List.not_mem_nil,or_false] at f;rcases f with rfl|rfl|rfl|rfl
 . exact b.int d
 . exact b.rat d
 . exact c.int e
 . exact c.rat e
theorem Bag.cmp{w0 w:Vz}{Z:Vy}{L:List Thing}{bx d f g i j:Nat}{X Y:Int}(h:Bag w0 w Z L)(k:.int bx d X i∈ L)(n:.int f g Y j∈ L):
 Calls prog 71 #[.pointer (some ⟨bx,d,none⟩),.pointer (some ⟨f,g,none⟩)] w fun e w'=>e=.returned (.int .i64 (cmpZ X Y))/\Bag w0 w' Z L/\w.heap.size<=w'.heap.size:=by
 obtain⟨⟨a,cap,l,o,s⟩,p⟩:=h.ts _ k;obtain⟨⟨b,cap',m,q,t⟩,r⟩:=h.ts _ n;refine(Qkf bx d X a cap l f g Y b cap' m w o q).mono ?_;rintro e w' ⟨rfl,c⟩;exact⟨rfl,h.below c,c.size⟩
theorem Qeh(X Y:Int):cmpZ X Y=0↔X=Y:=by
 unfold cmpZ;by_cases b:X<Y
 .
  rw[if_pos b];constructor
  . intro h;omega
  . intro h;omega
 .
  rw[if_neg b];by_cases a:X=Y
  . rw[if_pos a];simp[a]
  . rw[if_neg a];simp[a]
theorem Qr6(p q:Rat):p.num*(q.den:Int)=q.num*(p.den:Int)↔p=q:=by
 constructor
 .
  intro h;rw[<-Rat.mkRat_self p,<-Rat.mkRat_self q];exact(Rat.mkRat_eq_iff p.den_nz q.den_nz).2 h
 . rintro rfl
   rfl
theorem Qkc(bx l j k:Nat)(p q:Rat)(w:Vz)(m:RatVal w bx p)(n:RatVal w l q)(r:Fits p j)(s:Fits q k)(B:j+k<274877906000):
 Calls prog 34 #[.pointer (some ⟨bx,0,none⟩),.pointer (some ⟨l,0,none⟩)] w fun e w'=>(∃c,e=.returned (.int .i64 c)/\(c=0↔p=q))/\Below w.heap.size w w':=by
 obtain⟨d,t⟩:=Ia (Bag.pair m n r s) (Qr6 p q);clear m n r s;by_cases f:(p.den:Int)=(q.den:Int)
 .
  have g:O (cmpZ (p.den:Int) (q.den:Int)=0):=Hi ((Qeh _ _).2 f);have v:=Hi f;clear f;go_enter func34,ntmps34;go_wp2_with (first
   |
    (go_at_call 70
     apply cM;apply Bag.den (w0:=w);(focus(repeat(first|exact d.o|apply Bag.alloc|apply Bag.drew)));(focus(repeat(first|exact mH|apply mT)));rintro e w1 ⟨b1,u,rfl,a,b⟩;clear d;have d:=Hi a;clear a
     (try simp only[size_drew,World.size_alloc] at b))
   |
    (go_at_call 71
     apply cM;apply Bag.cmp (w0:=w);(focus(repeat(first|exact d.o|apply Bag.alloc|apply Bag.drew)));(focus(repeat(first|exact mH|apply mT)));(focus(repeat(first|exact mH|apply mT)));rintro e w1 ⟨rfl,a,b⟩;rw[g.o];clear d;have d:=Hi a
     clear a)
   |fail)
  go_region_held3 (fun _=>True) (trivial) (first
   |
    (go_at_call 71
     apply cM;apply Bag.cmp (w0:=w);(focus(repeat(first|exact d.o|apply Bag.alloc|apply Bag.drew)));(focus(repeat(first|exact mH|apply mT)));(focus(repeat(first|exact mH|apply mT)));rintro e w1 ⟨rfl,a,b⟩;clear d;have d:=Hi a;clear a
     (try simp only[size_drew,World.size_alloc] at b))
   )
  go_wp2;go_ret;refine⟨⟨_,rfl,?_⟩,d.o.base⟩;have f:=v.o;have x:(q.den:Int)≠0:=by have:=q.den_nz;omega
  rw[Qeh,<-t.o,f];exact⟨fun h=>by rw[h],fun h=>Int.eq_of_mul_eq_mul_right x h⟩
 .
  obtain⟨y,i⟩:=nm (cmpZ (p.den:Int) (q.den:Int));have z:(y == 0)=false:=by
   rw[beq_eq_false_iff_ne];intro h;exact f ((Qeh _ _).1 (i.trans h))
  have g:=Hi i;clear f i;go_enter func34,ntmps34;go_wp2_with (first
   |
    (go_at_call 70
     apply cM;apply Bag.den (w0:=w);(focus(repeat(first|exact d.o|apply Bag.alloc|apply Bag.drew)));(focus(repeat(first|exact mH|apply mT)));rintro e w1 ⟨b1,u,rfl,a,b⟩;clear d;have d:=Hi a;clear a
     (try simp only[size_drew,World.size_alloc] at b))
   |
    (go_at_call 71
     apply cM;apply Bag.cmp (w0:=w);(focus(repeat(first|exact d.o|apply Bag.alloc|apply Bag.drew)));(focus(repeat(first|exact mH|apply mT)));(focus(repeat(first|exact mH|apply mT)));rintro e w1 ⟨rfl,a,b⟩;rw[g.o];clear d;have d:=Hi a
     clear a)
   |fail)
  go_region_held3 (fun _=>True) (trivial) (first
   |
    (go_at_call 72
     apply cM;apply Bag.mul (w0:=w);(focus(repeat(first|exact d.o|apply Bag.alloc|apply Bag.drew)));(focus(simp only[mem_less,List.mem_cons,List.not_mem_nil,or_false,size_drew,World.size_alloc,true_or,or_true,true_and,and_true]<;>omega));(focus(repeat(first|exact mH|apply mT)));(focus(repeat(first|exact mH|apply mT)));omega;rintro e w1 ⟨rfl,a,b,A⟩;clear d;have d:=Hi a;clear a
     (try simp only[size_drew,World.size_alloc] at b))
   |
    (go_at_call 70
     apply cM;apply Bag.den (w0:=w);(focus(repeat(first|exact d.o|apply Bag.alloc|apply Bag.drew)));(focus(repeat(first|exact mH|apply mT)));rintro e w1 ⟨b1,u,rfl,a,b⟩;clear d;have d:=Hi a;clear a
     (try simp only[size_drew,World.size_alloc] at b))
   |
    (go_at_call 71
     apply cM;apply Bag.cmp (w0:=w);(focus(repeat(first|exact d.o|apply Bag.alloc|apply Bag.drew)));(focus(repeat(first|exact mH|apply mT)));(focus(repeat(first|exact mH|apply mT)));rintro e w1 ⟨rfl,a,b⟩;clear d;have d:=Hi a;clear a
     (try simp only[size_drew,World.size_alloc] at b))
   )
  all_goals
   go_wp2;go_ret;exact⟨⟨_,rfl,(Qeh _ _).trans t.o⟩,d.o.base⟩
theorem RBag.cmpT{w0 w:Vz}{L:List (Nat × Rat × Nat)}{bx d j k:Nat}{p q:Rat}(h:RBag w0 w L)(f:(bx,p,j)∈ L)(g:(d,q,k)∈ L)(i:j+k<274877906000)(l:p=q):
 Calls prog 34 #[.pointer (some ⟨bx,0,none⟩),.pointer (some ⟨d,0,none⟩)] w fun e w'=>e=.returned (.int .i64 0)/\RBag w0 w' L:=by
 have a:=h.ts _ f;have b:=h.ts _ g;refine(Qkc bx d j k p q w a.1 b.1 a.2.1 b.2.1 i).mono ?_;rintro e w' ⟨⟨c,rfl,m⟩,n⟩;exact⟨by rw[m.2 l],h.below n⟩
theorem RBag.cmpF{w0 w:Vz}{L:List (Nat × Rat × Nat)}{bx d j k:Nat}{p q:Rat}(h:RBag w0 w L)(f:(bx,p,j)∈ L)(g:(d,q,k)∈ L)(i:j+k<274877906000)(l:¬p=q):
 Calls prog 34 #[.pointer (some ⟨bx,0,none⟩),.pointer (some ⟨d,0,none⟩)] w fun e w'=>(∃c,e=.returned (.int .i64 c)/\(c == 0)=false)/\RBag w0 w' L:=by
 have a:=h.ts _ f;have b:=h.ts _ g;refine(Qkc bx d j k p q w a.1 b.1 a.2.1 b.2.1 i).mono ?_;rintro e w' ⟨⟨c,rfl,m⟩,n⟩;exact⟨⟨c,rfl,by rw[beq_eq_false_iff_ne];exact fun h=>l (m.1 h)⟩,h.below n⟩
theorem Qsx(B C D:Vx)(c1 c2 c3:Nat)(m:List S2)(r:List B6)(t:List H3)(w:Vz)(x:Glob w)(y:FrRow w B C D c1 c2 c3 m r t)(z:FrSized m r t)(E:Many m.length r.length t.length):
 Calls prog 7 #[.agg #[.slice B m.length c1,.slice C r.length c2,.slice D t.length c3]] w fun e w'=>∃c F,e=.returned (.agg #[.int .i64 c,.int .i64 F])/\FrameFault m r t c F/\Below w.heap.size w w':=by
 have u:=Hi E;by_cases N:m.length<1
 .
  have K:((m.length:Int) == 0)=true:=by rw[beq_iff_eq];omega
  clear E;obtain⟨G,H,I⟩:=Ib x y z;clear x y z;go_enter func7,ntmps7;obtain⟨W,f⟩:=nm ((w.alloc (.cells #[.slice B m.length c1,.slice C r.length c2,.slice D t.length c3] 26)).alloc (.cells #[.int .i64 0,.int .i64 0] 31));have g:=Ub f;have i:=Ud f;have a:=Ue f;have b:O (Below W.heap.size W W):=Hi bR;have n:=i.o.below b.o i.o.lt;have l:=a.o.below b.o a.o.lt;obtain⟨s,x1,-⟩:=zc n
  obtain⟨-,-,x2,-⟩:=zc n;obtain⟨p,q,-⟩:=zc l;have f0:=l.free 0;have f1:=l.free 1;clear n l;rw[<-f] at s x1 x2 p q f0 f1;have A:=Hi f;clear f;go_wp2_with fail;rw[A.o];clear s x1 x2 p q f0 f1;go_fit (ref_F 2 0 W);rintro e J ⟨rfl,j⟩;have k:=Hi (b.o.trans (j.mono b.o.size));have d:=Hi (a.o.below k.o a.o.lt);obtain⟨p,q,-⟩:=zc d.o;have f0:=d.o.free 0;have f1:=d.o.free 1;clear j;go_wp2
  refine bodyPost_ret (v:=.agg #[.int .i64 2,.int .i64 0]) (results_cell_row rfl _ _ (w.heap.size+1) 31 #[.int .i64 2,.int .i64 0] (0,0) _ rfl ((d.o.set 0 _).set 1 _) underlying31 rfl Tryz.faultInfo) rfl ?_;exact⟨_,_,rfl,Or.inl ⟨u.o,rfl,rfl⟩,((g.o.trans (k.o.mono g.o.size)).setCell (Nat.le_succ _) _).setCell (Nat.le_succ _) _⟩
 have K:((m.length:Int) == 0)=false:=by rw[beq_eq_false_iff_ne];omega
 by_cases P:10<m.length
 .
  have L:((10:Int)<(m.length:Int)):=by omega
  clear E;obtain⟨G,H,I⟩:=Ib x y z;clear x y z;go_enter func7,ntmps7;obtain⟨W,f⟩:=nm ((w.alloc (.cells #[.slice B m.length c1,.slice C r.length c2,.slice D t.length c3] 26)).alloc (.cells #[.int .i64 0,.int .i64 0] 31));have g:=Ub f;have i:=Ud f;have a:=Ue f;have b:O (Below W.heap.size W W):=Hi bR;have n:=i.o.below b.o i.o.lt;have l:=a.o.below b.o a.o.lt;obtain⟨s,x1,-⟩:=zc n
  obtain⟨-,-,x2,-⟩:=zc n;obtain⟨p,q,-⟩:=zc l;have f0:=l.free 0;have f1:=l.free 1;clear n l;rw[<-f] at s x1 x2 p q f0 f1;have A:=Hi f;clear f;go_wp2_with fail;rw[A.o];clear s x1 x2 p q f0 f1;go_fit (ref_F 2 0 W);rintro e J ⟨rfl,j⟩;have k:=Hi (b.o.trans (j.mono b.o.size));have d:=Hi (a.o.below k.o a.o.lt);obtain⟨p,q,-⟩:=zc d.o;have f0:=d.o.free 0;have f1:=d.o.free 1;clear j;go_wp2
  refine bodyPost_ret (v:=.agg #[.int .i64 2,.int .i64 0]) (results_cell_row rfl _ _ (w.heap.size+1) 31 #[.int .i64 2,.int .i64 0] (0,0) _ rfl ((d.o.set 0 _).set 1 _) underlying31 rfl Tryz.faultInfo) rfl ?_;exact⟨_,_,rfl,Or.inl ⟨u.o,rfl,rfl⟩,((g.o.trans (k.o.mono g.o.size)).setCell (Nat.le_succ _) _).setCell (Nat.le_succ _) _⟩
 have L:¬((10:Int)<(m.length:Int)):=by omega
 by_cases Q:24<r.length
 .
  have M:((24:Int)<(r.length:Int)):=by omega
  clear E;obtain⟨G,H,I⟩:=Ib x y z;clear x y z;go_enter func7,ntmps7;obtain⟨W,f⟩:=nm ((w.alloc (.cells #[.slice B m.length c1,.slice C r.length c2,.slice D t.length c3] 26)).alloc (.cells #[.int .i64 0,.int .i64 0] 31));have g:=Ub f;have i:=Ud f;have a:=Ue f;have b:O (Below W.heap.size W W):=Hi bR;have n:=i.o.below b.o i.o.lt;have l:=a.o.below b.o a.o.lt;obtain⟨s,x1,-⟩:=zc n
  obtain⟨-,-,x2,-⟩:=zc n;obtain⟨p,q,-⟩:=zc l;have f0:=l.free 0;have f1:=l.free 1;clear n l;rw[<-f] at s x1 x2 p q f0 f1;have A:=Hi f;clear f;go_wp2_with fail;rw[A.o];clear s x1 x2 p q f0 f1;go_fit (ref_F 2 0 W);rintro e J ⟨rfl,j⟩;have k:=Hi (b.o.trans (j.mono b.o.size));have d:=Hi (a.o.below k.o a.o.lt);obtain⟨p,q,-⟩:=zc d.o;have f0:=d.o.free 0;have f1:=d.o.free 1;clear j;go_wp2
  refine bodyPost_ret (v:=.agg #[.int .i64 2,.int .i64 0]) (results_cell_row rfl _ _ (w.heap.size+1) 31 #[.int .i64 2,.int .i64 0] (0,0) _ rfl ((d.o.set 0 _).set 1 _) underlying31 rfl Tryz.faultInfo) rfl ?_;exact⟨_,_,rfl,Or.inl ⟨u.o,rfl,rfl⟩,((g.o.trans (k.o.mono g.o.size)).setCell (Nat.le_succ _) _).setCell (Nat.le_succ _) _⟩
 have M:¬((24:Int)<(r.length:Int)):=by omega
 have R:((20:Int)<(t.length:Int)):=by rcases E with h|h|h|h<;>omega
 clear E;obtain⟨G,H,I⟩:=Ib x y z;clear x y z;go_enter func7,ntmps7;obtain⟨W,f⟩:=nm ((w.alloc (.cells #[.slice B m.length c1,.slice C r.length c2,.slice D t.length c3] 26)).alloc (.cells #[.int .i64 0,.int .i64 0] 31));have g:=Ub f;have i:=Ud f;have a:=Ue f;have b:O (Below W.heap.size W W):=Hi bR;have n:=i.o.below b.o i.o.lt;have l:=a.o.below b.o a.o.lt;obtain⟨s,x1,-⟩:=zc n
 obtain⟨-,-,x2,-⟩:=zc n;obtain⟨p,q,-⟩:=zc l;have f0:=l.free 0;have f1:=l.free 1;clear n l;rw[<-f] at s x1 x2 p q f0 f1;have A:=Hi f;clear f;go_wp2_with fail;rw[A.o];clear s x1 x2 p q f0 f1;go_fit (ref_F 2 0 W);rintro e J ⟨rfl,j⟩;have k:=Hi (b.o.trans (j.mono b.o.size));have d:=Hi (a.o.below k.o a.o.lt);obtain⟨p,q,-⟩:=zc d.o;have f0:=d.o.free 0;have f1:=d.o.free 1;clear j;go_wp2
 refine bodyPost_ret (v:=.agg #[.int .i64 2,.int .i64 0]) (results_cell_row rfl _ _ (w.heap.size+1) 31 #[.int .i64 2,.int .i64 0] (0,0) _ rfl ((d.o.set 0 _).set 1 _) underlying31 rfl Tryz.faultInfo) rfl ?_;exact⟨_,_,rfl,Or.inl ⟨u.o,rfl,rfl⟩,((g.o.trans (k.o.mono g.o.size)).setCell (Nat.le_succ _) _).setCell (Nat.le_succ _) _⟩
end Go.Proofs.YtppkmifkpjkgpaaGreatDoor
