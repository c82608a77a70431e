import Derived.Test.YtkkadnoecklepaaGreatDoorG11MapPair
namespace Go.Proofs.YtkkadnoecklepaaGreatDoor
open Go.RowKit
open Go.Proofs.Tryz
set_option linter.unusedSimpArgs false
set_option linter.unusedVariables false
set_option maxHeartbeats 8000000
set_option maxRecDepth 1000000
def holdC(n:Nat)(j wy:Int)(tw:Bool):Int:=if 0<=j/\j<n then (if wy≠1/\wy≠2 then 3 else if tw=true then 7 else 0) else 4
theorem Qtw(a:Vx)(n d:Nat)(j h:Int)(q:Vs)(l:Bool)(w:Vz):
 Calls prog 166 #[.slice a n d,.agg #[.int .i64 j,.int .i64 h,.string q],.bool l] w fun e r=>e=.returned (.int .i64 (holdC n j h l))/\Below w.heap.size w r:=by
 unfold holdC;by_cases k:IsJ n j
 .
  rw[if_pos (show 0<=j/\j<(n:Int) from k)];have i:=Hi k;clear k;by_cases m:h=1
  .
   subst m;rw[if_neg (by simp)];cases l with
   |true=>
    rw[if_pos rfl];go_enter func166,ntmps166;obtain⟨W,hW⟩:=nm (w.alloc (.cells #[.int .i64 j,.int .i64 1,.string q] 86));have c:=Ua hW;have b:SB W w.heap.size 86 #[.int .i64 j,.int .i64 1,.string q]:=by rw[<-hW];exact SB.new w _ _
    obtain⟨f,k1,k2,-⟩:=zc b;rw[<-hW] at f k1 k2;have g:=Hi hW;clear hW b;go_wp2_with fail;go_fit (Qba a n d j _ i.o);rintro e w1 ⟨rfl,rfl⟩;go_wp2;go_ret;exact⟨rfl,by rw[g.o];exact c.o⟩
   |false=>
    rw[if_neg (by simp)];go_enter func166,ntmps166;obtain⟨W,hW⟩:=nm (w.alloc (.cells #[.int .i64 j,.int .i64 1,.string q] 86));have c:=Ua hW;have b:SB W w.heap.size 86 #[.int .i64 j,.int .i64 1,.string q]:=by rw[<-hW];exact SB.new w _ _
    obtain⟨f,k1,k2,-⟩:=zc b;rw[<-hW] at f k1 k2;have g:=Hi hW;clear hW b;go_wp2_with fail;go_fit (Qba a n d j _ i.o);rintro e w1 ⟨rfl,rfl⟩;go_wp2;go_ret;exact⟨rfl,by rw[g.o];exact c.o⟩
  .
   by_cases p:h=2
   .
    subst p;rw[if_neg (by simp)];cases l with
    |true=>
     rw[if_pos rfl];go_enter func166,ntmps166;obtain⟨W,hW⟩:=nm (w.alloc (.cells #[.int .i64 j,.int .i64 2,.string q] 86));have c:=Ua hW;have b:SB W w.heap.size 86 #[.int .i64 j,.int .i64 2,.string q]:=by rw[<-hW];exact SB.new w _ _
     obtain⟨f,k1,k2,-⟩:=zc b;rw[<-hW] at f k1 k2;have g:=Hi hW;clear hW b;go_wp2_with fail;go_fit (Qba a n d j _ i.o);rintro e w1 ⟨rfl,rfl⟩;go_wp2;go_ret;exact⟨rfl,by rw[g.o];exact c.o⟩
    |false=>
     rw[if_neg (by simp)];go_enter func166,ntmps166;obtain⟨W,hW⟩:=nm (w.alloc (.cells #[.int .i64 j,.int .i64 2,.string q] 86));have c:=Ua hW;have b:SB W w.heap.size 86 #[.int .i64 j,.int .i64 2,.string q]:=by rw[<-hW];exact SB.new w _ _
     obtain⟨f,k1,k2,-⟩:=zc b;rw[<-hW] at f k1 k2;have g:=Hi hW;clear hW b;go_wp2_with fail;go_fit (Qba a n d j _ i.o);rintro e w1 ⟨rfl,rfl⟩;go_wp2;go_ret;exact⟨rfl,by rw[g.o];exact c.o⟩
   .
    rw[if_pos ⟨m,p⟩];have s:(h != 1)=true:=by simpa using m
    have t:(h != 2)=true:=by simpa using p
    clear m p;go_enter func166,ntmps166;obtain⟨W,hW⟩:=nm (w.alloc (.cells #[.int .i64 j,.int .i64 h,.string q] 86));have c:=Ua hW;have b:SB W w.heap.size 86 #[.int .i64 j,.int .i64 h,.string q]:=by rw[<-hW];exact SB.new w _ _
    obtain⟨f,k1,k2,-⟩:=zc b;rw[<-hW] at f k1 k2;have g:=Hi hW;clear hW b;go_wp2_with fail;go_fit (Qba a n d j _ i.o);rintro e w1 ⟨rfl,rfl⟩;go_wp2;go_ret;exact⟨rfl,by rw[g.o];exact c.o⟩
 .
  rw[if_neg (show ¬(0<=j/\j<(n:Int)) from k)];have i:=Hi k;clear k;go_enter func166,ntmps166;obtain⟨W,hW⟩:=nm (w.alloc (.cells #[.int .i64 j,.int .i64 h,.string q] 86));have c:=Ua hW;have b:SB W w.heap.size 86 #[.int .i64 j,.int .i64 h,.string q]:=by rw[<-hW];exact SB.new w _ _
  obtain⟨f,k1,k2,-⟩:=zc b;rw[<-hW] at f k1 k2;have g:=Hi hW;clear hW b;go_wp2_with fail;go_fit (Qeq a n d j _ i.o);rintro e w1 ⟨rfl,rfl⟩;go_wp2;go_ret;exact⟨rfl,by rw[g.o];exact c.o⟩
def places(hs:List H3):List (Int × Int):=hs.map fun h=>(h.j,h.w)
def holdAt(n:Nat)(hs:List H3)(k:Nat)(h:H3):Int:=holdC n h.j h.w (decide ((h.j,h.w)∈ places (hs.take k)))
def HoldsFault(n m:Nat)(hs:List H3)(c at_:Int):Prop:=
 (∃k h,hs[k]?=some h/\(∀i x,i<k->hs[i]?=some x->holdAt n hs i x=0)/\holdAt n hs k h=c/\c≠0/\at_=m+k)∨
 ((∀i x,hs[i]?=some x->holdAt n hs i x=0)/\c=0/\at_=0)
theorem PairSet.push{a:Array MapEntry}{c:List (Int × Int)}{p:Int × Int}{b:Nat}(h:PairSet a c):PairSet (a.push { key:=pairV p,val:=.agg #[],born:=b }) (c++ [p]):=by
 unfold PairSet at*;rw[Array.toList_push,List.map_append,h,List.map_append];rfl
theorem Qtx{a:List H3}{k:Nat}{h:H3}(hk:a[k]?=some h):places (a.take (k+1))=places (a.take k)++ [(h.j,h.w)]:=by
 unfold places;rw[List.take_add_one,hk];simp
theorem Tryz.faultInfo:(prog.info? 41).map (·.size)=some 2:=by kernel_rfl
theorem Qty{w:Vz}{r b:Nat}{o:Obj}(h:b≠r):({ w with heap:=w.heap.setIfInBounds r o }:World).heap[b]?=w.heap[b]?:=by
 simp[Array.getElem?_setIfInBounds,h.symm]
theorem Only.map{w:Vz}{r:Nat}(o:Obj):Only r w { w with heap:=w.heap.setIfInBounds r o }:=⟨rfl,rfl,rfl,by simp,fun k hk a=>Qty a⟩
theorem Qtz{w:Vz}{r:Nat}{o:Obj}(h:r<w.heap.size):({ w with heap:=w.heap.setIfInBounds r o }:World).heap[r]?=some o:=by
 simp[Array.getElem?_setIfInBounds,h]
theorem Qt0(Z a2 a3:Vx)(n c1 m c2 c3:Nat)(g:List H3)(w:Vz)(hh:ARow H3.cells w a3 c3 g)(hl:g.length<=20)(hm:m<=24):
 Calls prog 105 #[.agg #[.slice Z n c1,.slice a2 m c2,.slice a3 g.length c3]] w fun e w'=>∃c aa,e=.returned (.agg #[.int .i64 c,.int .i64 aa])/\HoldsFault n m g c aa/\Below w.heap.size w w':=by
 have HH:=Hi hh;clear hh;go_enter func105,ntmps105;obtain⟨W,hW⟩:=nm (((w.alloc (.cells #[.slice Z n c1,.slice a2 m c2,.slice a3 g.length c3] 26)).alloc (.cells #[.int .i64 0,.int .i64 0] 41)).alloc (.map #[] 0));have B:O (Bl w W):=Hi (by rw[<-hW];exact(Below.new2 w _ _).alloc (by simp<;>omega) _);have C:O (SB W w.heap.size 26 #[.slice Z n c1,.slice a2 m c2,.slice a3 g.length c3]):=Hi (by rw[<-hW];exact((SB.new w _ _).alloc _).alloc _);have ab:O (SB W (w.heap.size+1) 41 #[.int .i64 0,.int .i64 0]):=Hi (by rw[<-hW];exact(SB.new2 w _ _ _ _).alloc _);have ad:O (W.heap[w.heap.size+2]?=some (.map #[] 0)):=Hi (by
  rw[<-hW];have:=(Go.MapKept.heap_alloc ((w.alloc (.cells #[.slice Z n c1,.slice a2 m c2,.slice a3 g.length c3] 26)).alloc (.cells #[.int .i64 0,.int .i64 0] 41)) (.map #[] 0)).1
  simpa using this)
 obtain⟨-,-,k2,-⟩:=zc C.o;rw[<-hW] at k2;have HW:=Hi hW;have L:∀v:Vz,(Instr.makeMap 205 none).run prog v=.ok (.map (some v.heap.size)) (v.alloc (.map #[] 0)):=fun v=>rfl
 clear hW;go_wp2_with fail;rw[HW.o];clear k2 L;obtain⟨r,hr⟩:=nm (w.heap.size+1+1);have ax:w.heap.size+1<r:=by omega
 have ao:O (W.heap[r]?=some (.map #[] 0)):=Hi (by rw[<-hr];exact ad.o);rw[hr];clear hr ad;go_loopw [14] (fun iv wr=>∃(k:Nat) (A:Array MapEntry) (a:Nat),k<=g.length/\iv=.int .i64 k/\(∀i x,i<k->g[i]?=some x->holdAt n g i x=0)/\PairSet A (places (g.take k))/\wr.heap[r]?=some (.map A a)/\Only r W wr) (fun iv _=>g.length - (intOf iv).toNat)
 case atStart=>exact⟨0,#[],0,by omega,rfl,fun i x hi=>by omega,rfl,ao.o,Only.refl _ _⟩
 case round=>
  obtain⟨k,A,a,hk,rfl,H,ae,s,ho⟩:=hrel;obtain⟨t,M,I,HO⟩:=Ic H ae s ho;have af:O (Bl w wr):=Hi (B.o.trans (ho.below (by omega) B.o.size));have ag:r<wr.heap.size:=by
   rcases Nat.lt_or_ge r wr.heap.size with h|h
   . exact h
   . rw[Array.getElem?_eq_none h] at s
     cases s
  clear H ae s ho;by_cases ap:k<g.length
  .
   obtain⟨f,hf⟩:∃f,g[k]?=some f:=⟨g[k],gE ap⟩;obtain⟨fb,ay,rfl,az,d0,d1,d2⟩:=(HH.o.below af.o).hold hf;have N:=Hi hf;obtain⟨V,hV⟩:=nm ((wr.alloc (.cells #[.int .i64 f.j,.int .i64 f.w,.string f.q] 86)).alloc (.cells #[.int .i64 f.j,.int .i64 f.w] 206));have u:Bl wr V:=by rw[<-hV];exact Below.new2 wr _ _
   have ah:V.heap[r]?=some (.map A a):=(u.block r ag).trans I.o;have y:(Instr.lookup 205 (.map (some r)) (.agg #[.int .i64 f.j,.int .i64 f.w]) true).run prog V=.ok (.tuple #[.agg #[],.bool (decide ((f.j,f.w)∈ places (g.take k)))]) V:=Qqn r a A _ (f.j,f.w) V ah M.o;obtain⟨tw,P⟩:=nm (decide ((f.j,f.w)∈ places (g.take k)));rw[P,<-hV] at y;obtain⟨Q,HV,a0⟩:=Ib P hV u;have q1:((k:Int)<(g.length:Int)):=by omega
   obtain⟨V3,D⟩:=nm (V.alloc (.cells #[] 207));have R:Bl wr V3:=by rw[<-D];exact u.alloc u.size _
   have ai:=Hi R;have z:=(C.o.only HO.o (by omega)).below R (C.o.only HO.o (by omega)).lt;obtain⟨k0,k1,-⟩:=zc z;rw[<-D,<-hV] at k0 k1;have aj:=Hi D;clear hf P hV u ah D R z;go_wp2_with fail;rw[HV.o,aj.o];clear k0 k1 y d0 d1 d2;obtain⟨Y,l⟩:=nm (holdC n f.j f.w tw);have ak:=Hi (Qtw Z n c1 f.j f.w f.q tw V3);rw[l] at ak;have S:O (holdAt n g k f=Y):=Hi (by unfold holdAt;rw[Q.o];exact l);clear l;go_fit ak.o;rintro e E ⟨rfl,T⟩;obtain⟨U,al⟩:=Ia (ai.o.trans (T.mono ai.o.size)) T;have F:O (Only r W E):=Hi (HO.o.trans (Only.of_below U.o));have aq:O (E.heap[r]?=some (.map A a)):=Hi ((U.o.block r ag).trans I.o);have z:=C.o.only F.o (by omega)
   have d:=ab.o.only F.o (by omega);obtain⟨-,k1,-⟩:=zc z;obtain⟨z0,z1,-⟩:=zc d;have f0:=d.free 0;have f1:=d.free 1;have X:=Hi d;clear z d T;by_cases l:Y=0
   .
    subst l;have am:tw=false:=by
     cases tw with
     |false=>rfl
     |true=>
      exfalso
      have h:=S.o;unfold holdAt holdC at h;rw[Q.o] at h
      split at h
      .
       split at h
       . simp at h
       . simp at h
      . simp at h
    have J:(f.j,f.w) ∉ places (g.take k):=of_decide_eq_false (Q.o.trans am);have an:(Instr.mapUpdate 205 (.map (some r)) (.agg #[.int .i64 f.j,.int .i64 f.w]) (.agg #[])).run prog E=.ok () { E with heap:=E.heap.setIfInBounds r (.map (A.push { key:=.agg #[.int .i64 f.j,.int .i64 f.w],val:=.agg #[],born:=a }) (a+1)) }:=Qqo r a A _ (f.j,f.w) E aq.o M.o J;obtain⟨w5,G⟩:∃w5,({ E with heap:=E.heap.setIfInBounds r (.map (A.push { key:=.agg #[.int .i64 f.j,.int .i64 f.w],val:=.agg #[],born:=a }) (a+1)) }:World)=w5:=⟨_,rfl⟩;have ar:O (Only r W w5):=Hi (by rw[<-G];exact F.o.trans (Only.map _));have au:O (w5.heap[r]?=some (.map (A.push { key:=.agg #[.int .i64 f.j,.int .i64 f.w],val:=.agg #[],born:=a }) (a+1))):=Hi (by rw[<-G];exact Qtz (by have:=U.o.size;omega));rw[G] at an
    have hv:=(HV.o ▸ SB.new2 wr 86 206 #[.int .i64 f.j,.int .i64 f.w,.string f.q] #[.int .i64 f.j,.int .i64 f.w]:SB V (wr.heap.size+1) 206 #[.int .i64 f.j,.int .i64 f.w]);have K:Bl V E:=by
     have h1:Bl V V3:=by rw[<-aj.o];exact(Below.refl _ _).alloc lZ _
     exact h1.trans (al.o.mono h1.size)
    obtain⟨p0,p1,-⟩:=zc (hv.below K hv.lt);clear am G J hv K;go_wp2;go_roundw
    case rel=>
     refine⟨k+1,_,_,by omega,by go_num,?_,?_,au.o,ar.o⟩
     .
      intro i x hi hx;rcases Nat.lt_or_ge i k with h|h
      . exact t.o i x h hx
      .
       obtain rfl:i=k:=by omega
       obtain rfl:=Option.some.inj (N.o.symm.trans hx);exact S.o
     . rw[Qtx N.o]
       exact M.o.push (p:=(f.j,f.w)) (b:=a)
    case measure=>simp[intOf];omega
   .
    have e0:(Y != 0)=true:=by simpa using l
    go_wp2;have av:=Hi (B.o.trans (F.o.below (by omega) B.o.size));refine bodyPost_ret (v:=.agg #[.int .i64 Y,.int .i64 ((m:Int)+(k:Int))]) (results_cell_row rfl _ _ (w.heap.size+1) 41 #[.int .i64 Y,.int .i64 ((m:Int)+(k:Int))] (0,0) _ rfl ((X.o.set 0 _).set 1 _) underlying41 rfl Tryz.faultInfo) rfl ?_;exact⟨Y,_,rfl,.inl ⟨k,f,N.o,t.o,S.o,l,rfl⟩,(av.o.setCell (Nat.le_succ _) _).setCell (Nat.le_succ _) _⟩
  .
   have aw:k=g.length:=by omega
   subst aw;have d:=ab.o.only HO.o (by omega);obtain⟨z0,z1,-⟩:=zc d;have f0:=d.free 0;have f1:=d.free 1;have X:=Hi d;clear d;go_wp2;refine bodyPost_ret (v:=.agg #[.int .i64 0,.int .i64 0]) (results_cell_row rfl _ _ (w.heap.size+1) 41 #[.int .i64 0,.int .i64 0] (0,0) _ rfl ((X.o.set 0 _).set 1 _) underlying41 rfl Tryz.faultInfo) rfl ?_;refine⟨0,0,rfl,.inr ⟨fun i x hx=>t.o i x (gZ hx).1 hx,rfl,rfl⟩,(af.o.setCell (Nat.le_succ _) _).setCell (Nat.le_succ _) _⟩
theorem Qt1(a:Vx)(f:Nat)(d:List S2)(b:B6)(w:Vz)(M:Glob w)(N:ARow S2.cells w a f d)(E:∀p,p∈ d->p.x.size<=1048576/\p.y.size<=1048576)(u:b.c.size<=1048576/\b.e.size<=1048576/\b.l.size<=1048576/\b.m.size<=1048576):
 Calls prog 104 #[.slice a d.length f,.agg #[.int .i64 b.a,.int .i64 b.b,.string b.c,.string b.e,.string b.l,.string b.m]] w fun e v=>∃c,e=.returned (.int .i64 c)/\BarCode d b c/\Below w.heap.size w v:=by
 by_cases h:IsJ d.length b.a/\IsJ d.length b.b
 .
  obtain⟨z,g⟩:=Int.eq_ofNat_of_zero_le h.1.1;obtain⟨A,i⟩:=Int.eq_ofNat_of_zero_le h.2.1;have O:z<d.length:=by have:=h.1.2;omega
  have P:A<d.length:=by have:=h.2.2;omega
  obtain⟨p,B⟩:∃p,d[z]?=some p:=⟨_,gE O⟩;obtain⟨q,C⟩:∃q,d[A]?=some q:=⟨_,gE P⟩;obtain⟨F,j⟩:=QOf.ex p.x.data.toList;obtain⟨G,k⟩:=QOf.ex p.y.data.toList;obtain⟨H,n⟩:=QOf.ex q.x.data.toList;obtain⟨I,o⟩:=QOf.ex q.y.data.toList;obtain⟨J,r⟩:=QOf.ex b.c.data.toList;obtain⟨K,s⟩:=QOf.ex b.l.data.toList;obtain⟨L,t⟩:=QOf.ex b.m.data.toList;rw[g,i];refine(Qtv a f z A d p q b.c b.e b.l b.m F G H I J K L w M N B C (E p (mO B)) (E q (mO C)) ⟨u.1,u.2.2.1,u.2.2.2⟩ j k n o r s t).mono ?_;rintro e v ⟨rfl,D⟩;exact⟨_,rfl,.inr ⟨h.1,h.2,p,q,by rw[g];exact B,by rw[i];exact C,F,G,H,I,J,K,L,j,k,n,o,r,s,t,rfl⟩,D⟩
 .
  refine(Qtu a d.length f b.a b.b b.c b.e b.l b.m w h).mono ?_;rintro e v ⟨rfl,D⟩;exact⟨_,rfl,.inl ⟨h,rfl⟩,D⟩
def Many(j b h:Nat):Prop:=j<1∨10<j∨24<b∨20<h
def FrameFault(js:List S2)(bs:List B6)(hs:List H3)(c at_:Int):Prop:=
 (Many js.length bs.length hs.length/\c=2/\at_=0)∨
 (¬Many js.length bs.length hs.length/\∃(k:Nat) (b:B6),bs[k]?=some b/\(∀(i:Nat) (x:B6),i<k->bs[i]?=some x->BarCode js x 0)/\BarCode js b c/\c≠0/\at_=(k:Int))∨
 (¬Many js.length bs.length hs.length/\(∀(i:Nat) (x:B6),bs[i]?=some x->BarCode js x 0)/\HoldsFault js.length bs.length hs c at_)
theorem HoldsFault.inj{n m:Nat}{p:List H3}{c d x y:Int}(h:HoldsFault n m p c x)(k:HoldsFault n m p d y):c=d/\x=y:=by
 rcases h with ⟨i,f,l,b,rfl,q,rfl⟩|⟨b,rfl,rfl⟩
 .
  rcases k with ⟨j,g,e,a,rfl,o,rfl⟩|⟨a,_,_⟩
  .
   rcases Nat.lt_trichotomy i j with h|rfl|h
   . exact absurd (a i f h l) q
   .
    rw[l] at e;cases e;exact⟨rfl,rfl⟩
   . exact absurd (b j g h e) o
  . exact absurd (a i f l) q
 .
  rcases k with ⟨j,g,e,a,rfl,o,rfl⟩|⟨a,rfl,rfl⟩
  . exact absurd (b j g e) o
  . exact⟨rfl,rfl⟩
theorem FrameFault.inj{r:List S2}{s:List B6}{t:List H3}{c d x y:Int}(h:FrameFault r s t c x)(k:FrameFault r s t d y):c=d/\x=y:=by
 rcases h with ⟨l,rfl,rfl⟩|⟨l,i,f,o,b,p,u,rfl⟩|⟨l,b,v⟩
 .
  rcases k with ⟨_,rfl,rfl⟩|⟨e,_⟩|⟨e,_⟩
  . exact⟨rfl,rfl⟩
  . exact absurd l e
  . exact absurd l e
 .
  rcases k with ⟨e,_⟩|⟨_,j,g,m,a,n,q,rfl⟩|⟨_,a,_⟩
  . exact absurd e l
  .
   rcases Nat.lt_trichotomy i j with h|rfl|h
   . exact absurd (p.inj (a i f h o)) u
   .
    rw[o] at m;cases m;exact⟨p.inj n,rfl⟩
   . exact absurd (n.inj (b j g h m)) q
  . exact absurd (p.inj (a i f o)) u
 .
  rcases k with ⟨e,_⟩|⟨_,j,g,m,a,n,q,rfl⟩|⟨_,a,w⟩
  . exact absurd e l
  . exact absurd (n.inj (b j g m)) q
  . exact v.inj w
theorem Qt2(M Q R:Vx)(c1 c2 c3:Nat)(r:List S2)(s:List B6)(u:List H3)(w:Vz)(J:Glob w)(K:FrRow w M Q R c1 c2 c3 r s u)(L:FrSized r s u):
 Calls prog 50 #[.agg #[.slice M r.length c1,.slice Q s.length c2,.slice R u.length c3]] w fun e w'=>∃c D,e=.returned (.agg #[.int .i64 c,.int .i64 D])/\FrameFault r s u c D/\Below w.heap.size w w':=by
 by_cases h1:r.length<1
 .
  have A:O (Many r.length s.length u.length):=Hi (.inl h1);have q1:((r.length:Int)<1):=by omega
  obtain⟨HG,T,Y⟩:=Ib J K L;clear J K L;go_enter func50,ntmps50;obtain⟨W,hW⟩:=nm ((w.alloc (.cells #[.slice M r.length c1,.slice Q s.length c2,.slice R u.length c3] 26)).alloc (.cells #[.int .i64 0,.int .i64 0] 41));have t:=Ub hW;have g:=Ud hW;have d:=Ue hW;have q:O (Bl W W):=Hi bR;have n:=g.o.below q.o g.o.lt;have p:=d.o.below q.o d.o.lt;obtain⟨z,x1,-⟩:=zc n
  obtain⟨-,-,x2,-⟩:=zc n;obtain⟨B,C,-⟩:=zc p;have f0:=p.free 0;have f1:=p.free 1;clear n p;rw[<-hW] at z x1 x2 B C f0 f1;have HW:=Hi hW;clear hW;go_wp2;refine bodyPost_ret (v:=.agg #[.int .i64 2,.int .i64 0]) (results_cell_row rfl _ _ (w.heap.size+1) 41 #[.int .i64 2,.int .i64 0] (0,0) _ rfl (SB.new2 w _ _ _ _) underlying41 rfl Tryz.faultInfo) rfl ?_;exact⟨2,0,rfl,Or.inl ⟨A.o,rfl,rfl⟩,Below.new2 w _ _⟩
 by_cases h2:10<r.length
 .
  have A:O (Many r.length s.length u.length):=Hi (.inr (.inl h2));have q1:¬((r.length:Int)<1):=by omega
  have q2:((10:Int)<(r.length:Int)):=by omega
  obtain⟨HG,T,Y⟩:=Ib J K L;clear J K L;go_enter func50,ntmps50;obtain⟨W,hW⟩:=nm ((w.alloc (.cells #[.slice M r.length c1,.slice Q s.length c2,.slice R u.length c3] 26)).alloc (.cells #[.int .i64 0,.int .i64 0] 41));have t:=Ub hW;have g:=Ud hW;have d:=Ue hW;have q:O (Bl W W):=Hi bR;have n:=g.o.below q.o g.o.lt;have p:=d.o.below q.o d.o.lt;obtain⟨z,x1,-⟩:=zc n
  obtain⟨-,-,x2,-⟩:=zc n;obtain⟨B,C,-⟩:=zc p;have f0:=p.free 0;have f1:=p.free 1;clear n p;rw[<-hW] at z x1 x2 B C f0 f1;have HW:=Hi hW;clear hW;go_wp2;refine bodyPost_ret (v:=.agg #[.int .i64 2,.int .i64 0]) (results_cell_row rfl _ _ (w.heap.size+1) 41 #[.int .i64 2,.int .i64 0] (0,0) _ rfl (SB.new2 w _ _ _ _) underlying41 rfl Tryz.faultInfo) rfl ?_;exact⟨2,0,rfl,Or.inl ⟨A.o,rfl,rfl⟩,Below.new2 w _ _⟩
 by_cases h3:24<s.length
 .
  have A:O (Many r.length s.length u.length):=Hi (.inr (.inr (.inl h3)));have q1:¬((r.length:Int)<1):=by omega
  have q2:¬((10:Int)<(r.length:Int)):=by omega
  have q3:((24:Int)<(s.length:Int)):=by omega
  obtain⟨HG,T,Y⟩:=Ib J K L;clear J K L;go_enter func50,ntmps50;obtain⟨W,hW⟩:=nm ((w.alloc (.cells #[.slice M r.length c1,.slice Q s.length c2,.slice R u.length c3] 26)).alloc (.cells #[.int .i64 0,.int .i64 0] 41));have t:=Ub hW;have g:=Ud hW;have d:=Ue hW;have q:O (Bl W W):=Hi bR;have n:=g.o.below q.o g.o.lt;have p:=d.o.below q.o d.o.lt;obtain⟨z,x1,-⟩:=zc n
  obtain⟨-,-,x2,-⟩:=zc n;obtain⟨B,C,-⟩:=zc p;have f0:=p.free 0;have f1:=p.free 1;clear n p;rw[<-hW] at z x1 x2 B C f0 f1;have HW:=Hi hW;clear hW;go_wp2;refine bodyPost_ret (v:=.agg #[.int .i64 2,.int .i64 0]) (results_cell_row rfl _ _ (w.heap.size+1) 41 #[.int .i64 2,.int .i64 0] (0,0) _ rfl (SB.new2 w _ _ _ _) underlying41 rfl Tryz.faultInfo) rfl ?_;exact⟨2,0,rfl,Or.inl ⟨A.o,rfl,rfl⟩,Below.new2 w _ _⟩
 by_cases h4:20<u.length
 .
  have A:O (Many r.length s.length u.length):=Hi (.inr (.inr (.inr h4)));have q1:¬((r.length:Int)<1):=by omega
  have q2:¬((10:Int)<(r.length:Int)):=by omega
  have q3:¬((24:Int)<(s.length:Int)):=by omega
  have q4:((20:Int)<(u.length:Int)):=by omega
  obtain⟨HG,T,Y⟩:=Ib J K L;clear J K L;go_enter func50,ntmps50;obtain⟨W,hW⟩:=nm ((w.alloc (.cells #[.slice M r.length c1,.slice Q s.length c2,.slice R u.length c3] 26)).alloc (.cells #[.int .i64 0,.int .i64 0] 41));have t:=Ub hW;have g:=Ud hW;have d:=Ue hW;have q:O (Bl W W):=Hi bR;have n:=g.o.below q.o g.o.lt;have p:=d.o.below q.o d.o.lt;obtain⟨z,x1,-⟩:=zc n
  obtain⟨-,-,x2,-⟩:=zc n;obtain⟨B,C,-⟩:=zc p;have f0:=p.free 0;have f1:=p.free 1;clear n p;rw[<-hW] at z x1 x2 B C f0 f1;have HW:=Hi hW;clear hW;go_wp2;refine bodyPost_ret (v:=.agg #[.int .i64 2,.int .i64 0]) (results_cell_row rfl _ _ (w.heap.size+1) 41 #[.int .i64 2,.int .i64 0] (0,0) _ rfl (SB.new2 w _ _ _ _) underlying41 rfl Tryz.faultInfo) rfl ?_;exact⟨2,0,rfl,Or.inl ⟨A.o,rfl,rfl⟩,Below.new2 w _ _⟩
 have aa:O (¬Many r.length s.length u.length):=Hi (by rintro(h|h|h|h)<;>omega);have q1:¬((r.length:Int)<1):=by omega
 have q2:¬((10:Int)<(r.length:Int)):=by omega
 have q3:¬((24:Int)<(s.length:Int)):=by omega
 have q4:¬((20:Int)<(u.length:Int)):=by omega
 obtain⟨HG,T,Y⟩:=Ib J K L;clear J K L;go_enter func50,ntmps50;obtain⟨W,hW⟩:=nm ((w.alloc (.cells #[.slice M r.length c1,.slice Q s.length c2,.slice R u.length c3] 26)).alloc (.cells #[.int .i64 0,.int .i64 0] 41));have t:=Ub hW;have g:=Ud hW;have d:=Ue hW;have q:O (Bl W W):=Hi bR;have n:=g.o.below q.o g.o.lt;have p:=d.o.below q.o d.o.lt;obtain⟨z,x1,-⟩:=zc n
 obtain⟨-,-,x2,-⟩:=zc n;obtain⟨B,C,-⟩:=zc p;have f0:=p.free 0;have f1:=p.free 1;clear n p;rw[<-hW] at z x1 x2 B C f0 f1;have HW:=Hi hW;clear hW;go_wp2_with fail;rw[HW.o];clear z x1 x2 B C f0 f1;go_loopw [32] (fun iv wr=>∃k:Nat,k<=s.length/\iv=.int .i64 k/\(∀(i:Nat) (x:B6),i<k->s[i]?=some x->BarCode r x 0)/\Below W.heap.size W wr) (fun iv _=>s.length - (intOf iv).toNat)
 case atStart=>exact⟨0,by omega,rfl,fun i x hi=>by omega,Below.refl _ _⟩
 case round=>
  obtain⟨k,hk,rfl,S,hb⟩:=hrel;obtain⟨F,Z,ab⟩:=Ib S hb (t.o.trans (hb.mono t.o.size));clear S hb;by_cases ad:k<s.length
  .
   obtain⟨f,U⟩:∃f,s[k]?=some f:=⟨s[k],gE ad⟩;obtain⟨fb,af,rfl,ag,d0,d1,d2,d3,d4,d5⟩:=(T.o.b.below ab.o).bar U;have X:=Hi U;have q5:((k:Int)<(s.length:Int)):=by omega
   obtain⟨V,hV⟩:=nm (wr.alloc (.cells #[.int .i64 f.a,.int .i64 f.b,.string f.c,.string f.e,.string f.l,.string f.m] 84));have G:O (Bl W V):=Hi (by rw[<-hV];exact Z.o.alloc Z.o.size _);have n:=g.o.below G.o g.o.lt;obtain⟨z,-⟩:=zc n;rw[<-hV] at z;have HV:=Hi hV;clear U hV n;go_wp2_with fail;rw[HV.o];clear z d0 d1 d2 d3 d4 d5;go_fit (Qt1 M c1 r f V ((HG.o.below t.o).below G.o) ((T.o.j.below t.o).below G.o) Y.o.j (Y.o.b f (mO X.o)));rintro e w1 ⟨N,rfl,H,I⟩;obtain⟨P,y⟩:=Ia H (G.o.trans (I.mono G.o.size));clear H I;by_cases hc:N=0
   .
    subst hc;go_wp2;go_roundw
    case rel=>
     refine⟨k+1,by omega,by go_num,?_,y.o⟩;intro i x hi n;rcases Nat.lt_or_ge i k with h|h
     . exact F.o i x h n
     .
      obtain rfl:i=k:=by omega
      obtain rfl:=Option.some.inj (X.o.symm.trans n);exact P.o
    case measure=>simp[intOf];omega
   .
    have e0:(N != 0)=true:=by simpa using hc
    have E:=Hi (d.o.below y.o d.o.lt);obtain⟨B,C,-⟩:=zc E.o;have f0:=E.o.free 0;have f1:=E.o.free 1;go_wp2;refine bodyPost_ret (v:=.agg #[.int .i64 N,.int .i64 (k:Int)]) (results_cell_row rfl _ _ (w.heap.size+1) 41 #[.int .i64 N,.int .i64 (k:Int)] (0,0) _ rfl ((E.o.set 0 _).set 1 _) underlying41 rfl Tryz.faultInfo) rfl ?_;exact⟨N,_,rfl,Or.inr (Or.inl ⟨aa.o,k,f,X.o,F.o,P.o,hc,rfl⟩),((t.o.trans (y.o.mono t.o.size)).setCell (Nat.le_succ _) _).setCell (Nat.le_succ _) _⟩
  .
   have ae:k=s.length:=by omega
   subst ae;have n:=g.o.below Z.o g.o.lt;have p:=d.o.below Z.o d.o.lt;obtain⟨z,x1,x2,-⟩:=zc n;obtain⟨B,C,-⟩:=zc p;have f0:=p.free 0;have f1:=p.free 1;clear n p;go_wp2_with fail;clear z x1 x2 B C f0 f1;go_fit (Qt0 M Q R r.length c1 s.length c2 c3 u wr (T.o.h.below ab.o) (by omega) (by omega));rintro e w1 ⟨N,D,rfl,H,I⟩;obtain⟨P,y⟩:=Ia H (Z.o.trans (I.mono Z.o.size));clear H I;have n:=g.o.below y.o g.o.lt;have p:=d.o.below y.o d.o.lt
   obtain⟨z,x1,x2,-⟩:=zc n;obtain⟨B,C,-⟩:=zc p;have f0:=p.free 0;have f1:=p.free 1;clear n p;have E:=Hi (d.o.below y.o d.o.lt);go_wp2;refine bodyPost_ret (v:=.agg #[.int .i64 N,.int .i64 D]) (results_cell_row rfl _ _ (w.heap.size+1) 41 #[.int .i64 N,.int .i64 D] (0,0) _ rfl ((E.o.set 0 _).set 1 _) underlying41 rfl Tryz.faultInfo) rfl ?_
   exact⟨N,D,rfl,Or.inr (Or.inr ⟨aa.o,fun i x n=>F.o i x (gZ n).1 n,P.o⟩),((t.o.trans (y.o.mono t.o.size)).setCell (Nat.le_succ _) _).setCell (Nat.le_succ _) _⟩
theorem ref_F(c a:Int)(w:Vz):Calls prog 12 #[.int .i64 c,.int .i64 a] w fun e b=>e=.returned (.agg #[.int .i64 c,.int .i64 a])/\Below w.heap.size w b:=by
 go_enter func12,ntmps12;go_wp2;refine bodyPost_ret (results_cell_row rfl _ _ w.heap.size 41 #[.int .i64 c,.int .i64 a] (0,0) _ rfl (SB.new w _ _) underlying41 rfl Tryz.faultInfo) rfl ?_;exact⟨rfl,bR.alloc lZ _⟩
theorem Qk4(a b c:Vx)(c1 c2 c3 n m k:Nat)(w:Vz)(f:m<=24)(hk:k<=20):
 Calls prog 21 #[.agg #[.slice a n c1,.slice b m c2,.slice c k c3]] w fun e d=>e=.returned (.int .i64 ((m:Int)+(k:Int)))/\Below w.heap.size w d:=by
 go_enter func21,ntmps21;go_wp2;go_ret;exact⟨rfl,bR.alloc lZ _⟩
theorem Bag.pair{w:Vz}{a b j k:Nat}{p q:Rat}(c:RatVal w a p)(d:RatVal w b q)(e:Fits p j)(f:Fits q k):
 Bag w w [] [.int a 0 p.num j,.rat a p.den j,.int b 0 q.num k,.rat b q.den k]:=by
 refine⟨Below.refl _ _,fun n h=>(by cases h),fun t g=>⟨?_,List.not_mem_nil⟩⟩;simp only[List.mem_cons,List.not_mem_nil,or_false] at g;rcases g with rfl|rfl|rfl|rfl
 . exact c.int e
 . exact c.rat e
 . exact d.int f
 . exact d.rat f
theorem Bag.cmp{w0 w:Vz}{Z:Vy}{L:List Thing}{d f g i K1 K2:Nat}{X Y:Int}(h:Bag w0 w Z L)(n:.int d f X K1∈ L)(o:.int g i Y K2∈ L):
 Calls prog 81 #[.pointer (some ⟨d,f,none⟩),.pointer (some ⟨g,i,none⟩)] w fun e j=>e=.returned (.int .i64 (cmpZ X Y))/\Bag w0 j Z L/\w.heap.size<=j.heap.size:=by
 obtain⟨⟨a,k,l,p,t⟩,q⟩:=h.ts _ n;obtain⟨⟨b,cap',m,r,u⟩,s⟩:=h.ts _ o;refine(Qs3 d f X a k l g i Y b cap' m w p r).mono ?_;rintro e j ⟨rfl,c⟩;exact⟨rfl,h.below c,c.size⟩
theorem Qed(X Y:Int):cmpZ X Y=0↔X=Y:=by
 unfold cmpZ;by_cases b:X<Y
 .
  rw[if_pos b];constructor
  . intro h;omega
  . intro h;omega
 .
  rw[if_neg b];by_cases a:X=Y
  . rw[if_pos a];simp[a]
  . rw[if_neg a];simp[a]
theorem Qsn(X Y:Int){d:Int}(c:0<d):cmpZ (X*d) (Y*d)=cmpZ X Y:=by
 unfold cmpZ;by_cases a:X<Y
 . rw[if_pos a,if_pos (Int.mul_lt_mul_of_pos_right a c)]
 .
  have e:¬X*d<Y*d:=fun h=>a (Int.lt_of_mul_lt_mul_right h (Int.le_of_lt c))
  rw[if_neg a,if_neg e];by_cases b:X=Y
  . rw[if_pos b,if_pos (by rw[b])]
  . rw[if_neg b,if_neg (fun h=>b (Int.eq_of_mul_eq_mul_right (by omega) h))]
theorem Qso(p q:Rat):p.num*(q.den:Int)=q.num*(p.den:Int)↔p=q:=by
 constructor
 .
  intro h;rw[<-Rat.mkRat_self p,<-Rat.mkRat_self q];exact(Rat.mkRat_eq_iff p.den_nz q.den_nz).2 h
 . rintro rfl
   rfl
theorem Qkh(i l j k:Nat)(p q:Rat)(w:Vz)(m:RatVal w i p)(n:RatVal w l q)(r:Fits p j)(s:Fits q k)(A:j+k<274877906000):
 Calls prog 31 #[.pointer (some ⟨i,0,none⟩),.pointer (some ⟨l,0,none⟩)] w fun e u=>e=.returned (.int .i64 (cmpZ (p.num*(q.den:Int)) (q.num*(p.den:Int))))/\Below w.heap.size w u:=by
 have c:=Hi (Bag.pair m n r s);clear m n r s;by_cases d:(p.den:Int)=(q.den:Int)
 .
  have f:O (cmpZ (p.den:Int) (q.den:Int)=0):=Hi ((Qed _ _).2 d);have v:=Hi d;clear d;go_enter func31,ntmps31;go_wp2_with (first
   |
    (go_at_call 80
     apply cM;apply Bag.den (w0:=w);(focus(repeat(first|exact c.o|apply Bag.alloc|apply Bag.drew)));(focus(repeat(first|exact mH|apply mT)));rintro e w1 ⟨b1,t,rfl,a,b⟩;clear c;have c:=Hi a;clear a
     (try simp only[Qai,World.size_alloc] at b))
   |
    (go_at_call 81
     apply cM;apply Bag.cmp (w0:=w);(focus(repeat(first|exact c.o|apply Bag.alloc|apply Bag.drew)));(focus(repeat(first|exact mH|apply mT)));(focus(repeat(first|exact mH|apply mT)));rintro e w1 ⟨rfl,a,b⟩;rw[f.o];clear c;have c:=Hi a
     clear a)
   |fail)
  go_region_held3 (fun _=>True) (trivial) (first
   |
    (go_at_call 81
     apply cM;apply Bag.cmp (w0:=w);(focus(repeat(first|exact c.o|apply Bag.alloc|apply Bag.drew)));(focus(repeat(first|exact mH|apply mT)));(focus(repeat(first|exact mH|apply mT)));rintro e w1 ⟨rfl,a,b⟩;clear c;have c:=Hi a;clear a
     (try simp only[Qai,World.size_alloc] at b))
   )
  go_wp2;go_ret;refine⟨?_,c.o.base⟩;have d:=v.o;rw[d,Qsn _ _ (show (0:Int)<(q.den:Int) by have:=q.den_nz;omega)];rfl
 .
  obtain⟨x,g⟩:=nm (cmpZ (p.den:Int) (q.den:Int));have y:(x == 0)=false:=by
   rw[beq_eq_false_iff_ne];intro h;exact d ((Qed _ _).1 (g.trans h))
  have f:=Hi g;clear d g;go_enter func31,ntmps31;go_wp2_with (first
   |
    (go_at_call 80
     apply cM;apply Bag.den (w0:=w);(focus(repeat(first|exact c.o|apply Bag.alloc|apply Bag.drew)));(focus(repeat(first|exact mH|apply mT)));rintro e w1 ⟨b1,t,rfl,a,b⟩;clear c;have c:=Hi a;clear a
     (try simp only[Qai,World.size_alloc] at b))
   |
    (go_at_call 81
     apply cM;apply Bag.cmp (w0:=w);(focus(repeat(first|exact c.o|apply Bag.alloc|apply Bag.drew)));(focus(repeat(first|exact mH|apply mT)));(focus(repeat(first|exact mH|apply mT)));rintro e w1 ⟨rfl,a,b⟩;rw[f.o];clear c;have c:=Hi a
     clear a)
   |fail)
  go_region_held3 (fun _=>True) (trivial) (first
   |
    (go_at_call 82
     apply cM;apply Bag.mul (w0:=w);(focus(repeat(first|exact c.o|apply Bag.alloc|apply Bag.drew)));(focus(simp only[mem_less,List.mem_cons,List.not_mem_nil,or_false,Qai,World.size_alloc,true_or,or_true,true_and,and_true]<;>omega));(focus(repeat(first|exact mH|apply mT)));(focus(repeat(first|exact mH|apply mT)));omega;rintro e w1 ⟨rfl,a,b,z⟩;clear c;have c:=Hi a;clear a
     (try simp only[Qai,World.size_alloc] at b))
   |
    (go_at_call 80
     apply cM;apply Bag.den (w0:=w);(focus(repeat(first|exact c.o|apply Bag.alloc|apply Bag.drew)));(focus(repeat(first|exact mH|apply mT)));rintro e w1 ⟨b1,t,rfl,a,b⟩;clear c;have c:=Hi a;clear a
     (try simp only[Qai,World.size_alloc] at b))
   |
    (go_at_call 81
     apply cM;apply Bag.cmp (w0:=w);(focus(repeat(first|exact c.o|apply Bag.alloc|apply Bag.drew)));(focus(repeat(first|exact mH|apply mT)));(focus(repeat(first|exact mH|apply mT)));rintro e w1 ⟨rfl,a,b⟩;clear c;have c:=Hi a;clear a
     (try simp only[Qai,World.size_alloc] at b))
   )
  all_goals
   go_wp2;go_ret;exact⟨rfl,c.o.base⟩
theorem Qki(a b j k:Nat)(p q:Rat)(w:Vz)(f:RatVal w a p)(g:RatVal w b q)(i:Fits p j)(l:Fits q k)(m:j+k<274877906000):
 Calls prog 31 #[.pointer (some ⟨a,0,none⟩),.pointer (some ⟨b,0,none⟩)] w fun e d=>(∃c,e=.returned (.int .i64 c)/\(c=0↔p=q))/\Below w.heap.size w d:=
 (Qkh a b j k p q w f g i l m).mono fun e d h=>⟨⟨_,h.1,(Qed _ _).trans (Qso p q)⟩,h.2⟩
theorem RBag.cmpT{w0 w:Vz}{L:List (Nat × Rat × Nat)}{d f j k:Nat}{p q:Rat}(h:RBag w0 w L)(i:(d,p,j)∈ L)(l:(f,q,k)∈ L)(m:j+k<274877906000)(n:p=q):
 Calls prog 31 #[.pointer (some ⟨d,0,none⟩),.pointer (some ⟨f,0,none⟩)] w fun e g=>e=.returned (.int .i64 0)/\RBag w0 g L:=by
 have a:=h.ts _ i;have b:=h.ts _ l;refine(Qki d f j k p q w a.1 b.1 a.2.1 b.2.1 m).mono ?_;rintro e g ⟨⟨c,rfl,o⟩,r⟩;exact⟨by rw[o.2 n],h.below r⟩
theorem RBag.cmpF{w0 w:Vz}{L:List (Nat × Rat × Nat)}{d f j k:Nat}{p q:Rat}(h:RBag w0 w L)(i:(d,p,j)∈ L)(l:(f,q,k)∈ L)(m:j+k<274877906000)(n:¬p=q):
 Calls prog 31 #[.pointer (some ⟨d,0,none⟩),.pointer (some ⟨f,0,none⟩)] w fun e g=>(∃c,e=.returned (.int .i64 c)/\(c == 0)=false)/\RBag w0 g L:=by
 have a:=h.ts _ i;have b:=h.ts _ l;refine(Qki d f j k p q w a.1 b.1 a.2.1 b.2.1 m).mono ?_;rintro e g ⟨⟨c,rfl,o⟩,r⟩;exact⟨⟨c,rfl,by rw[beq_eq_false_iff_ne];exact fun h=>n (o.1 h)⟩,h.below r⟩
theorem Qtc(A B C:Vx)(c1 c2 c3:Nat)(l:List S2)(q:List B6)(s:List H3)(w:Vz)(u:Glob w)(x:FrRow w A B C c1 c2 c3 l q s)(y:FrSized l q s)(D:Many l.length q.length s.length):
 Calls prog 20 #[.agg #[.slice A l.length c1,.slice B q.length c2,.slice C s.length c3]] w fun e J=>∃c E,e=.returned (.agg #[.int .i64 c,.int .i64 E])/\FrameFault l q s c E/\Below w.heap.size w J:=by
 have t:=Hi D;by_cases N:l.length<1
 .
  have K:((l.length:Int) == 0)=true:=by rw[beq_iff_eq];omega
  clear D;obtain⟨F,G,H⟩:=Ib u x y;clear u x y;go_enter func20,ntmps20;obtain⟨W,hW⟩:=nm ((w.alloc (.cells #[.slice A l.length c1,.slice B q.length c2,.slice C s.length c3] 26)).alloc (.cells #[.int .i64 0,.int .i64 0] 41));have f:=Ub hW;have g:=Ud hW;have a:=Ue hW;have b:O (Bl W W):=Hi bR;have m:=g.o.below b.o g.o.lt;have k:=a.o.below b.o a.o.lt;obtain⟨r,-⟩:=zc m
  obtain⟨-,x1,x2,-⟩:=zc m;obtain⟨n,p,-⟩:=zc k;have f0:=k.free 0;have f1:=k.free 1;clear m k;rw[<-hW] at r x1 x2 n p f0 f1;have z:=Hi hW;clear hW;go_wp2_with fail;rw[z.o];clear r x1 x2 n p f0 f1;go_fit (ref_F 2 0 W);rintro e I ⟨rfl,i⟩;have j:=Hi (b.o.trans (i.mono b.o.size));have d:=Hi (a.o.below j.o a.o.lt);obtain⟨n,p,-⟩:=zc d.o;have f0:=d.o.free 0;have f1:=d.o.free 1;clear i;go_wp2
  refine bodyPost_ret (v:=.agg #[.int .i64 2,.int .i64 0]) (results_cell_row rfl _ _ (w.heap.size+1) 41 #[.int .i64 2,.int .i64 0] (0,0) _ rfl ((d.o.set 0 _).set 1 _) underlying41 rfl Tryz.faultInfo) rfl ?_;exact⟨_,_,rfl,Or.inl ⟨t.o,rfl,rfl⟩,((f.o.trans (j.o.mono f.o.size)).setCell (Nat.le_succ _) _).setCell (Nat.le_succ _) _⟩
 have K:((l.length:Int) == 0)=false:=by rw[beq_eq_false_iff_ne];omega
 by_cases P:10<l.length
 .
  have L:((10:Int)<(l.length:Int)):=by omega
  clear D;obtain⟨F,G,H⟩:=Ib u x y;clear u x y;go_enter func20,ntmps20;obtain⟨W,hW⟩:=nm ((w.alloc (.cells #[.slice A l.length c1,.slice B q.length c2,.slice C s.length c3] 26)).alloc (.cells #[.int .i64 0,.int .i64 0] 41));have f:=Ub hW;have g:=Ud hW;have a:=Ue hW;have b:O (Bl W W):=Hi bR;have m:=g.o.below b.o g.o.lt;have k:=a.o.below b.o a.o.lt;obtain⟨r,-⟩:=zc m
  obtain⟨-,x1,x2,-⟩:=zc m;obtain⟨n,p,-⟩:=zc k;have f0:=k.free 0;have f1:=k.free 1;clear m k;rw[<-hW] at r x1 x2 n p f0 f1;have z:=Hi hW;clear hW;go_wp2_with fail;rw[z.o];clear r x1 x2 n p f0 f1;go_fit (ref_F 2 0 W);rintro e I ⟨rfl,i⟩;have j:=Hi (b.o.trans (i.mono b.o.size));have d:=Hi (a.o.below j.o a.o.lt);obtain⟨n,p,-⟩:=zc d.o;have f0:=d.o.free 0;have f1:=d.o.free 1;clear i;go_wp2
  refine bodyPost_ret (v:=.agg #[.int .i64 2,.int .i64 0]) (results_cell_row rfl _ _ (w.heap.size+1) 41 #[.int .i64 2,.int .i64 0] (0,0) _ rfl ((d.o.set 0 _).set 1 _) underlying41 rfl Tryz.faultInfo) rfl ?_;exact⟨_,_,rfl,Or.inl ⟨t.o,rfl,rfl⟩,((f.o.trans (j.o.mono f.o.size)).setCell (Nat.le_succ _) _).setCell (Nat.le_succ _) _⟩
 have L:¬((10:Int)<(l.length:Int)):=by omega
 by_cases Q:24<q.length
 .
  have M:((24:Int)<(q.length:Int)):=by omega
  clear D;obtain⟨F,G,H⟩:=Ib u x y;clear u x y;go_enter func20,ntmps20;obtain⟨W,hW⟩:=nm ((w.alloc (.cells #[.slice A l.length c1,.slice B q.length c2,.slice C s.length c3] 26)).alloc (.cells #[.int .i64 0,.int .i64 0] 41));have f:=Ub hW;have g:=Ud hW;have a:=Ue hW;have b:O (Bl W W):=Hi bR;have m:=g.o.below b.o g.o.lt;have k:=a.o.below b.o a.o.lt;obtain⟨r,-⟩:=zc m
  obtain⟨-,x1,x2,-⟩:=zc m;obtain⟨n,p,-⟩:=zc k;have f0:=k.free 0;have f1:=k.free 1;clear m k;rw[<-hW] at r x1 x2 n p f0 f1;have z:=Hi hW;clear hW;go_wp2_with fail;rw[z.o];clear r x1 x2 n p f0 f1;go_fit (ref_F 2 0 W);rintro e I ⟨rfl,i⟩;have j:=Hi (b.o.trans (i.mono b.o.size));have d:=Hi (a.o.below j.o a.o.lt);obtain⟨n,p,-⟩:=zc d.o;have f0:=d.o.free 0;have f1:=d.o.free 1;clear i;go_wp2
  refine bodyPost_ret (v:=.agg #[.int .i64 2,.int .i64 0]) (results_cell_row rfl _ _ (w.heap.size+1) 41 #[.int .i64 2,.int .i64 0] (0,0) _ rfl ((d.o.set 0 _).set 1 _) underlying41 rfl Tryz.faultInfo) rfl ?_;exact⟨_,_,rfl,Or.inl ⟨t.o,rfl,rfl⟩,((f.o.trans (j.o.mono f.o.size)).setCell (Nat.le_succ _) _).setCell (Nat.le_succ _) _⟩
 have M:¬((24:Int)<(q.length:Int)):=by omega
 have R:((20:Int)<(s.length:Int)):=by rcases D with h|h|h|h<;>omega
 clear D;obtain⟨F,G,H⟩:=Ib u x y;clear u x y;go_enter func20,ntmps20;obtain⟨W,hW⟩:=nm ((w.alloc (.cells #[.slice A l.length c1,.slice B q.length c2,.slice C s.length c3] 26)).alloc (.cells #[.int .i64 0,.int .i64 0] 41));have f:=Ub hW;have g:=Ud hW;have a:=Ue hW;have b:O (Bl W W):=Hi bR;have m:=g.o.below b.o g.o.lt;have k:=a.o.below b.o a.o.lt;obtain⟨r,-⟩:=zc m
 obtain⟨-,x1,x2,-⟩:=zc m;obtain⟨n,p,-⟩:=zc k;have f0:=k.free 0;have f1:=k.free 1;clear m k;rw[<-hW] at r x1 x2 n p f0 f1;have z:=Hi hW;clear hW;go_wp2_with fail;rw[z.o];clear r x1 x2 n p f0 f1;go_fit (ref_F 2 0 W);rintro e I ⟨rfl,i⟩;have j:=Hi (b.o.trans (i.mono b.o.size));have d:=Hi (a.o.below j.o a.o.lt);obtain⟨n,p,-⟩:=zc d.o;have f0:=d.o.free 0;have f1:=d.o.free 1;clear i;go_wp2
 refine bodyPost_ret (v:=.agg #[.int .i64 2,.int .i64 0]) (results_cell_row rfl _ _ (w.heap.size+1) 41 #[.int .i64 2,.int .i64 0] (0,0) _ rfl ((d.o.set 0 _).set 1 _) underlying41 rfl Tryz.faultInfo) rfl ?_;exact⟨_,_,rfl,Or.inl ⟨t.o,rfl,rfl⟩,((f.o.trans (j.o.mono f.o.size)).setCell (Nat.le_succ _) _).setCell (Nat.le_succ _) _⟩
theorem Qtd{a:List H3}{m i:Nat}{o:H3}(h:a[i]?=some o)(b:i<m):(o.j,o.w)∈ places (a.take m):=by
 unfold places;exact List.mem_map.2 ⟨o,mO (i:=i) (by rw[List.getElem?_take_of_lt b];exact h),rfl⟩
theorem Qte{b:List H3}{m:Nat}{h:H3}(d:∀(t:Nat) (x:H3),t<m->b[t]?=some x->¬(x.j=h.j/\x.w=h.w)):(h.j,h.w) ∉ places (b.take m):=by
 intro c;unfold places at c;obtain⟨x,f,e⟩:=List.mem_map.1 c;obtain⟨t,a⟩:=List.getElem?_of_mem f;have hl:=(gZ a).1;rw[List.length_take] at hl;rw[List.getElem?_take_of_lt (by omega)] at a;simp only[Prod.mk.injEq] at e;exact d t x (by omega) a e
theorem Qak{X Y:Vz}{g h:Nat}{t:Vr}{a b c d:Value}(k:SB X g t #[a,b])(l:SB X h t #[c,d])(e:Bl X Y):Y.cell? ⟨g,0,none⟩=some a/\Y.cell? ⟨g,1,none⟩=some b/\Y.cell? ⟨h,0,none⟩=some c/\Y.cell? ⟨h,1,none⟩=some d:=
 ⟨(k.below e k.lt).cell 0,(k.below e k.lt).cell 1,(l.below e l.lt).cell 0,(l.below e l.lt).cell 1⟩
theorem Qek{X Y:Vz}{g:Nat}{t:Vr}{a b c d e f:Value}(k:SB X g t #[a,b,c,d,e,f])(h:Bl X Y):Y.cell? ⟨g,2,none⟩=some c/\Y.cell? ⟨g,4,none⟩=some e/\Y.cell? ⟨g,5,none⟩=some f:=
 ⟨(k.below h k.lt).cell 2,(k.below h k.lt).cell 4,(k.below h k.lt).cell 5⟩
theorem Qtf(a1 a2 a3:Vx)(c1 c2 c3:Nat)(z:List S2)(L:List B6)(J:List H3)(w:Vz)(hg:Glob w)(hf:FrRow w a1 a2 a3 c1 c2 c3 z L J)(hz:FrSized z L J)(hm:¬Many z.length L.length J.length):
 Calls prog 20 #[.agg #[.slice a1 z.length c1,.slice a2 L.length c2,.slice a3 J.length c3]] w fun e w'=>∃c a7,e=.returned (.agg #[.int .i64 c,.int .i64 a7])/\FrameFault z L J c a7/\Below w.heap.size w w':=by
 have n0:1<=z.length:=Nat.le_of_not_lt fun h=>hm (.inl h)
 have n1:z.length<=10:=Nat.le_of_not_lt fun h=>hm (.inr (.inl h))
 have n2:L.length<=24:=Nat.le_of_not_lt fun h=>hm (.inr (.inr (.inl h)))
 have n3:J.length<=20:=Nat.le_of_not_lt fun h=>hm (.inr (.inr (.inr h)))
 have Z:=Hi hm;have q1:((z.length:Int) == 0)=false:=by rw[beq_eq_false_iff_ne];omega
 have q2:¬((10:Int)<(z.length:Int)):=by omega
 have q3:¬((24:Int)<(L.length:Int)):=by omega
 have q4:¬((20:Int)<(J.length:Int)):=by omega
 clear hm;obtain⟨HG,HF,HZ⟩:=Ib hg hf hz;clear hg hf hz;go_enter func20,ntmps20;obtain⟨W,hW⟩:=nm ((w.alloc (.cells #[.slice a1 z.length c1,.slice a2 L.length c2,.slice a3 J.length c3] 26)).alloc (.cells #[.int .i64 0,.int .i64 0] 41));have A:=Ub hW;have N:=Ud hW;have I:=Ue hW;have a8:O (Bl W W):=Hi bR;have F:=N.o.below a8.o N.o.lt;have hy:=I.o.below a8.o I.o.lt;obtain⟨x0,-⟩:=zc F
 obtain⟨-,x1,x2,-⟩:=zc F;obtain⟨z0,z1,-⟩:=zc hy;have f0:=hy.free 0;have f1:=hy.free 1;clear F hy;rw[<-hW] at x0 x1 x2 z0 z1 f0 f1;have HW:=Hi hW;clear hW;go_wp2_with fail;rw[HW.o];clear x0 x1 x2 z0 z1 f0 f1 q1 q2 q3 q4;go_loopw [38] (fun iv wr=>∃k:Nat,k<=L.length/\iv=.int .i64 k/\(∀(i:Nat) (x:B6),i<k->L[i]?=some x->BarCode z x 0)/\Below W.heap.size W wr) (fun iv _=>L.length - (intOf iv).toNat)
 case atStart=>exact⟨0,by omega,rfl,fun i x hi=>by omega,Below.refl _ _⟩
 case round=>
  obtain⟨k,hk,rfl,am,hb⟩:=hrel;obtain⟨K,HB,b4⟩:=Ib am hb (A.o.trans (hb.mono A.o.size));clear am hb;by_cases b5:k<L.length
  .
   obtain⟨f,an⟩:∃f,L[k]?=some f:=⟨L[k],gE b5⟩;obtain⟨fb,b6,rfl,b7,d0,d1,d2,d3,d4,d5⟩:=(HF.o.b.below b4.o).bar an;have ae:=Hi an;have q5:((k:Int)<(L.length:Int)):=by omega
   obtain⟨V,hV⟩:=nm (wr.alloc (.cells #[.int .i64 f.a,.int .i64 f.b,.string f.c,.string f.e,.string f.l,.string f.m] 84));have C:O (Bl W V):=Hi (by rw[<-hV];exact HB.o.alloc HB.o.size _);have X:=Uc hV;have HV:=Hi hV;clear an hV;by_cases gg:f.a<0∨f.b<0∨(z.length:Int)<=f.a∨(z.length:Int)<=f.b
   .
    have b8:O (¬(IsJ z.length f.a/\IsJ z.length f.b)):=Hi (fun h=>by unfold IsJ at h;omega);rcases(show f.a<0∨¬f.a<0/\f.b<0∨¬f.a<0/\¬f.b<0/\(z.length:Int)<=f.a∨¬f.a<0/\¬f.b<0/\¬(z.length:Int)<=f.a/\(z.length:Int)<=f.b by omega) with g1|⟨g1,g2⟩|⟨g1,g2,g3⟩|⟨g1,g2,g3,g4⟩
    all_goals
     clear gg;go_wp2_with fail;rw[HV.o];clear d0 d1 d2 d3 d4 d5;go_fit (ref_F 4 (k:Int) V);rintro e w9 ⟨rfl,G⟩;have H:=Hi (C.o.trans (G.mono C.o.size));have r:=Hi (I.o.below H.o I.o.lt);obtain⟨z0,z1,-⟩:=zc r.o;have f0:=r.o.free 0;have f1:=r.o.free 1;clear G;go_wp2;refine bodyPost_ret (v:=.agg #[.int .i64 4,.int .i64 (k:Int)]) (results_cell_row rfl _ _ (w.heap.size+1) 41 #[.int .i64 4,.int .i64 (k:Int)] (0,0) _ rfl ((r.o.set 0 _).set 1 _) underlying41 rfl Tryz.faultInfo) rfl ?_;exact⟨_,_,rfl,Or.inr (Or.inl ⟨Z.o,k,f,ae.o,K.o,Or.inl ⟨b8.o,rfl⟩,by decide,rfl⟩),((A.o.trans (H.o.mono A.o.size)).setCell (Nat.le_succ _) _).setCell (Nat.le_succ _) _⟩
   obtain⟨g1,g2,g3,g4⟩:¬f.a<0/\¬f.b<0/\¬(z.length:Int)<=f.a/\¬(z.length:Int)<=f.b:=by omega
   clear gg;have ai:IsJ z.length f.a:=⟨by omega,by omega⟩;have a9:IsJ z.length f.b:=⟨by omega,by omega⟩;obtain⟨ao,ap⟩:=Ia ai a9;clear ai a9;obtain⟨ka,ba⟩:=Int.eq_ofNat_of_zero_le ao.o.1;obtain⟨kb,bb⟩:=Int.eq_ofNat_of_zero_le ap.o.1;obtain⟨p,hp⟩:∃p,z[ka]?=some p:=⟨_,gE (by have:=ao.o.2;omega)⟩;obtain⟨q,u⟩:∃q,z[kb]?=some q:=⟨_,gE (by have:=ap.o.2;omega)⟩;obtain⟨aq,ar,HP,HQ⟩:=Ic ba bb hp u;clear ba bb hp u;go_wp2_with fail;rw[HV.o,aq.o,ar.o];clear d0 d1 d2 d3 d4 d5;obtain⟨jb,jo,ai,ck,d0,d1⟩:=((HF.o.j.below A.o).below C.o).spot HP.o;obtain⟨cl,cm,bc,ch,d2,d3⟩:=((HF.o.j.below A.o).below C.o).spot HQ.o;subst ai;cases bc;have F:=N.o.below C.o N.o.lt
   obtain⟨x0,-⟩:=zc F;have y0:V.cell? ⟨wr.heap.size,0,none⟩=some (.int .i64 (ka:Int)):=by rw[<-aq.o];exact X.o.cell 0
   have y1:V.cell? ⟨wr.heap.size,1,none⟩=some (.int .i64 (kb:Int)):=by rw[<-ar.o];exact X.o.cell 1
   have i1:((0:Int)<=(ka:Int)):=by omega
   have i2:((0:Int)<=(kb:Int)):=by omega
   have i3:((ka:Int)<(z.length:Int)):=by have:=(gZ HP.o).1;omega
   have i4:((kb:Int)<(z.length:Int)):=by have:=(gZ HQ.o).1;omega
   have l0:=N.o.lt;have l1:=C.o.size;have l2:=X.o.lt;have m1:V.heap.size≠w.heap.size:=by omega
   have m2:V.heap.size≠wr.heap.size:=by omega
   have m3:V.heap.size≠jb:=by omega
   have m4:V.heap.size+1≠w.heap.size:=by omega
   have m5:V.heap.size+1≠wr.heap.size:=by omega
   have m6:V.heap.size+1≠jb:=by omega
   clear F;go_cut [6,7] (fun s6 s7 wx=>∃g6 g7:Nat,s6=.pointer (some ⟨g6,0,none⟩)/\s7=.pointer (some ⟨g7,0,none⟩)/\SB wx g6 34 #[.string p.x,.string p.y]/\SB wx g7 34 #[.string q.x,.string q.y]/\Below V.heap.size V wx)
   case first=>
    go_region_held3 (fun v=>v.cell? ⟨w.heap.size,0,none⟩=some (.slice (some ⟨jb,jo,none⟩) z.length c1)/\v.cell? ⟨wr.heap.size,0,none⟩=some (.int .i64 (ka:Int))/\v.cell? ⟨wr.heap.size,1,none⟩=some (.int .i64 (kb:Int))/\v.cell? ⟨jb,jo+ka*2,none⟩=some (.string p.x)/\v.cell? ⟨jb,jo+ka*2+1,none⟩=some (.string p.y)/\v.cell? ⟨jb,jo+kb*2,none⟩=some (.string q.x)/\v.cell? ⟨jb,jo+kb*2+1,none⟩=some (.string q.y)) ((first|(simp [*];done)|go_keep)) (fail)
    all_goals
     go_wp2_with fail;go_meet
     case rel=>
      first
       |exact⟨_,_,rfl,rfl,SB.drew ((SB.new V _ _).alloc _),SB.drew (SB.new2 V _ _ _ _),(Below.new2 V _ _).drew⟩
       |exact⟨_,_,rfl,rfl,SB.drew (SB.new2 V _ _ _ _),SB.drew ((SB.new V _ _).alloc _),(Below.new2 V _ _).drew⟩
   case rest=>
    obtain⟨g6,g7,rfl,rfl,bd,be,au⟩:=hcut;obtain⟨wx,rfl⟩:∃wx,wx=wc:=⟨wc,rfl⟩;obtain⟨D,E,bf,av⟩:=Ic bd be (X.o.below au X.o.lt) (C.o.trans (au.mono C.o.size));have g:=Hi (RBag.start ((HG.o.below A.o).below av.o).most);obtain⟨px,bg⟩:=QOf.ex p.x.data.toList;obtain⟨py,bh⟩:=QOf.ex p.y.data.toList;obtain⟨qx,bi⟩:=QOf.ex q.x.data.toList;obtain⟨qy,bj⟩:=QOf.ex q.y.data.toList;obtain⟨vc,bk⟩:=QOf.ex f.c.data.toList;obtain⟨vl,bl⟩:=QOf.ex f.l.data.toList;obtain⟨vm,bm⟩:=QOf.ex f.m.data.toList;obtain⟨Q1,Q2,Q3,Q4,Q5,Q6,Q7,Z1,Z2⟩:=Ih bg bh bi bj bk bl bm (HZ.o.j p (mO HP.o)) (HZ.o.j q (mO HQ.o));have Z3:=Hi (HZ.o.b f (mO ae.o))
    have bn:O (∀c,c=(if px=qx/\py=qy then 5 else if sgn3 vc.num<=0∨0<sgn3 vl.num∨sgn3 vm.num<0 then 5 else 0)->BarCode z f c):=Hi (fun c hc=>.inr ⟨ao.o,ap.o,p,q,by rw[aq.o];exact HP.o,by rw[ar.o];exact HQ.o,px,py,qx,qy,vc,vl,vm,Q1.o,Q2.o,Q3.o,Q4.o,Q5.o,Q6.o,Q7.o,hc⟩);clear bd be au bg bh bi bj bk bl bm x0 y0 y1 d0 d1 d2 d3 i1 i2 i3 i4 l0 l1 l2 m1 m2 m3 m4 m5 m6;obtain⟨P,Q,R,S⟩:=Qak D.o E.o g.o.base;go_wp2_with fail;go_cut [94] (fun s wy=>s=.bool (decide (px=qx/\py=qy))/\Below wx.heap.size wx wy)
    case first=>
     by_cases T:px=qx
     .
      by_cases e2:py=qy
      .
       obtain⟨af,aw,ag⟩:=Ib T e2 (decide_eq_true (show px=qx/\py=qy from ⟨T,e2⟩));clear T e2;go_region_held3 (fun v=>v.cell? ⟨g6,0,none⟩=some (.string p.x)/\v.cell? ⟨g6,1,none⟩=some (.string p.y)/\v.cell? ⟨g7,0,none⟩=some (.string q.x)/\v.cell? ⟨g7,1,none⟩=some (.string q.y)) ((first|(simp [*];done)|go_keep)) (first
        |
         (go_at_call_of 36 (Value.string p.x)
          apply cM;apply RBag.of (w0:=wx) (n:=1048576);(focus(first|exact g.o|exact g.o.drew));exact Z1.o.1;decide;rintro e M ⟨qq,u,bq,rfl,d⟩;obtain rfl:=Q1.o.inj u;clear g;have g:=Hi d;clear u d;obtain⟨P,Q,R,S⟩:=Qak D.o E.o g.o.base
          skip)
        |
         (go_at_call_of 36 (Value.string p.y)
          apply cM;apply RBag.of (w0:=wx) (n:=1048576);(focus(first|exact g.o|exact g.o.drew));exact Z1.o.2;decide;rintro e M ⟨qq,u,bq,rfl,d⟩;obtain rfl:=Q2.o.inj u;clear g;have g:=Hi d;clear u d;obtain⟨P,Q,R,S⟩:=Qak D.o E.o g.o.base
          skip)
        |
         (go_at_call_of 36 (Value.string q.x)
          apply cM;apply RBag.of (w0:=wx) (n:=1048576);(focus(first|exact g.o|exact g.o.drew));exact Z2.o.1;decide;rintro e M ⟨qq,u,bq,rfl,d⟩;obtain rfl:=Q3.o.inj u;clear g;have g:=Hi d;clear u d;obtain⟨P,Q,R,S⟩:=Qak D.o E.o g.o.base
          skip)
        |
         (go_at_call_of 36 (Value.string q.y)
          apply cM;apply RBag.of (w0:=wx) (n:=1048576);(focus(first|exact g.o|exact g.o.drew));exact Z2.o.2;decide;rintro e M ⟨qq,u,bq,rfl,d⟩;obtain rfl:=Q4.o.inj u;clear g;have g:=Hi d;clear u d;obtain⟨P,Q,R,S⟩:=Qak D.o E.o g.o.base
          skip)
        |
         (go_at_call 31
          apply cM;apply RBag.cmpT (w0:=wx);(focus(first|exact g.o|exact g.o.drew));(repeat(first|exact mH|apply mT));decide;exact af.o;rintro e M ⟨rfl,d⟩;clear g;have g:=Hi d;clear d;obtain⟨P,Q,R,S⟩:=Qak D.o E.o g.o.base
          skip)
        |
         (go_at_call 31
          apply cM;apply RBag.cmpT (w0:=wx);(focus(first|exact g.o|exact g.o.drew));(repeat(first|exact mH|apply mT));decide;exact aw.o;rintro e M ⟨rfl,d⟩;clear g;have g:=Hi d;clear d;obtain⟨P,Q,R,S⟩:=Qak D.o E.o g.o.base
          skip)
        )
       all_goals
        go_wp2_with fail;go_meet
        case rel=>exact⟨by simp[ag.o, *],g.o.base⟩
        skip
      .
       obtain⟨af,aw,ag⟩:=Ib T e2 (decide_eq_false (show ¬(px=qx/\py=qy) from fun h=>e2 h.2));clear T e2;go_region_held3 (fun v=>v.cell? ⟨g6,0,none⟩=some (.string p.x)/\v.cell? ⟨g6,1,none⟩=some (.string p.y)/\v.cell? ⟨g7,0,none⟩=some (.string q.x)/\v.cell? ⟨g7,1,none⟩=some (.string q.y)) ((first|(simp [*];done)|go_keep)) (first
        |
         (go_at_call_of 36 (Value.string p.x)
          apply cM;apply RBag.of (w0:=wx) (n:=1048576);(focus(first|exact g.o|exact g.o.drew));exact Z1.o.1;decide;rintro e M ⟨qq,u,bq,rfl,d⟩;obtain rfl:=Q1.o.inj u;clear g;have g:=Hi d;clear u d;obtain⟨P,Q,R,S⟩:=Qak D.o E.o g.o.base
          skip)
        |
         (go_at_call_of 36 (Value.string p.y)
          apply cM;apply RBag.of (w0:=wx) (n:=1048576);(focus(first|exact g.o|exact g.o.drew));exact Z1.o.2;decide;rintro e M ⟨qq,u,bq,rfl,d⟩;obtain rfl:=Q2.o.inj u;clear g;have g:=Hi d;clear u d;obtain⟨P,Q,R,S⟩:=Qak D.o E.o g.o.base
          skip)
        |
         (go_at_call_of 36 (Value.string q.x)
          apply cM;apply RBag.of (w0:=wx) (n:=1048576);(focus(first|exact g.o|exact g.o.drew));exact Z2.o.1;decide;rintro e M ⟨qq,u,bq,rfl,d⟩;obtain rfl:=Q3.o.inj u;clear g;have g:=Hi d;clear u d;obtain⟨P,Q,R,S⟩:=Qak D.o E.o g.o.base
          skip)
        |
         (go_at_call_of 36 (Value.string q.y)
          apply cM;apply RBag.of (w0:=wx) (n:=1048576);(focus(first|exact g.o|exact g.o.drew));exact Z2.o.2;decide;rintro e M ⟨qq,u,bq,rfl,d⟩;obtain rfl:=Q4.o.inj u;clear g;have g:=Hi d;clear u d;obtain⟨P,Q,R,S⟩:=Qak D.o E.o g.o.base
          skip)
        |
         (go_at_call 31
          apply cM;apply RBag.cmpT (w0:=wx);(focus(first|exact g.o|exact g.o.drew));(repeat(first|exact mH|apply mT));decide;exact af.o;rintro e M ⟨rfl,d⟩;clear g;have g:=Hi d;clear d;obtain⟨P,Q,R,S⟩:=Qak D.o E.o g.o.base
          skip)
        |
         (go_at_call 31
          apply cM;apply RBag.cmpF (w0:=wx);(focus(first|exact g.o|exact g.o.drew));(repeat(first|exact mH|apply mT));decide;exact aw.o;rintro e M ⟨⟨cc,rfl,b9⟩,d⟩;clear g;have g:=Hi d;clear d;obtain⟨P,Q,R,S⟩:=Qak D.o E.o g.o.base
          skip)
        )
       all_goals
        go_wp2_with fail;go_meet
        case rel=>exact⟨by simp[ag.o, *],g.o.base⟩
        skip
     .
      obtain⟨af,ag⟩:=Ia T (decide_eq_false (show ¬(px=qx/\py=qy) from fun h=>T h.1));clear T
      first
       |(
        go_region_with (first
         |
          (go_at_call_of 36 (Value.string p.x)
           apply cM;apply RBag.of (w0:=wx) (n:=1048576);(focus(first|exact g.o|exact g.o.drew));exact Z1.o.1;decide;rintro e M ⟨qq,u,bq,rfl,d⟩;obtain rfl:=Q1.o.inj u;clear g;have g:=Hi d;clear u d;obtain⟨P,Q,R,S⟩:=Qak D.o E.o g.o.base
           skip)
         |
          (go_at_call_of 36 (Value.string p.y)
           apply cM;apply RBag.of (w0:=wx) (n:=1048576);(focus(first|exact g.o|exact g.o.drew));exact Z1.o.2;decide;rintro e M ⟨qq,u,bq,rfl,d⟩;obtain rfl:=Q2.o.inj u;clear g;have g:=Hi d;clear u d;obtain⟨P,Q,R,S⟩:=Qak D.o E.o g.o.base
           skip)
         |
          (go_at_call_of 36 (Value.string q.x)
           apply cM;apply RBag.of (w0:=wx) (n:=1048576);(focus(first|exact g.o|exact g.o.drew));exact Z2.o.1;decide;rintro e M ⟨qq,u,bq,rfl,d⟩;obtain rfl:=Q3.o.inj u;clear g;have g:=Hi d;clear u d;obtain⟨P,Q,R,S⟩:=Qak D.o E.o g.o.base
           skip)
         |
          (go_at_call_of 36 (Value.string q.y)
           apply cM;apply RBag.of (w0:=wx) (n:=1048576);(focus(first|exact g.o|exact g.o.drew));exact Z2.o.2;decide;rintro e M ⟨qq,u,bq,rfl,d⟩;obtain rfl:=Q4.o.inj u;clear g;have g:=Hi d;clear u d;obtain⟨P,Q,R,S⟩:=Qak D.o E.o g.o.base
           skip)
         |
          (go_at_call 31
           apply cM;apply RBag.cmpF (w0:=wx);(focus(first|exact g.o|exact g.o.drew));(repeat(first|exact mH|apply mT));decide;exact af.o;rintro e M ⟨⟨cc,rfl,b9⟩,d⟩;clear g;have g:=Hi d;clear d;obtain⟨P,Q,R,S⟩:=Qak D.o E.o g.o.base
           skip)
         ))
       |fail
      all_goals
       go_wp2_with fail;go_meet
       case rel=>exact⟨by simp[ag.o, *],g.o.base⟩
       skip
    case rest=>
     obtain⟨rfl,ax⟩:=hcut;obtain⟨aa,aj⟩:=Ia (av.o.trans (ax.mono av.o.size)) (bf.o.below ax bf.o.lt);clear ax P Q R S;by_cases T:px=qx/\py=qy
     .
      have ab:O (BarCode z f 5):=Hi (bn.o 5 (by rw[if_pos T]));rw[decide_eq_true T];clear T;go_wp2_with fail;go_fit (ref_F 5 (k:Int) wc);rintro e w9 ⟨rfl,G⟩;have H:=Hi (aa.o.trans (G.mono aa.o.size));have r:=Hi (I.o.below H.o I.o.lt);obtain⟨z0,z1,-⟩:=zc r.o;have f0:=r.o.free 0;have f1:=r.o.free 1;clear G;go_wp2;refine bodyPost_ret (v:=.agg #[.int .i64 5,.int .i64 (k:Int)]) (results_cell_row rfl _ _ (w.heap.size+1) 41 #[.int .i64 5,.int .i64 (k:Int)] (0,0) _ rfl ((r.o.set 0 _).set 1 _) underlying41 rfl Tryz.faultInfo) rfl ?_;exact⟨_,_,rfl,Or.inr (Or.inl ⟨Z.o,k,f,ae.o,K.o,ab.o,by decide,rfl⟩),((A.o.trans (H.o.mono A.o.size)).setCell (Nat.le_succ _) _).setCell (Nat.le_succ _) _⟩
     .
      rw[decide_eq_false T];obtain⟨sc,ay⟩:=nm (sgn3 vc.num);obtain⟨sl,az⟩:=nm (sgn3 vl.num);obtain⟨sm,a0⟩:=nm (sgn3 vm.num);have a4:O (∀c,c=(if sc<=0∨0<sl∨sm<0 then 5 else 0)->BarCode z f c):=Hi (fun c hc=>bn.o c (by rw[if_neg T,ay,az,a0];exact hc));obtain⟨SC,SL,SM⟩:=Ib ay az a0;clear ay az a0 T;have B:=Hi (RBag.start ((HG.o.below A.o).below aa.o).most);obtain⟨r4,r5,r6⟩:=Qek aj.o B.o.base;have gg:sc<=0/\O (BarCode z f 5)∨¬sc<=0/\0<sl/\O (BarCode z f 5)∨¬sc<=0/\¬0<sl/\sm<0/\O (BarCode z f 5)∨¬sc<=0/\¬0<sl/\¬sm<0/\O (BarCode z f 0):=by
       have y:sc<=0∨0<sl∨sm<0->O (BarCode z f 5):=fun h=>Hi (a4.o 5 (by rw[if_pos h]))
       by_cases s1:sc<=0
       . exact .inl ⟨s1,y (.inl s1)⟩
       by_cases s2:0<sl
       . exact .inr (.inl ⟨s1,s2,y (.inr (.inl s2))⟩)
       by_cases s3:sm<0
       . exact .inr (.inr (.inl ⟨s1,s2,s3,y (.inr (.inr s3))⟩))
       exact .inr (.inr (.inr ⟨s1,s2,s3,Hi (a4.o 0 (by rw[if_neg (by omega)]))⟩))
      clear a4;rcases gg with ⟨s1,ab⟩|⟨s1,s2,ab⟩|⟨s1,s2,s3,ab⟩|⟨s1,s2,s3,ab⟩
      all_goals
       go_wp2_with (first
        |
         (go_at_call_of 36 (Value.string f.c)
          apply cM;apply RBag.of (w0:=wc) (n:=1048576);(focus(first|exact B.o|exact B.o.drew));exact Z3.o.1;decide;rintro e M ⟨qq,u,bq,rfl,d⟩;obtain rfl:=Q5.o.inj u;clear B;have B:=Hi d;clear u d;obtain⟨r4,r5,r6⟩:=Qek aj.o B.o.base
          skip)
        |
         (go_at_call_of 36 (Value.string f.l)
          apply cM;apply RBag.of (w0:=wc) (n:=1048576);(focus(first|exact B.o|exact B.o.drew));exact Z3.o.2.2.1;decide;rintro e M ⟨qq,u,bq,rfl,d⟩;obtain rfl:=Q6.o.inj u;clear B;have B:=Hi d;clear u d;obtain⟨r4,r5,r6⟩:=Qek aj.o B.o.base
          skip)
        |
         (go_at_call_of 36 (Value.string f.m)
          apply cM;apply RBag.of (w0:=wc) (n:=1048576);(focus(first|exact B.o|exact B.o.drew));exact Z3.o.2.2.2;decide;rintro e M ⟨qq,u,bq,rfl,d⟩;obtain rfl:=Q7.o.inj u;clear B;have B:=Hi d;clear u d;obtain⟨r4,r5,r6⟩:=Qek aj.o B.o.base
          skip)
        |
         (go_at_call 68
          apply cM;apply RBag.sign (w0:=wc);(focus(first|exact B.o|exact B.o.drew));(repeat(first|exact mH|apply mT));rintro e M ⟨rfl,rfl⟩
          (first|rw[SC.o]|rw[SL.o]|rw[SM.o]))
        |fail)
       first
        |(
         have HN:=Hi (aa.o.trans (B.o.base.mono aa.o.size));go_fit (ref_F 5 (k:Int) _);rintro e w9 ⟨rfl,G⟩;have H:=Hi (HN.o.trans (G.mono HN.o.size));have r:=Hi (I.o.below H.o I.o.lt);obtain⟨z0,z1,-⟩:=zc r.o;have f0:=r.o.free 0;have f1:=r.o.free 1;clear G;go_wp2;refine bodyPost_ret (v:=.agg #[.int .i64 5,.int .i64 (k:Int)]) (results_cell_row rfl _ _ (w.heap.size+1) 41 #[.int .i64 5,.int .i64 (k:Int)] (0,0) _ rfl ((r.o.set 0 _).set 1 _) underlying41 rfl Tryz.faultInfo) rfl ?_;exact⟨_,_,rfl,Or.inr (Or.inl ⟨Z.o,k,f,ae.o,K.o,ab.o,by decide,rfl⟩),((A.o.trans (H.o.mono A.o.size)).setCell (Nat.le_succ _) _).setCell (Nat.le_succ _) _⟩
         skip)
        |(
         go_roundw
         case rel=>
          refine⟨k+1,by omega,by go_num,?_,aa.o.trans (B.o.base.mono aa.o.size)⟩;intro i x hi F;rcases Nat.lt_or_ge i k with h|h
          . exact K.o i x h F
          .
           obtain rfl:i=k:=by omega
           obtain rfl:=Option.some.inj (ae.o.symm.trans F);exact ab.o
         case measure=>simp[intOf];omega)
  .
   have ca:k=L.length:=by omega
   subst ca;have F:=N.o.below HB.o N.o.lt;obtain⟨-,-,x2,-⟩:=zc F;clear F;go_wp2_with fail;clear x2;obtain⟨wq,rfl⟩:∃wq,wq=wr:=⟨wr,rfl⟩;go_loopw [122] (fun iv wr=>∃m:Nat,m<=J.length/\iv=.int .i64 m/\(∀(i:Nat) (x:H3),i<m->J[i]?=some x->holdAt z.length J i x=0)/\Below W.heap.size W wr) (fun iv _=>J.length - (intOf iv).toNat)
   case atStart=>exact⟨0,by omega,rfl,fun i x hi=>by omega,HB.o⟩
   case round=>
    obtain⟨m,hm,rfl,bo,hb⟩:=hrel;obtain⟨ah,HC,bp⟩:=Ib bo hb (A.o.trans (hb.mono A.o.size));clear bo hb;by_cases cb:m<J.length
    .
     obtain⟨h,a5⟩:∃h,J[m]?=some h:=⟨J[m],gE cb⟩;obtain⟨fb,b6,br,b7,d0,d1,d2⟩:=(HF.o.h.below bp.o).hold a5;obtain⟨cn,ak⟩:=Ia br a5;have q5:((m:Int)<(J.length:Int)):=by omega
     subst br;obtain⟨V,hV⟩:=nm (wr.alloc (.cells #[.int .i64 h.j,.int .i64 h.w,.string h.q] 86));have C:O (Bl W V):=Hi (by rw[<-hV];exact HC.o.alloc HC.o.size _);have X:=Uc hV;have F:=N.o.below C.o N.o.lt;obtain⟨-,x1,x2,-⟩:=zc F;rw[<-hV] at x1 x2;have HV:=Hi hV;clear a5 hV F;by_cases gg:h.j<0∨(z.length:Int)<=h.j
     .
      have ad:O (holdAt z.length J m h=4):=Hi (by unfold holdAt holdC;rw[if_neg (by omega)]);rcases(show h.j<0∨¬h.j<0/\(z.length:Int)<=h.j by omega) with g1|⟨g1,g2⟩
      all_goals
       clear gg;go_wp2_with fail;rw[HV.o];clear x1 x2 d0 d1 d2;go_fit (ref_F 4 ((L.length:Int)+(m:Int)) V);rintro e w9 ⟨rfl,G⟩;have H:=Hi (C.o.trans (G.mono C.o.size));have r:=Hi (I.o.below H.o I.o.lt);obtain⟨z0,z1,-⟩:=zc r.o;have f0:=r.o.free 0;have f1:=r.o.free 1;clear G;go_wp2;refine bodyPost_ret (v:=.agg #[.int .i64 4,.int .i64 ((L.length:Int)+(m:Int))]) (results_cell_row rfl _ _ (w.heap.size+1) 41 #[.int .i64 4,.int .i64 ((L.length:Int)+(m:Int))] (0,0) _ rfl ((r.o.set 0 _).set 1 _) underlying41 rfl Tryz.faultInfo) rfl ?_
       exact⟨_,_,rfl,Or.inr (Or.inr ⟨Z.o,fun i x F=>K.o i x (gZ F).1 F,Or.inl ⟨m,h,ak.o,ah.o,ad.o,by decide,rfl⟩⟩),((A.o.trans (H.o.mono A.o.size)).setCell (Nat.le_succ _) _).setCell (Nat.le_succ _) _⟩
     obtain⟨g1,g2⟩:¬h.j<0/\¬(z.length:Int)<=h.j:=by omega
     clear gg;have q6:((m:Int)<=(c3:Int)):=by have:=HF.o.h.fit;omega
     by_cases g3:h.w=1∨h.w=2
     .
      have bt:O (∀tw,holdAt z.length J m h=holdC z.length h.j h.w tw->tw=decide ((h.j,h.w)∈ places (J.take m))->holdAt z.length J m h=if tw=true then 7 else 0):=Hi (fun tw e et=>by rw[e];unfold holdC;rw[if_pos (by omega),if_neg (by omega)]);have gg:(h.w != 1)=false∨(h.w != 1)=true/\(h.w != 2)=false:=by
       by_cases g4:h.w=1
       . exact .inl (by rw[bne_eq_false_iff_eq];exact g4)
       . exact .inr ⟨by rw[bne_iff_ne];exact g4,by rw[bne_eq_false_iff_eq];omega⟩
      rcases gg with T|⟨T,e2⟩
      all_goals
       clear g3;go_wp2_with fail;rw[HV.o];clear x1 x2 d0 d1 d2;obtain⟨wv,rfl⟩:∃wv,wv=wr:=⟨wr,rfl⟩;go_loopw [158] (fun iv wr=>∃i:Nat,i<=m/\iv=.int .i64 i/\(∀(t:Nat) (x:H3),t<i->J[t]?=some x->¬(x.j=h.j/\x.w=h.w))/\Below V.heap.size V wr) (fun iv _=>m - (intOf iv).toNat)
       case atStart=>exact⟨0,by omega,rfl,fun t x ht=>by omega,Below.refl _ _⟩
       case round=>
        obtain⟨i,hi,rfl,bu,hb⟩:=hrel;obtain⟨bv,HD,bw⟩:=Ib bu hb (C.o.trans (hb.mono C.o.size));clear bu hb;by_cases cd:i<m
        .
         obtain⟨o,a6⟩:∃o,J[i]?=some o:=⟨J[i],gE (by omega)⟩;obtain⟨cp,ci,bx,cj,d0,d1,d2⟩:=((HF.o.h.below A.o).below bw.o).hold a6;cases bx;have bz:=Hi a6;obtain⟨U,hU⟩:=nm (wr.alloc (.cells #[.int .i64 o.j,.int .i64 o.w,.string o.q] 86));have al:Bl V U:=by rw[<-hU];exact HD.o.alloc HD.o.size _
         obtain⟨b0,b3⟩:=Ia (C.o.trans (al.mono C.o.size)) al;obtain⟨v0,v1,-⟩:=zc (X.o.below al X.o.lt);rw[<-hU] at v0 v1;have HU:=Hi hU;have q7:((i:Int)<(m:Int)):=by omega
         clear a6 hU al;by_cases e3:o.j=h.j/\o.w=h.w
         .
          have b1:(o.j == h.j)=true:=by rw[beq_iff_eq];exact e3.1
          have b2:(o.w == h.w)=true:=by rw[beq_iff_eq];exact e3.2
          have ad:O (holdAt z.length J m h=7):=Hi (by
           have Y:(h.j,h.w)∈ places (J.take m):=by
            rw[<-e3.1,<-e3.2];exact Qtd bz.o cd
           rw[bt.o true (by unfold holdAt;rw[decide_eq_true Y]) (decide_eq_true Y).symm,if_pos rfl])
          clear e3;go_wp2_with fail;rw[HU.o];clear v0 v1 d0 d1 d2;go_fit (ref_F 7 ((L.length:Int)+(m:Int)) U);rintro e w9 ⟨rfl,G⟩;have H:=Hi (b0.o.trans (G.mono b0.o.size));have r:=Hi (I.o.below H.o I.o.lt);obtain⟨z0,z1,-⟩:=zc r.o;have f0:=r.o.free 0;have f1:=r.o.free 1;clear G;go_wp2;refine bodyPost_ret (v:=.agg #[.int .i64 7,.int .i64 ((L.length:Int)+(m:Int))]) (results_cell_row rfl _ _ (w.heap.size+1) 41 #[.int .i64 7,.int .i64 ((L.length:Int)+(m:Int))] (0,0) _ rfl ((r.o.set 0 _).set 1 _) underlying41 rfl Tryz.faultInfo) rfl ?_
          exact⟨_,_,rfl,Or.inr (Or.inr ⟨Z.o,fun i x F=>K.o i x (gZ F).1 F,Or.inl ⟨m,h,ak.o,ah.o,ad.o,by decide,rfl⟩⟩),((A.o.trans (H.o.mono A.o.size)).setCell (Nat.le_succ _) _).setCell (Nat.le_succ _) _⟩
         .
          have ce:=Hi e3;have gg:(o.j == h.j)=false∨(o.j == h.j)=true/\(o.w == h.w)=false:=by
           by_cases e4:o.j=h.j
           . exact .inr ⟨by rw[beq_iff_eq];exact e4,by rw[beq_eq_false_iff_ne];exact fun h=>e3 ⟨e4,h⟩⟩
           . exact .inl (by rw[beq_eq_false_iff_ne];exact e4)
          clear e3;rcases gg with b1|⟨b1,b2⟩
          all_goals
           go_wp2;go_roundw
           case rel=>
            refine⟨i+1,by omega,by go_num,?_,by rw[HU.o];exact b3.o⟩;intro t x ht F;rcases Nat.lt_or_ge t i with h'|h'
            . exact bv.o t x h' F
            .
             obtain rfl:t=i:=by omega
             obtain rfl:=Option.some.inj (bz.o.symm.trans F);exact ce.o
           case measure=>simp[intOf];omega
           skip
        .
         have cf:i=m:=by omega
         subst cf;have ad:O (holdAt z.length J i h=0):=Hi (by
          have Y:(h.j,h.w) ∉ places (J.take i):=Qte bv.o
          rw[bt.o false (by unfold holdAt;rw[decide_eq_false Y]) (decide_eq_false Y).symm,if_neg (by simp)])
         go_wp2;go_roundw
         case rel=>
          refine⟨i+1,by omega,by go_num,?_,bw.o⟩;intro t x ht F;rcases Nat.lt_or_ge t i with h'|h'
          . exact ah.o t x h' F
          .
           obtain rfl:t=i:=by omega
           obtain rfl:=Option.some.inj (ak.o.symm.trans F);exact ad.o
         case measure=>simp[intOf];omega
       skip
     .
      have ad:O (holdAt z.length J m h=3):=Hi (by unfold holdAt holdC;rw[if_pos (by omega),if_pos (by omega)]);have T:(h.w != 1)=true:=by rw[bne_iff_ne];omega
      have e2:(h.w != 2)=true:=by rw[bne_iff_ne];omega
      clear g3;go_wp2_with fail;rw[HV.o];clear x1 x2 d0 d1 d2;go_fit (ref_F 3 ((L.length:Int)+(m:Int)) V);rintro e w9 ⟨rfl,G⟩;have H:=Hi (C.o.trans (G.mono C.o.size));have r:=Hi (I.o.below H.o I.o.lt);obtain⟨z0,z1,-⟩:=zc r.o;have f0:=r.o.free 0;have f1:=r.o.free 1;clear G;go_wp2;refine bodyPost_ret (v:=.agg #[.int .i64 3,.int .i64 ((L.length:Int)+(m:Int))]) (results_cell_row rfl _ _ (w.heap.size+1) 41 #[.int .i64 3,.int .i64 ((L.length:Int)+(m:Int))] (0,0) _ rfl ((r.o.set 0 _).set 1 _) underlying41 rfl Tryz.faultInfo) rfl ?_
      exact⟨_,_,rfl,Or.inr (Or.inr ⟨Z.o,fun i x F=>K.o i x (gZ F).1 F,Or.inl ⟨m,h,ak.o,ah.o,ad.o,by decide,rfl⟩⟩),((A.o.trans (H.o.mono A.o.size)).setCell (Nat.le_succ _) _).setCell (Nat.le_succ _) _⟩
    .
     have cg:m=J.length:=by omega
     subst cg;have r:=Hi (I.o.below HC.o I.o.lt);obtain⟨z0,z1,-⟩:=zc r.o;have f0:=r.o.free 0;have f1:=r.o.free 1;go_wp2;refine bodyPost_ret (v:=.agg #[.int .i64 0,.int .i64 0]) (results_cell_row rfl _ _ (w.heap.size+1) 41 #[.int .i64 0,.int .i64 0] (0,0) _ rfl ((r.o.set 0 _).set 1 _) underlying41 rfl Tryz.faultInfo) rfl ?_;exact⟨0,0,rfl,Or.inr (Or.inr ⟨Z.o,fun i x F=>K.o i x (gZ F).1 F,Or.inr ⟨fun i x F=>ah.o i x (gZ F).1 F,rfl,rfl⟩⟩),(bp.o.setCell (Nat.le_succ _) _).setCell (Nat.le_succ _) _⟩
   skip
theorem Qtg(g h i:Vx)(c1 c2 c3:Nat)(a:List S2)(b:List B6)(d:List H3)(w:Vz)(j:Glob w)(k:FrRow w g h i c1 c2 c3 a b d)(l:FrSized a b d):
 Calls prog 20 #[.agg #[.slice g a.length c1,.slice h b.length c2,.slice i d.length c3]] w fun e n=>∃c f,e=.returned (.agg #[.int .i64 c,.int .i64 f])/\FrameFault a b d c f/\Below w.heap.size w n:=by
 by_cases m:Many a.length b.length d.length
 . exact Qtc g h i c1 c2 c3 a b d w j k l m
 . exact Qtf g h i c1 c2 c3 a b d w j k l m
theorem SB.arow{α:Type}{c:α->List Value}{w:Vz}{g a:Nat}{t:Vr}{C:Vw}{b:List α}(h:SB w g t C)(d:C.toList=b.flatMap c)(hl:b.length<=a):ARow c w (some ⟨g,0,none⟩) a b:=by
 refine⟨hl,⟨fun j u e=>⟨g,0,rfl,h.lt,?_⟩⟩⟩;rw[Nat.zero_add,h.cell j,<-Array.getElem?_toList,d];exact e
abbrev tx0:ByteArray:=⟨#[48]⟩
abbrev tx1:ByteArray:=⟨#[49]⟩
def cornerJ:List S2:=[⟨tx0,tx0⟩,⟨tx1,tx0⟩,⟨tx0,tx1⟩]
def cornerBar(a b:Int):B6:=⟨a,b,tx1,⟨#[]⟩,⟨#[45,49]⟩,⟨#[50]⟩⟩
def cornerB:List B6:=[cornerBar 0 1,cornerBar 1 2,cornerBar 2 0]
def cornerH:List H3:=[⟨0,1,⟨#[]⟩⟩,⟨0,2,⟨#[]⟩⟩,⟨1,2,⟨#[]⟩⟩]
theorem Qvj(a b c:Vx)(c1 c2 c3 n m k:Nat)(w:Vz)(f:m<=24)(hk:k<=20):
 Calls prog 62 #[.agg #[.slice a n c1,.slice b m c2,.slice c k c3]] w fun e d=>e=.returned (.int .i64 ((m:Int)+(k:Int)))/\Below w.heap.size w d:=by
 go_enter func62,ntmps62;go_wp2;go_ret;exact⟨rfl,bR.alloc lZ _⟩
theorem Qcm(a b c:Vx)(c1 c2 c3 n m k:Nat)(w:Vz)(f:n<=10):
 Calls prog 107 #[.agg #[.slice a n c1,.slice b m c2,.slice c k c3]] w fun e d=>e=.returned (.int .i64 (2*(n:Int)))/\Below w.heap.size w d:=by
 go_enter func107,ntmps107;go_wp2;go_ret;exact⟨rfl,bR.alloc lZ _⟩
theorem Qcn(j:Nat)(w:Vz)(b:j<=10):Calls prog 108 #[.int .i64 j] w fun e a=>e=.returned (.int .i64 (2*(j:Int)))/\a=w:=by
 go_enter func108,ntmps108;go_wp2;go_ret;exact⟨rfl,rfl⟩
theorem Qco(j:Nat)(w:Vz)(b:j<=10):Calls prog 109 #[.int .i64 j] w fun e a=>e=.returned (.int .i64 (2*(j:Int)+1))/\a=w:=by
 go_enter func109,ntmps109;go_wp2;go_ret;exact⟨rfl,rfl⟩
theorem Qew(j:Nat)(a:Int)(q:Vs)(w:Vz)(b:j<=10):Calls prog 56 #[.agg #[.int .i64 j,.int .i64 a,.string q]] w fun e d=>e=.returned (.int .i64 (if a=1 then 2*(j:Int) else 2*(j:Int)+1))/\Below w.heap.size w d:=by
 have c:=Hi ((Below.refl w.heap.size w).alloc lZ (.cells #[.int .i64 j,.int .i64 a,.string q] 86));by_cases h:a=1
 .
  subst h;rw[if_pos rfl];go_enter func56,ntmps56;go_wp2_with fail;go_fit (Qcn j _ b);rintro e w1 ⟨rfl,rfl⟩;go_wp2;go_ret;exact⟨rfl,c.o⟩
 .
  rw[if_neg h];have f:(a == 1)=false:=by rw[beq_eq_false_iff_ne];exact h
  clear h;go_enter func56,ntmps56;go_wp2_with fail;go_fit (Qco j _ b);rintro e w1 ⟨rfl,rfl⟩;go_wp2;go_ret;exact⟨rfl,c.o⟩
def FE.cells(t:FE):List Value:=[t.x,t.y,t.z]
structure QRow (w:Vz) (a:Vx) (cap:Nat) (ts:List FE):Prop where
 row:ARow FE.cells w a cap ts
 ts:∀t,t∈ ts->FracV w (.agg #[t.x,t.y,t.z]) t.q/\Fits t.q t.k/\0<t.k
theorem QRow.below{w c:Vz}{a:Vx}{b:Nat}{ts:List FE}(h:QRow w a b ts)(d:Bl w c):QRow c a b ts:=
 ⟨h.row.below d,fun t e=>⟨(h.ts t e).1.below d,(h.ts t e).2⟩⟩
theorem QRow.at{w:Vz}{a:Vx}{d:Nat}{ts:List FE}(h:QRow w a d ts){i:Nat}{e:FE}(g:ts[i]?=some e):
 ∃b c,a=some ⟨b,c,none⟩/\b<w.heap.size/\w.cell? ⟨b,c+i*3,none⟩=some e.x/\w.cell? ⟨b,c+i*3+1,none⟩=some e.y/\w.cell? ⟨b,c+i*3+2,none⟩=some e.z:=by
 obtain⟨b,c,j,k,f⟩:=h.row.at (sz:=3) (fun _=>rfl) (by decide) g;exact⟨b,c,j,k,f 0 _ rfl,f 1 _ rfl,f 2 _ rfl⟩
theorem QRow.get{w:Vz}{a:Vx}{b:Nat}{ts:List FE}(h:QRow w a b ts){i:Nat}{e:FE}(c:ts[i]?=some e):FracV w (.agg #[e.x,e.y,e.z]) e.q/\Fits e.q e.k/\0<e.k:=h.ts e (mO c)
def filledOf(ts:List FE):Nat:=ts.countP fun t=>!decide (t.q=0)
theorem Qui{ts:List FE}{k:Nat}{e:FE}(h:ts[k]?=some e):filledOf (ts.take (k+1))=filledOf (ts.take k)+if e.q=0 then 0 else 1:=by
 unfold filledOf;rw[List.take_add_one,h,List.countP_append];by_cases a:e.q=0<;>simp[a]
theorem Qlf(ts:List FE):filledOf ts<=ts.length:=List.countP_le_length
theorem Quj(a:Vx)(g:Nat)(ts:List FE)(w:Vz)(h:QRow w a g ts)(hl:ts.length<=1000):
 Calls prog 238 #[.slice a ts.length g] w fun e F=>e=.returned (.int .i64 (filledOf ts:Nat))/\Below w.heap.size w F:=by
 have v:=Hi h;clear h;go_enter func238,ntmps238;go_wp2_with fail;go_loopw [3,8] (fun n i wr=>∃k:Nat,k<=ts.length/\i=.int .i64 k/\n=.int .i64 (filledOf (ts.take k):Nat)/\Below w.heap.size w wr) (fun _ i _=>ts.length - (intOf i).toNat)
 case atStart=>exact⟨0,by omega,rfl,rfl,Below.refl _ _⟩
 case round=>
  obtain⟨k,hk,rfl,rfl,A⟩:=hrel;have j:=Hi A;clear A;by_cases s:k<ts.length
  .
   obtain⟨f,r⟩:∃f,ts[k]?=some f:=⟨ts[k],gE s⟩;obtain⟨Q,G,rfl,H,d0,d1,d2⟩:=(v.o.below j.o).at r;obtain⟨t,_,_⟩:=(v.o.below j.o).get r;have b:=Hi (Qui r);have I:filledOf (ts.take k)<=1000:=by
    have R:=Qlf (ts.take k);have S:=List.length_take_le k ts;omega
   obtain⟨B,C,D⟩:=t.one;obtain⟨m,E⟩:=nm (filledOf (ts.take k));rw[E] at I b ⊢;have J:=Hi t;have T:((k:Int)<(ts.length:Int)):=by omega
   obtain⟨V,hV⟩:=nm (wr.alloc (.cells #[f.x,f.y,f.z] 107));have c:=Ua hV;have K:=Hi hV;have L:=Qaa prog B;have M:=Qaa prog C;have N:=Qaa prog D;clear r t E hV B C D;go_wp2_with fail;rw[K.o];go_fit (Qbt (J.o.below c.o));rintro e U ⟨rfl,l⟩;have p:=Hi (j.o.trans ((c.o.trans (l.mono c.o.size)).mono j.o.size));clear l d0 d1 d2 L M N;by_cases d:f.q=0
   .
    rw[decide_eq_true d];rw[if_pos d] at b;clear d;go_wp2;go_roundw
    case rel=>exact⟨k+1,by omega,by go_num,by rw[b.o];rfl,p.o⟩
    case measure=>simp[intOf];omega
   .
    rw[decide_eq_false d];rw[if_neg d] at b;clear d;go_wp2;go_roundw
    case rel=>exact⟨k+1,by omega,by go_num,by rw[b.o];go_num,p.o⟩
    case measure=>simp[intOf];omega
  .
   have u:k=ts.length:=by omega
   subst u;have P:O (filledOf (ts.take ts.length)=filledOf ts):=Hi (by rw[List.take_length]);rw[P.o];go_wp2;go_ret;exact⟨rfl,j.o⟩
structure MR where
 a:Option Addr
 cap:Nat
 ts:List FE
def MR.cells(r:MR):List Value:=[.slice r.a r.ts.length r.cap]
def MR.q(r:MR)(c:Nat):Rat:=(r.ts.map (·.q)).getD c 0
theorem MR.q_at{r:MR}{c:Nat}{e:FE}(h:r.ts[c]?=some e):r.q c=e.q:=by
 unfold MR.q;simp[List.getD,h]
structure QMat (w:Vz) (a:Vx) (cap wide:Nat) (rs:List MR):Prop where
 row:ARow MR.cells w a cap rs
 rs:∀r,r∈ rs->QRow w r.a r.cap r.ts/\r.ts.length=wide
theorem QMat.below{w c:Vz}{a:Vx}{b wide:Nat}{rs:List MR}(h:QMat w a b wide rs)(d:Bl w c):QMat c a b wide rs:=
 ⟨h.row.below d,fun t e=>⟨(h.rs t e).1.below d,(h.rs t e).2⟩⟩
theorem QMat.at{w:Vz}{a:Vx}{d wide:Nat}{rs:List MR}(h:QMat w a d wide rs){i:Nat}{r:MR}(e:rs[i]?=some r):
 ∃b c,a=some ⟨b,c,none⟩/\b<w.heap.size/\w.cell? ⟨b,c+i,none⟩=some (.slice r.a r.ts.length r.cap):=by
 obtain⟨b,c,f,g,j⟩:=h.row.at (sz:=1) (fun _=>rfl) (by decide) e;refine⟨b,c,f,g,?_⟩;have:=j 0 _ rfl;rw[Nat.mul_one] at this;exact this
theorem QMat.get{w:Vz}{a:Vx}{b wide:Nat}{rs:List MR}(h:QMat w a b wide rs){i:Nat}{r:MR}(c:rs[i]?=some r):QRow w r.a r.cap r.ts/\r.ts.length=wide:=h.rs r (mO c)
def Picks(rs:List MR)(c:Nat)(v:Int):Prop:=
 (v= -1/\∀r∈ rs,r.q c=0)∨∃j r,rs[j]?=some r/\v=(j:Nat)/\r.q c≠0
theorem Picks.skip{rs:List MR}{c k:Nat}{v:Int}{r:MR}(h:Picks (rs.take k) c v)(e:rs[k]?=some r)(f:r.q c=0):Picks (rs.take (k+1)) c v:=by
 rw[List.take_add_one,e];rcases h with ⟨b,d⟩|⟨j,s,b,d,g⟩
 .
  refine .inl ⟨b,fun x a=>?_⟩;rcases List.mem_append.1 a with a|a
  . exact d x a
  . obtain rfl:x=r:=by simpa using a
    exact f
 . exact .inr ⟨j,s,by rw[List.getElem?_append_left (gZ b).1];exact b,d,g⟩
theorem Picks.keep{rs:List MR}{c k j:Nat}{r:MR}(h:Picks (rs.take k) c (j:Nat))(d:rs[k]?=some r):Picks (rs.take (k+1)) c (j:Nat):=by
 rw[List.take_add_one,d];rcases h with ⟨a,b⟩|⟨i,s,a,b,e⟩
 . omega
 . exact .inr ⟨i,s,by rw[List.getElem?_append_left (gZ a).1];exact a,b,e⟩
theorem Picks.this{rs:List MR}{c k:Nat}{r:MR}(a:rs[k]?=some r)(b:r.q c≠0):Picks (rs.take (k+1)) c (k:Nat):=
 .inr ⟨k,r,by rw[List.getElem?_take_of_lt (Nat.lt_succ_self k)];exact a,rfl,b⟩
theorem Quk(a:Vx)(x wide c:Nat)(rs:List MR)(w:Vz)(h:QMat w a x wide rs)(hl:rs.length<=1000)(hw:wide<=1000)(P:c<wide):
 Calls prog 205 #[.slice a rs.length x,.int .i64 c] w fun e V=>(∃v,e=.returned (.int .i64 v)/\Picks rs c v)/\Below w.heap.size w V:=by
 have Q:=Hi h;clear h;go_enter func205,ntmps205;go_wp2_with fail;go_loopw [5,6,12] (fun u f i wr=>∃(k m:Nat) (v:Int),k<=rs.length/\i=.int .i64 k/\u=.int .i64 v/\f=.int .i64 m/\m<=1000/\Picks (rs.take k) c v/\Below w.heap.size w wr) (fun _ _ i _=>rs.length - (intOf i).toNat)
 case atStart=>exact⟨0,0,-1,by omega,rfl,rfl,rfl,by omega,.inl ⟨rfl,fun r s=>by simp at s⟩,Below.refl _ _⟩
 case round=>
  obtain⟨k,m,v,hk,rfl,rfl,rfl,R,S,T⟩:=hrel;obtain⟨y,B⟩:=Ia T S;clear T S;by_cases H:k<rs.length
  .
   obtain⟨r,s⟩:∃r,rs[k]?=some r:=⟨rs[k],gE H⟩;obtain⟨fb,W,rfl,X,d⟩:=(Q.o.below y.o).at s;obtain⟨C,I⟩:=(Q.o.below y.o).get s;obtain⟨e,D⟩:∃e,r.ts[c]?=some e:=⟨r.ts[c],gE (by omega)⟩;obtain⟨rb,ro,b,Y,d0,d1,d2⟩:=C.at D;obtain⟨E,_,_⟩:=C.get D;obtain⟨Z,F,U,HV⟩:=Ic C s (MR.q_at D) E;have q1:((k:Int)<(rs.length:Int)):=by omega
   have q2:((c:Int)<(r.ts.length:Int)):=by omega
   rw[b] at d;have J:=Hi b;clear s C D E b;go_wp2_with fail;go_fit (Qbt HV.o);rintro e' w4 ⟨rfl,l⟩;obtain⟨n,K⟩:=Ia (y.o.trans (l.mono y.o.size)) (Z.o.below l);clear l d0 d1 d2 d;by_cases t:e.q=0
   .
    rw[decide_eq_true t];have G:O (r.q c=0):=Hi (U.o.trans t);clear t;go_wp2;go_roundw
    case measure=>simp[intOf];omega
    case rel=>exact⟨k+1,m,v,by omega,by go_num,rfl,rfl,R,B.o.skip F.o G.o,n.o⟩
   .
    rw[decide_eq_false t];have G:O (r.q c≠0):=Hi (fun P=>t (U.o.symm.trans P));have hf:=Qlf r.ts;clear t;go_wp2_with fail;have L:=Hi (Quj r.a r.cap r.ts w4 K.o (by omega));rw[J.o,I] at L;obtain⟨g,z⟩:=nm (filledOf r.ts);rw[z] at L hf;clear z;go_fit L.o;rintro e' w5 ⟨rfl,A⟩;have p:=Hi (n.o.trans (A.mono n.o.size));clear A;have z:g<=1000:=by omega
    by_cases E:v<0
    .
     clear B;go_wp2;go_roundw
     case measure=>simp[intOf];omega
     case rel=>exact⟨k+1,g,k,by omega,by go_num,rfl,rfl,z,Picks.this F.o G.o,p.o⟩
    .
     obtain⟨j,rfl⟩:∃j:Nat,v=j:=⟨v.toNat,by omega⟩;clear E;by_cases aa:(g:Int)<(m:Int)
     .
      go_wp2;go_roundw
      case measure=>simp[intOf];omega
      case rel=>exact⟨k+1,g,k,by omega,by go_num,rfl,rfl,z,Picks.this F.o G.o,p.o⟩
     .
      go_wp2;go_roundw
      case measure=>simp[intOf];omega
      case rel=>exact⟨k+1,m,j,by omega,by go_num,rfl,rfl,R,B.o.keep F.o,p.o⟩
  .
   have M:k=rs.length:=by omega
   subst M;have N:O (Picks rs c v):=Hi (by have:=B.o;rw[List.take_length] at this;exact this);go_wp2;go_ret;exact⟨⟨v,rfl,N.o⟩,y.o⟩
def FE.zero:FE:=⟨.bool false,.slice none 0 0,.slice none 0 0,0,1⟩
structure QBlk (w:Vz) (g:Nat) (ts:List FE):Prop where
 blk:SB w g 107 (ts.flatMap FE.cells).toArray
 ts:∀t,t∈ ts->FracV w (.agg #[t.x,t.y,t.z]) t.q/\Fits t.q t.k/\0<t.k
theorem QBlk.row{w:Vz}{g:Nat}{ts:List FE}(h:QBlk w g ts):QRow w (some ⟨g,0,none⟩) ts.length ts:=⟨h.blk.arow rfl lZ,h.ts⟩
theorem QBlk.below{w a:Vz}{g:Nat}{ts:List FE}(h:QBlk w g ts)(b:Bl w a):QBlk a g ts:=⟨h.blk.below b h.blk.lt,fun t c=>⟨(h.ts t c).1.below b,(h.ts t c).2⟩⟩
theorem QBlk.no64{w:Vz}{g:Nat}{ts:List FE}(h:QBlk w g ts):NoU64 (ts.flatMap FE.cells).toArray:=by
 refine Qhx fun v a n=>?_
 obtain⟨t,b,a⟩:=List.mem_flatMap.1 a;obtain⟨c,d,e⟩:=(h.ts t b).1.no64 n;simp[FE.cells] at a;rcases a with rfl|rfl|rfl
 . exact c
 . exact d
 . exact e
theorem Qlg:∀(ts:List FE) (k:Nat) (e:FE),k<ts.length->(ts.set k e).flatMap FE.cells=(((ts.flatMap FE.cells).set (k*3) e.x).set (k*3+1) e.y).set (k*3+2) e.z
 | [],k,e,h=>by simp at h
 |t :: l,0,e,_=>by simp[FE.cells]
 |t :: l,k+1,e,h=>by
  have a:=Qlg l k e (by simpa using h);rw[List.set_cons_succ,List.flatMap_cons,a,List.flatMap_cons];simp only[FE.cells,List.cons_append,List.nil_append];rw[show (k+1)*3=k*3+1+1+1 by omega];simp only[List.set_cons_succ,Nat.add_assoc]
theorem QBlk.set{w:Vz}{g:Nat}{ts:List FE}(h:QBlk w g ts){k:Nat}{e:FE}(hk:k<ts.length)(b:FracV w (.agg #[e.x,e.y,e.z]) e.q/\Fits e.q e.k/\0<e.k):
 QBlk (((w.setCell ⟨g,k*3,none⟩ e.x).setCell ⟨g,k*3+1,none⟩ e.y).setCell ⟨g,k*3+2,none⟩ e.z) g (ts.set k e):=by
 have c:Only g w (((w.setCell ⟨g,k*3,none⟩ e.x).setCell ⟨g,k*3+1,none⟩ e.y).setCell ⟨g,k*3+2,none⟩ e.z):=(((Only.refl g w).setCell _ _).setCell _ _).setCell _ _;refine⟨?_,fun t a=>?_⟩
 .
  have:=((h.blk.set (k*3) e.x).set (k*3+1) e.y).set (k*3+2) e.z;rw[Qlg ts k e hk]
  simpa using this
 .
  rcases List.mem_or_eq_of_mem_set a with a|rfl
  . exact⟨(h.ts t a).1.only c h.blk h.no64,(h.ts t a).2⟩
  . exact⟨b.1.only c h.blk h.no64,b.2⟩
theorem QBlk.new(w:Vz)(n:Nat)(C:Vw)(hC:C=((List.replicate n FE.zero).flatMap FE.cells).toArray):QBlk (w.alloc (.cells C 107)) w.heap.size (List.replicate n FE.zero):=by
 subst hC;refine⟨SB.new _ _ _,fun t a=>?_⟩;obtain⟨_,rfl⟩:=List.mem_replicate.1 a;exact⟨FracV.zero _,Fits.zero,by decide⟩
theorem Qul(n:Nat):madeCells (Value.cells (.agg #[.bool false,.slice none 0 0,.slice none 0 0])) (n*3)=((List.replicate n FE.zero).flatMap FE.cells).toArray:=by
 apply Array.ext';apply List.ext_getElem?;intro i;by_cases d:i<n*3
 .
  have b:(List.replicate n FE.zero)[i / 3]?=some FE.zero:=by rw[List.getElem?_replicate,if_pos (by omega)]
  have a:i % 3=0∨i % 3=1∨i % 3=2:=by omega
  have e:Value.cells (.agg #[.bool false,.slice none 0 0,.slice none 0 0])=#[.bool false,.slice none 0 0,.slice none 0 0]:=by rfl
  have f:i / 3*3+i % 3=i:=by omega
  have g:(madeCells (Value.cells (.agg #[.bool false,.slice none 0 0,.slice none 0 0])) (n*3)).toList[i]?=some ((#[Value.bool false,.slice none 0 0,.slice none 0 0]:Array Value)[i % 3]!):=by
   rw[e];simp[madeCells,d]
  rw[g];have c:∀u,(FE.cells FE.zero)[i % 3]?=some u->((List.replicate n FE.zero).flatMap FE.cells)[i]?=some u:=fun u h=>by
   have:=Qbr (sz:=3) (fun _=>rfl) _ _ _ _ _ b h;rw[f] at this;exact this
  simp only[List.toList_toArray];rcases a with a|a|a
  all_goals
   rw[a] at c ⊢;exact(c _ rfl).symm
 .
  have b:((List.replicate n FE.zero).flatMap FE.cells).length=n*3:=by rw[Qas (sz:=3) (fun _=>rfl)];simp
  have j:=size_madeCells (Value.cells (.agg #[.bool false,.slice none 0 0,.slice none 0 0])) (n*3);rw[List.getElem?_eq_none (by rw[Array.length_toList,j];omega),List.getElem?_eq_none (by simp only[List.toList_toArray];rw[b];omega)]
theorem Qer:(prog.info? 107).map (fun i=>(i.zero,i.size,i.bytes))=some (some (.agg #[.bool false,.slice none 0 0,.slice none 0 0]),3,56):=by kernel_rfl
theorem Qa4(n:Nat)(e:n<=1048576)(w:Vz):(Instr.makeSlice 98 (.int .i64 n) (.int .i64 n)).run prog w=.ok (.slice (some ⟨w.heap.size,0,none⟩) n n) (w.alloc (.cells ((List.replicate n FE.zero).flatMap FE.cells).toArray 107)):=by
 obtain⟨i,a,h⟩:=Option.map_eq_some_iff.1 Qer;simp only[Prod.mk.injEq] at h;obtain⟨b,c,d⟩:=h;have:=run_make w 98 107 i _ underlying98 a b .i64 .i64 n n (by omega) (by omega) (by rw[d];omega) (by omega);rw[Int.toNat_natCast,c,Qul] at this;exact this
def Made(f:Nat->Rat->Rat)(B:Nat)(ts us:List FE)(k:Nat):Prop:=
 us.length=ts.length/\∀i e,i<k->ts[i]?=some e->∃u,us[i]?=some u/\u.q=f i e.q/\u.k<=B
theorem Made.start(f:Nat->Rat->Rat)(B:Nat)(ts:List FE):Made f B ts (List.replicate ts.length FE.zero) 0:=⟨by simp,fun i e a=>by omega⟩
theorem Made.step{f:Nat->Rat->Rat}{B:Nat}{ts us:List FE}{k:Nat}{e u:FE}(h:Made f B ts us k)(b:ts[k]?=some e)(d:u.q=f k e.q)(hB:u.k<=B):Made f B ts (us.set k u) (k+1):=by
 have hk:=(gZ b).1;refine⟨by rw[List.length_set];exact h.1,fun i x m c=>?_⟩;rcases Nat.lt_or_ge i k with a|g
 . obtain⟨y,j,l⟩:=h.2 i x a c
   exact⟨y,by rw[List.getElem?_set_ne (by omega)];exact j,l⟩
 .
  obtain rfl:i=k:=by omega
  obtain rfl:=Option.some.inj (b.symm.trans c);exact⟨u,by rw[List.getElem?_set_self (by rw[h.1];exact hk)],d,hB⟩
theorem Qum(a:Vx)(D B j:Nat)(ts:List FE)(b1 b2 u:Value)(q:Rat)(w:Vz)(h:QRow w a D ts)(hl:ts.length<=1000)(hv:FracV w (.agg #[b1,b2,u]) q)(hq:Fits q j)(hj:0<j)(hB:∀t∈ ts,t.k+j<=B)(an:B<68719476000):
 Calls prog 207 #[.slice a ts.length D,.agg #[b1,b2,u]] w fun e w'=>(∃g us,e=.returned (.slice (some ⟨g,0,none⟩) ts.length ts.length)/\w.heap.size<=g/\QBlk w' g us/\Made (fun _ x=>x / q) B ts us ts.length)/\Below w.heap.size w w':=by
 obtain⟨R,HV,S,T⟩:=Ic h hv hq hB;have E:=fun w=>Qa4 ts.length (by omega) w
 obtain⟨MC,f⟩:=nm (((List.replicate ts.length FE.zero).flatMap FE.cells).toArray);rw[f] at E;have U:=Hi f.symm;clear h hv hq hB f;go_enter func207,ntmps207;go_wp2_with fail;clear E;obtain⟨g,V⟩:=nm (w.heap.size+1);have l:w.heap.size<g:=by omega
 obtain⟨W,hW⟩:=nm ((w.alloc (.cells #[b1,b2,u] 107)).alloc (.cells MC 107));have X:=Ub hW;have Y:=Ud hW;have Z:O (QBlk W g (List.replicate ts.length FE.zero)):=Hi (by rw[<-hW,<-V];have:=QBlk.new (w.alloc (.cells #[b1,b2,u] 107)) ts.length MC U.o;simpa using this)
 try rw[hW]
 try rw[V]
 clear hW V;go_loopw [12] (fun i wr=>∃(k:Nat) (us:List FE),k<=ts.length/\i=.int .i64 k/\Made (fun _ x=>x / q) B ts us k/\QBlk wr g us/\SB wr w.heap.size 107 #[b1,b2,u]/\Below w.heap.size w wr) (fun i _=>ts.length - (intOf i).toNat)
 case atStart=>exact⟨0,_,by omega,rfl,Made.start _ _ _,Z.o,Y.o,X.o⟩
 case round=>
  obtain⟨k,us,hk,rfl,hm,m,hs,hb⟩:=hrel;obtain⟨A,HM,HQ,HS⟩:=Ic hb hm m hs;have ao:=hm.1;have ap:=m.blk.lt;clear hb hm m hs;by_cases aa:k<ts.length
  .
   obtain⟨e,C⟩:∃e,ts[k]?=some e:=⟨ts[k],gE aa⟩;obtain⟨Q,n,rfl,aq,_⟩:=R.o.at C;obtain⟨ar,al,ab,ad,d0,d1,d2⟩:=(R.o.below A.o).at C;cases ab;have n1:g≠Q:=by omega
   have n2:g≠w.heap.size:=by omega
   obtain⟨hx,F,G⟩:=(R.o.below A.o).get C;have ae:=T.o e (mO C);obtain⟨y0,H⟩:∃y0,us[k]?=some y0:=⟨us[k],gE (by omega)⟩;obtain⟨HE,HX,r,HY⟩:=Ic C hx F (HV.o.below A.o);obtain⟨k0,k1,k2,-⟩:=zc HS.o;have q1:((k:Int)<(ts.length:Int)):=by omega
   obtain⟨af,D0,D1,D2⟩:=Ic H d0 d1 d2;clear C hx F H;go_wp2_with fail;go_region_held3 (fun v=>v.cell? ⟨Q,n+k*3,none⟩=some e.x/\v.cell? ⟨Q,n+k*3+1,none⟩=some e.y/\v.cell? ⟨Q,n+k*3+2,none⟩=some e.z/\v.cell? ⟨w.heap.size,0,none⟩=some b1/\v.cell? ⟨w.heap.size,1,none⟩=some b2/\v.cell? ⟨w.heap.size,2,none⟩=some u) ((first|(simp [*];done)|go_keep)) (first
    |(
     go_at_call_of 66 e.x;apply cM
     first
      |exact Qb8 HX.o HY.o r.o S.o (by omega)
      |exact Qb8 (HX.o.below bR.drew) (HY.o.below bR.drew) r.o S.o (by omega)
     rintro e' w5 ⟨⟨v5,rfl,d⟩,s⟩;obtain⟨I,J,K,c5,L,M,N,rfl,d⟩:=d
     first
      |have b:O (Bl wr w5):=Hi s
      |have b:O (Bl wr w5):=Hi (bR.drew.trans s)
     have ag:O (FracV w5 (.agg #[.bool I,.slice J K c5,.slice L M N]) (e.q / q)):=Hi ⟨I,J,K,c5,L,M,N,rfl,d⟩;clear d s;have c:=Hi (HQ.o.below b.o);obtain⟨v0,v1,v2⟩:=Jb b.o ad D0.o D1.o D2.o;have P:=Hi (HS.o.below b.o HS.o.lt);obtain⟨u0,u1,u2,-⟩:=zc P.o;have f0:=c.o.blk.free (k*3);have f1:=c.o.blk.free (k*3+1);have f2:=c.o.blk.free (k*3+2);obtain⟨gb,am,ah,_,t0,t1,t2⟩:=c.o.row.at af.o;cases ah;simp only[Nat.zero_add] at t0 t1 t2
     skip))
   all_goals
    go_wp2_with fail;obtain⟨HN,ai,aj⟩:=Ib (c.o.set (k:=k) (e:=⟨.bool I,.slice J K c5,.slice L M N,e.q / q,e.k+j⟩) (by omega) ⟨ag.o,r.o.div S.o G hj,Nat.lt_add_right j G⟩) (((P.o.other n2.symm (k*3) (.bool I)).other n2.symm (k*3+1) (.slice J K c5)).other n2.symm (k*3+2) (.slice L M N)) ((((A.o.trans (b.o.mono A.o.size)).setCell (p:=⟨g,k*3,none⟩) (Nat.le_of_lt l) (.bool I)).setCell (p:=⟨g,k*3+1,none⟩) (Nat.le_of_lt l) (.slice J K c5)).setCell (p:=⟨g,k*3+2,none⟩) (Nat.le_of_lt l) (.slice L M N));refine⟨⟨k+1,_,by omega,by go_num,HM.o.step HE.o rfl ae,HN.o,ai.o,aj.o⟩,?_⟩;simp[intOf];omega
  .
   have ak:k=ts.length:=by omega
   subst ak;go_wp2;go_ret;exact⟨⟨g,us,rfl,by omega,HQ.o,HM.o⟩,A.o⟩
def qAt(ss:List FE)(i:Nat):Rat:=(ss.map (·.q)).getD i 0
theorem Qbb{a:List FE}{i:Nat}{e:FE}(h:a[i]?=some e):qAt a i=e.q:=by
 unfold qAt;simp[List.getD,h]
theorem Qes(a a':Vx)(ai cap' B j:Nat)(ts N:List FE)(b1 b2 Q:Value)(q:Rat)(w:Vz)(h:QRow w a ai ts)(h':QRow w a' cap' N)(bd:N.length=ts.length)(hl:ts.length<=1000)(hv:FracV w (.agg #[b1,b2,Q]) q)(hq:Fits q j)(hj:0<j)(hB:∀t∈ ts,∀s∈ N,t.k+s.k+j+1<=B)(be:B<68719476000):
 Calls prog 169 #[.slice a ts.length ai,.slice a' ts.length cap',.agg #[b1,b2,Q]] w fun e w'=>(∃g us,e=.returned (.slice (some ⟨g,0,none⟩) ts.length ts.length)/\w.heap.size<=g/\QBlk w' g us/\Made (fun i x=>x - qAt N i*q) B ts us ts.length)/\Below w.heap.size w w':=by
 obtain⟨HH,HG,HV,R,ar⟩:=Id h h' hv hq hB;have aj:=fun w=>Qa4 ts.length (by omega) w
 obtain⟨MC,S⟩:=nm (((List.replicate ts.length FE.zero).flatMap FE.cells).toArray);rw[S] at aj;have au:=Hi S.symm;clear h h' hv hq hB S;go_enter func169,ntmps169;go_wp2_with fail;clear aj;obtain⟨g,hg⟩:=nm (w.heap.size+1);have m:w.heap.size<g:=by omega
 obtain⟨W,hW⟩:=nm ((w.alloc (.cells #[b1,b2,Q] 107)).alloc (.cells MC 107));have av:=Ub hW;have aw:=Ud hW;have ax:O (QBlk W g (List.replicate ts.length FE.zero)):=Hi (by rw[<-hW,<-hg];have:=QBlk.new (w.alloc (.cells #[b1,b2,Q] 107)) ts.length MC au.o;simpa using this)
 try rw[hW]
 try rw[hg]
 clear hW hg;go_loopw [14] (fun i wr=>∃(k:Nat) (us:List FE),k<=ts.length/\i=.int .i64 k/\Made (fun i x=>x - qAt N i*q) B ts us k/\QBlk wr g us/\SB wr w.heap.size 107 #[b1,b2,Q]/\Below w.heap.size w wr) (fun i _=>ts.length - (intOf i).toNat)
 case atStart=>exact⟨0,_,by omega,rfl,Made.start _ _ _,ax.o,aw.o,av.o⟩
 case round=>
  obtain⟨k,us,hk,rfl,hm,T,P,hb⟩:=hrel;obtain⟨HB,HM,HQ,HS⟩:=Ic hb hm T P;have bf:=hm.1;have bg:=T.blk.lt;clear hb hm T P;by_cases ay:k<ts.length
  .
   obtain⟨e,he⟩:∃e,ts[k]?=some e:=⟨ts[k],gE ay⟩;obtain⟨s,P⟩:∃s,N[k]?=some s:=⟨N[k],gE (by omega)⟩;obtain⟨fb,U,rfl,E,D0,D1,D2⟩:=HH.o.at he;obtain⟨sb,r,rfl,u,E0,E1,E2⟩:=HG.o.at P;obtain⟨hx,V,az⟩:=HH.o.get he;obtain⟨hy,ak,F⟩:=HG.o.get P;have bh:=ar.o e (mO he) s (mO P);obtain⟨y0,al⟩:∃y0,us[k]?=some y0:=⟨us[k],gE (by omega)⟩;have n1:g≠fb:=by omega
   have n2:g≠w.heap.size:=by omega
   have n3:g≠sb:=by omega
   obtain⟨HE,am,HX,G,HY,f,X,Y,Z⟩:=Ih he (Qbb P) hx V hy ak D0 D1 D2;obtain⟨aa,ab,ad⟩:=Ib E0 E1 E2;obtain⟨o1,o2,o3⟩:=hx.one;have a0:=Qaa prog o1;have a1:=Qaa prog o2;have a2:=Qaa prog o3;obtain⟨d0,d1,d2⟩:=Jb HB.o E D0 D1 D2;have q1:((k:Int)<(ts.length:Int)):=by omega
   have f0:=HQ.o.blk.free (k*3);have f1:=HQ.o.blk.free (k*3+1);have f2:=HQ.o.blk.free (k*3+2);obtain⟨gb,an,ae,_,t0,t1,t2⟩:=HQ.o.row.at al;cases ae;simp only[Nat.zero_add] at t0 t1 t2;obtain⟨W1,n⟩:=nm (((wr.setCell ⟨g,k*3,none⟩ e.x).setCell ⟨g,k*3+1,none⟩ e.y).setCell ⟨g,k*3+2,none⟩ e.z);have a3:O (QBlk W1 g (us.set k e)):=Hi (by rw[<-n];exact HQ.o.set (by omega) ⟨hx.below HB.o,V,az⟩);have ao:O (SB W1 w.heap.size 107 #[b1,b2,Q]):=Hi (by rw[<-n];exact((HS.o.other n2.symm _ _).other n2.symm _ _).other n2.symm _ _);have A:O (Bl w W1):=Hi (by rw[<-n];exact((HB.o.setCell (p:=⟨g,k*3,none⟩) (Nat.le_of_lt m) _).setCell (p:=⟨g,k*3+1,none⟩) (Nat.le_of_lt m) _).setCell (p:=⟨g,k*3+2,none⟩) (Nat.le_of_lt m) _);obtain⟨s0,s1⟩:=Ja A.o u E0 E1
   have s2:=ce A.o u E2;rw[<-n] at s0 s1 s2;have a4:=Hi n;clear he P hx V hy ak al n o1 o2 o3 D0 D1 D2 E0 E1 E2;go_wp2_with fail;rw[a4.o];clear s0 s1 s2 d0 d1 d2 f0 f1 f2 t0 t1 t2 a0 a1 a2;go_fit (Qbt (HY.o.below A.o));rintro e' w4 ⟨rfl,H⟩;obtain⟨b,ap,I⟩:=Ib (A.o.trans (H.mono A.o.size)) (a3.o.below H) (ao.o.below H ao.o.lt);clear H;by_cases h0:s.q=0
   .
    rw[decide_eq_true h0];have HZ:O (e.q=e.q - qAt N k*q):=Hi (by rw[am.o,h0,Rat.zero_mul,Rat.sub_eq_add_neg,Rat.neg_zero,Rat.add_zero]);clear h0;go_wp2;go_roundw
    case rel=>exact⟨k+1,_,by omega,by go_num,HM.o.step HE.o HZ.o (by omega),ap.o,I.o,b.o⟩
    case measure=>simp[intOf];omega
   .
    rw[decide_eq_false h0];clear h0;go_wp2_with fail;obtain⟨x0,x1,x2⟩:=Jb b.o E X.o Y.o Z.o;obtain⟨z0,z1,z2⟩:=Jb b.o u aa.o ab.o ad.o;obtain⟨k0,k1,k2,-⟩:=zc I.o;have a7:k<(us.set k e).length:=by rw[List.length_set];omega
    go_region_held3 (fun v=>v.cell? ⟨fb,U+k*3,none⟩=some e.x/\v.cell? ⟨fb,U+k*3+1,none⟩=some e.y/\v.cell? ⟨fb,U+k*3+2,none⟩=some e.z/\v.cell? ⟨sb,r+k*3,none⟩=some s.x/\v.cell? ⟨sb,r+k*3+1,none⟩=some s.y/\v.cell? ⟨sb,r+k*3+2,none⟩=some s.z/\v.cell? ⟨w.heap.size,0,none⟩=some b1/\v.cell? ⟨w.heap.size,1,none⟩=some b2/\v.cell? ⟨w.heap.size,2,none⟩=some Q) ((first|(simp [*];done)|go_keep)) (first
     |(
      go_at_call 65;apply cM
      first
       |exact Qdq (HY.o.below b.o) (HV.o.below b.o) f.o R.o (by omega)
       |exact Qdq (HY.o.below b.o.drew) (HV.o.below b.o.drew) f.o R.o (by omega)
       |exact Qdq (HY.o.below b.o.drew.drew) (HV.o.below b.o.drew.drew) f.o R.o (by omega)
      rintro e5 D ⟨⟨v5,rfl,J⟩,K⟩;obtain⟨n5,a5,l5,c5,m5,o5,p5,rfl,J⟩:=J
      first
       |have c:O (Bl w4 D):=Hi K
       |have c:O (Bl w4 D):=Hi (bR.drew.trans K)
       |have c:O (Bl w4 D):=Hi (bR.drew.drew.trans K)
      have af:O (FracV D (.agg #[.bool n5,.slice a5 l5 c5,.slice m5 o5 p5]) (s.q*q)):=Hi ⟨n5,a5,l5,c5,m5,o5,p5,rfl,J⟩;clear J K;obtain⟨l,a8,ag⟩:=Ib (b.o.trans (c.o.mono b.o.size)) (ap.o.below c.o) (I.o.below c.o I.o.lt);obtain⟨x0,x1,x2⟩:=Jb l.o E X.o Y.o Z.o;obtain⟨z0,z1,z2⟩:=Jb l.o u aa.o ab.o ad.o;obtain⟨k0,k1,k2,-⟩:=zc ag.o
      skip)
     |(
      go_at_call 57;apply cM
      first
       |exact Qa7 (HX.o.below l.o) af.o G.o (f.o.mul R.o F) (by omega)
       |exact Qa7 (HX.o.below l.o.drew) (af.o.below bR.drew) G.o (f.o.mul R.o F) (by omega)
       |exact Qa7 (HX.o.below l.o.drew.drew) (af.o.below bR.drew.drew) G.o (f.o.mul R.o F) (by omega)
      rintro e6 w6 ⟨⟨v6,rfl,L⟩,M⟩;obtain⟨n6,a6,l6,c6,m6,o6,p6,rfl,L⟩:=L
      first
       |have d:O (Bl D w6):=Hi M
       |have d:O (Bl D w6):=Hi (bR.drew.trans M)
       |have d:O (Bl D w6):=Hi (bR.drew.drew.trans M)
      have a9:O (FracV w6 (.agg #[.bool n6,.slice a6 l6 c6,.slice m6 o6 p6]) (e.q - s.q*q)):=Hi ⟨n6,a6,l6,c6,m6,o6,p6,rfl,L⟩;clear L M;obtain⟨ah,C,aq⟩:=Ib (l.o.trans (d.o.mono l.o.size)) (a8.o.below d.o) (ag.o.below d.o ag.o.lt);obtain⟨x0,x1,x2⟩:=Jb ah.o E X.o Y.o Z.o;obtain⟨z0,z1,z2⟩:=Jb ah.o u aa.o ab.o ad.o;obtain⟨k0,k1,k2,-⟩:=zc aq.o
      have f0:=C.o.blk.free (k*3);have f1:=C.o.blk.free (k*3+1);have f2:=C.o.blk.free (k*3+2);obtain⟨gb,an,ae,_,t0,t1,t2⟩:=C.o.row.at (i:=k) (e:=e) (List.getElem?_set_self (by omega));cases ae;simp only[Nat.zero_add] at t0 t1 t2
      skip))
    all_goals
     go_wp2_with fail;obtain⟨HN,ba,bb⟩:=Ib (C.o.set (k:=k) (e:=⟨.bool n6,.slice a6 l6 c6,.slice m6 o6 p6,e.q - s.q*q,e.k+(s.k+j)+1⟩) a7 ⟨a9.o,G.o.sub (f.o.mul R.o F),Nat.succ_pos _⟩) (((aq.o.other n2.symm (k*3) (.bool n6)).other n2.symm (k*3+1) (.slice a6 l6 c6)).other n2.symm (k*3+2) (.slice m6 o6 p6)) (((ah.o.setCell (p:=⟨g,k*3,none⟩) (Nat.le_of_lt m) (.bool n6)).setCell (p:=⟨g,k*3+1,none⟩) (Nat.le_of_lt m) (.slice a6 l6 c6)).setCell (p:=⟨g,k*3+2,none⟩) (Nat.le_of_lt m) (.slice m6 o6 p6));rw[List.set_set] at HN;refine⟨⟨k+1,_,by omega,by go_num,HM.o.step HE.o (by rw[am.o]) (by show e.k+(s.k+j)+1<=B;omega),HN.o,ba.o,bb.o⟩,?_⟩;simp[intOf];omega
  .
   have bc:k=ts.length:=by omega
   subst bc;go_wp2;go_ret;exact⟨⟨g,us,rfl,by omega,HQ.o,HM.o⟩,HB.o⟩
theorem mr_sl(rs:List MR):∀v∈ rs.flatMap MR.cells,∃a n c,v=Value.slice a n c:=by
 intro v b;obtain⟨r,_,b⟩:=List.mem_flatMap.1 b;exact⟨_,_,_,by simpa [MR.cells] using b⟩
theorem Qlh:∀(rs:List MR) (k:Nat) (r:MR),(rs.set k r).flatMap MR.cells=(rs.flatMap MR.cells).set k (.slice r.a r.ts.length r.cap)
 | [],k,r=>by simp
 |t :: l,0,r=>by simp[MR.cells]
 |t :: l,k+1,r=>by
  have b:=Qlh l k r;rw[List.set_cons_succ,List.flatMap_cons,b,List.flatMap_cons];simp[MR.cells]
def MR.none:MR:=⟨.none,0,[]⟩
theorem Qun(n:Nat):madeCells (Value.cells (.slice .none 0 0)) n=((List.replicate n MR.none).flatMap MR.cells).toArray:=by
 have e:Value.cells (.slice .none 0 0)=#[.slice .none 0 0]:=by rfl
 rw[e];apply Array.ext';rw[toList_madeCells_one]
 induction n with
 |zero=>rfl
 |succ n a=>
  simp only[List.toList_toArray] at a ⊢;rw[List.replicate_succ,List.replicate_succ,List.flatMap_cons,<-a];rfl
theorem Qc5:(prog.info? 98).map (fun i=>(i.zero,i.size,i.bytes))=some (some (.slice .none 0 0),1,24):=by kernel_rfl
theorem Qli(n:Nat)(e:n<=1048576)(w:Vz):(Instr.makeSlice 148 (.int .i64 n) (.int .i64 n)).run prog w=.ok (.slice (some ⟨w.heap.size,0,.none⟩) n n) (w.alloc (.cells ((List.replicate n MR.none).flatMap MR.cells).toArray 98)):=by
 obtain⟨i,a,h⟩:=Option.map_eq_some_iff.1 Qc5;simp only[Prod.mk.injEq] at h;obtain⟨b,c,d⟩:=h;have:=run_make w 148 98 i _ underlying148 a b .i64 .i64 n n (by omega) (by omega) (by rw[d];omega) (by omega);rw[Int.toNat_natCast,c,Nat.mul_one,Qun] at this;exact this
end Go.Proofs.YtkkadnoecklepaaGreatDoor
