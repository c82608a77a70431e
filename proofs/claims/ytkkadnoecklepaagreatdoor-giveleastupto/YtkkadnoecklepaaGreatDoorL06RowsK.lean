import Derived.Test.YtkkadnoecklepaaGreatDoorL05MapPair
namespace Go.Proofs.YtkkadnoecklepaaGreatDoor
open Go.RowKit
open Go.Proofs.Tryz
set_option linter.unusedSimpArgs false
set_option linter.unusedVariables false
set_option maxHeartbeats 8000000
set_option maxRecDepth 1000000
def holdC(n:Nat)(j wy:Int)(tw:Bool):Int:=if 0<=j/\j<n then (if wy≠1/\wy≠2 then 3 else if tw=true then 7 else 0) else 4
theorem Qvd(a:Vx)(n d:Nat)(j h:Int)(q:Vs)(m:Bool)(w:Vz):
 Calls prog 166 #[.slice a n d,.agg #[.int .i64 j,.int .i64 h,.string q],.bool m] w fun e w'=>e=.returned (.int .i64 (holdC n j h m))/\Below w.heap.size w w':=by
 unfold holdC;by_cases k:IsJ n j
 .
  rw[if_pos (show 0<=j/\j<(n:Int) from k)];have i:=Hi k;clear k;by_cases p:h=1
  .
   subst p;rw[if_neg (by simp)];cases m with
   |true=>
    rw[if_pos rfl];go_enter func166,ntmps166;obtain⟨W,hW⟩:=nm (w.alloc (.cells #[.int .i64 j,.int .i64 1,.string q] 86));have c:=Ua hW;have b:SB W w.heap.size 86 #[.int .i64 j,.int .i64 1,.string q]:=by rw[<-hW];exact SB.new w _ _
    obtain⟨f,k1,k2,-⟩:=zc b;rw[<-hW] at f k1 k2;have g:=Hi hW;clear hW b;go_wp2_with fail;go_fit (Qbb a n d j _ i.o);rintro e l ⟨rfl,rfl⟩;go_wp2;go_ret;exact⟨rfl,by rw[g.o];exact c.o⟩
   |false=>
    rw[if_neg (by simp)];go_enter func166,ntmps166;obtain⟨W,hW⟩:=nm (w.alloc (.cells #[.int .i64 j,.int .i64 1,.string q] 86));have c:=Ua hW;have b:SB W w.heap.size 86 #[.int .i64 j,.int .i64 1,.string q]:=by rw[<-hW];exact SB.new w _ _
    obtain⟨f,k1,k2,-⟩:=zc b;rw[<-hW] at f k1 k2;have g:=Hi hW;clear hW b;go_wp2_with fail;go_fit (Qbb a n d j _ i.o);rintro e l ⟨rfl,rfl⟩;go_wp2;go_ret;exact⟨rfl,by rw[g.o];exact c.o⟩
  .
   by_cases r:h=2
   .
    subst r;rw[if_neg (by simp)];cases m with
    |true=>
     rw[if_pos rfl];go_enter func166,ntmps166;obtain⟨W,hW⟩:=nm (w.alloc (.cells #[.int .i64 j,.int .i64 2,.string q] 86));have c:=Ua hW;have b:SB W w.heap.size 86 #[.int .i64 j,.int .i64 2,.string q]:=by rw[<-hW];exact SB.new w _ _
     obtain⟨f,k1,k2,-⟩:=zc b;rw[<-hW] at f k1 k2;have g:=Hi hW;clear hW b;go_wp2_with fail;go_fit (Qbb a n d j _ i.o);rintro e l ⟨rfl,rfl⟩;go_wp2;go_ret;exact⟨rfl,by rw[g.o];exact c.o⟩
    |false=>
     rw[if_neg (by simp)];go_enter func166,ntmps166;obtain⟨W,hW⟩:=nm (w.alloc (.cells #[.int .i64 j,.int .i64 2,.string q] 86));have c:=Ua hW;have b:SB W w.heap.size 86 #[.int .i64 j,.int .i64 2,.string q]:=by rw[<-hW];exact SB.new w _ _
     obtain⟨f,k1,k2,-⟩:=zc b;rw[<-hW] at f k1 k2;have g:=Hi hW;clear hW b;go_wp2_with fail;go_fit (Qbb a n d j _ i.o);rintro e l ⟨rfl,rfl⟩;go_wp2;go_ret;exact⟨rfl,by rw[g.o];exact c.o⟩
   .
    rw[if_pos ⟨p,r⟩];have s:(h != 1)=true:=by simpa using p
    have t:(h != 2)=true:=by simpa using r
    clear p r;go_enter func166,ntmps166;obtain⟨W,hW⟩:=nm (w.alloc (.cells #[.int .i64 j,.int .i64 h,.string q] 86));have c:=Ua hW;have b:SB W w.heap.size 86 #[.int .i64 j,.int .i64 h,.string q]:=by rw[<-hW];exact SB.new w _ _
    obtain⟨f,k1,k2,-⟩:=zc b;rw[<-hW] at f k1 k2;have g:=Hi hW;clear hW b;go_wp2_with fail;go_fit (Qbb a n d j _ i.o);rintro e l ⟨rfl,rfl⟩;go_wp2;go_ret;exact⟨rfl,by rw[g.o];exact c.o⟩
 .
  rw[if_neg (show ¬(0<=j/\j<(n:Int)) from k)];have i:=Hi k;clear k;go_enter func166,ntmps166;obtain⟨W,hW⟩:=nm (w.alloc (.cells #[.int .i64 j,.int .i64 h,.string q] 86));have c:=Ua hW;have b:SB W w.heap.size 86 #[.int .i64 j,.int .i64 h,.string q]:=by rw[<-hW];exact SB.new w _ _
  obtain⟨f,k1,k2,-⟩:=zc b;rw[<-hW] at f k1 k2;have g:=Hi hW;clear hW b;go_wp2_with fail;go_fit (Qev a n d j _ i.o);rintro e l ⟨rfl,rfl⟩;go_wp2;go_ret;exact⟨rfl,by rw[g.o];exact c.o⟩
def places(hs:List H3):List (Int × Int):=hs.map fun h=>(h.j,h.w)
def holdAt(n:Nat)(hs:List H3)(k:Nat)(h:H3):Int:=holdC n h.j h.w (decide ((h.j,h.w)∈ places (hs.take k)))
def HoldsFault(n m:Nat)(hs:List H3)(c at_:Int):Prop:=
 (∃k h,hs[k]?=some h/\(∀i x,i<k->hs[i]?=some x->holdAt n hs i x=0)/\holdAt n hs k h=c/\c≠0/\at_=m+k)∨
 ((∀i x,hs[i]?=some x->holdAt n hs i x=0)/\c=0/\at_=0)
theorem PairSet.push{a:Array MapEntry}{c:List (Int × Int)}{p:Int × Int}{b:Nat}(h:PairSet a c):PairSet (a.push { key:=pairV p,val:=.agg #[],born:=b }) (c++ [p]):=by
 unfold PairSet at*;rw[Array.toList_push,List.map_append,h,List.map_append];rfl
theorem Qve{a:List H3}{k:Nat}{h:H3}(hk:a[k]?=some h):places (a.take (k+1))=places (a.take k)++ [(h.j,h.w)]:=by
 unfold places;rw[List.take_add_one,hk];simp
theorem Tryz.faultInfo:(prog.info? 41).map (·.size)=some 2:=by kernel_rfl
theorem Qvf{w:Vz}{r b:Nat}{o:Obj}(h:b≠r):({ w with heap:=w.heap.setIfInBounds r o }:World).heap[b]?=w.heap[b]?:=by
 simp[Array.getElem?_setIfInBounds,h.symm]
theorem Only.map{w:Vz}{r:Nat}(o:Obj):Only r w { w with heap:=w.heap.setIfInBounds r o }:=⟨rfl,rfl,rfl,by simp,fun k hk a=>Qvf a⟩
theorem Qvg{w:Vz}{r:Nat}{o:Obj}(h:r<w.heap.size):({ w with heap:=w.heap.setIfInBounds r o }:World).heap[r]?=some o:=by
 simp[Array.getElem?_setIfInBounds,h]
theorem Qvh(Z a2 a3:Vx)(n c1 m c2 c3:Nat)(g:List H3)(w:Vz)(hh:ARow H3.cells w a3 c3 g)(hl:g.length<=20)(hm:m<=24):
 Calls prog 105 #[.agg #[.slice Z n c1,.slice a2 m c2,.slice a3 g.length c3]] w fun e w'=>∃c at_,e=.returned (.agg #[.int .i64 c,.int .i64 at_])/\HoldsFault n m g c at_/\Below w.heap.size w w':=by
 have HH:=Hi hh;clear hh;go_enter func105,ntmps105;obtain⟨W,hW⟩:=nm (((w.alloc (.cells #[.slice Z n c1,.slice a2 m c2,.slice a3 g.length c3] 26)).alloc (.cells #[.int .i64 0,.int .i64 0] 41)).alloc (.map #[] 0));have A:O (Bl w W):=Hi (by rw[<-hW];exact(Below.new2 w _ _).alloc (by simp<;>omega) _);have B:O (SB W w.heap.size 26 #[.slice Z n c1,.slice a2 m c2,.slice a3 g.length c3]):=Hi (by rw[<-hW];exact((SB.new w _ _).alloc _).alloc _);have aa:O (SB W (w.heap.size+1) 41 #[.int .i64 0,.int .i64 0]):=Hi (by rw[<-hW];exact(SB.new2 w _ _ _ _).alloc _);have ab:O (W.heap[w.heap.size+2]?=some (.map #[] 0)):=Hi (by
  rw[<-hW];have:=(Go.MapKept.heap_alloc ((w.alloc (.cells #[.slice Z n c1,.slice a2 m c2,.slice a3 g.length c3] 26)).alloc (.cells #[.int .i64 0,.int .i64 0] 41)) (.map #[] 0)).1
  simpa using this)
 obtain⟨-,-,k2,-⟩:=zc B.o;rw[<-hW] at k2;have HW:=Hi hW;have K:∀v:Vz,(Instr.makeMap 205 none).run prog v=.ok (.map (some v.heap.size)) (v.alloc (.map #[] 0)):=fun v=>rfl
 clear hW;go_wp2_with fail;rw[HW.o];clear k2 K;obtain⟨r,hr⟩:=nm (w.heap.size+1+1);have aw:w.heap.size+1<r:=by omega
 have an:O (W.heap[r]?=some (.map #[] 0)):=Hi (by rw[<-hr];exact ab.o);rw[hr];clear hr ab;go_loopw [14] (fun iv wr=>∃(k:Nat) (F:Array MapEntry) (a:Nat),k<=g.length/\iv=.int .i64 k/\(∀i x,i<k->g[i]?=some x->holdAt n g i x=0)/\PairSet F (places (g.take k))/\wr.heap[r]?=some (.map F a)/\Only r W wr) (fun iv _=>g.length - (intOf iv).toNat)
 case atStart=>exact⟨0,#[],0,by omega,rfl,fun i x hi=>by omega,rfl,an.o,Only.refl _ _⟩
 case round=>
  obtain⟨k,F,a,hk,rfl,G,ad,s,ho⟩:=hrel;obtain⟨t,L,H,HO,ae⟩:=Id G ad s ho (A.o.trans (ho.below (by omega) A.o.size));have af:r<wr.heap.size:=by
   rcases Nat.lt_or_ge r wr.heap.size with h|h
   . exact h
   . rw[Array.getElem?_eq_none h] at s
     cases s
  clear G ad s ho;by_cases ao:k<g.length
  .
   obtain⟨f,hf⟩:∃f,g[k]?=some f:=⟨g[k],gE ao⟩;obtain⟨fb,ax,rfl,ay,d0,d1,d2⟩:=(HH.o.below ae.o).hold hf;have M:=Hi hf;obtain⟨V,hV⟩:=nm ((wr.alloc (.cells #[.int .i64 f.j,.int .i64 f.w,.string f.q] 86)).alloc (.cells #[.int .i64 f.j,.int .i64 f.w] 206));have u:Bl wr V:=by rw[<-hV];exact Below.new2 wr _ _
   have ag:=(u.block r af).trans H.o;have y:(Instr.lookup 205 (.map (some r)) (.agg #[.int .i64 f.j,.int .i64 f.w]) true).run prog V=.ok (.tuple #[.agg #[],.bool (decide ((f.j,f.w)∈ places (g.take k)))]) V:=Qr9 r a F _ (f.j,f.w) V ag L.o;obtain⟨tw,N⟩:=nm (decide ((f.j,f.w)∈ places (g.take k)));rw[N,<-hV] at y;obtain⟨P,HV,az⟩:=Ib N hV u;have q1:((k:Int)<(g.length:Int)):=by omega
   obtain⟨V3,C⟩:=nm (V.alloc (.cells #[] 207));have Q:Bl wr V3:=by rw[<-C];exact u.alloc u.size _
   have ah:=Hi Q;have z:=(B.o.only HO.o (by omega)).below Q (B.o.only HO.o (by omega)).lt;obtain⟨k0,k1,-⟩:=zc z;rw[<-C,<-hV] at k0 k1;have ai:=Hi C;clear hf N hV u ag C Q z;go_wp2_with fail;rw[HV.o,ai.o];clear k0 k1 y d0 d1 d2;obtain⟨Y,l⟩:=nm (holdC n f.j f.w tw);have aj:=Hi (Qvd Z n c1 f.j f.w f.q tw V3);rw[l] at aj;have R:O (holdAt n g k f=Y):=Hi (by unfold holdAt;rw[P.o];exact l);clear l;go_fit aj.o;rintro e S ⟨rfl,T⟩;obtain⟨U,ak⟩:=Ia (ah.o.trans (T.mono ah.o.size)) T;obtain⟨D,ap⟩:=Ia (HO.o.trans (Only.of_below U.o)) ((U.o.block r af).trans H.o);have z:=B.o.only D.o (by omega);have d:=aa.o.only D.o (by omega)
   obtain⟨-,k1,-⟩:=zc z;obtain⟨z0,z1,-⟩:=zc d;have f0:=d.free 0;have f1:=d.free 1;have X:=Hi d;clear z d T;by_cases l:Y=0
   .
    subst l;have al:tw=false:=by
     cases tw with
     |false=>rfl
     |true=>
      exfalso
      have h:=R.o;unfold holdAt holdC at h;rw[P.o] at h
      split at h
      .
       split at h
       . simp at h
       . simp at h
      . simp at h
    have I:=of_decide_eq_false (P.o.trans al);have am:(Instr.mapUpdate 205 (.map (some r)) (.agg #[.int .i64 f.j,.int .i64 f.w]) (.agg #[])).run prog S=.ok () { S with heap:=S.heap.setIfInBounds r (.map (F.push { key:=.agg #[.int .i64 f.j,.int .i64 f.w],val:=.agg #[],born:=a }) (a+1)) }:=Qsa r a F _ (f.j,f.w) S ap.o L.o I;obtain⟨w5,E⟩:∃w5,({ S with heap:=S.heap.setIfInBounds r (.map (F.push { key:=.agg #[.int .i64 f.j,.int .i64 f.w],val:=.agg #[],born:=a }) (a+1)) }:World)=w5:=⟨_,rfl⟩;have aq:O (Only r W w5):=Hi (by rw[<-E];exact D.o.trans (Only.map _));have ar:O (w5.heap[r]?=some (.map (F.push { key:=.agg #[.int .i64 f.j,.int .i64 f.w],val:=.agg #[],born:=a }) (a+1))):=Hi (by rw[<-E];exact Qvg (by have:=U.o.size;omega));rw[E] at am
    have hv:=(HV.o ▸ SB.new2 wr 86 206 #[.int .i64 f.j,.int .i64 f.w,.string f.q] #[.int .i64 f.j,.int .i64 f.w]:SB V (wr.heap.size+1) 206 #[.int .i64 f.j,.int .i64 f.w]);have J:Bl V S:=by
     have h1:Bl V V3:=by rw[<-ai.o];exact(Below.refl _ _).alloc lZ _
     exact h1.trans (ak.o.mono h1.size)
    obtain⟨p0,p1,-⟩:=zc (hv.below J hv.lt);clear al E I hv J;go_wp2;go_roundw
    case rel=>
     refine⟨k+1,_,_,by omega,by go_num,?_,?_,ar.o,aq.o⟩
     .
      intro i x hi hx;rcases Nat.lt_or_ge i k with h|h
      . exact t.o i x h hx
      .
       obtain rfl:i=k:=by omega
       obtain rfl:=Option.some.inj (M.o.symm.trans hx);exact R.o
     . rw[Qve M.o]
       exact L.o.push (p:=(f.j,f.w)) (b:=a)
    case measure=>simp[intOf];omega
   .
    have e0:(Y != 0)=true:=by simpa using l
    go_wp2;have au:=Hi (A.o.trans (D.o.below (by omega) A.o.size));refine bodyPost_ret (v:=.agg #[.int .i64 Y,.int .i64 ((m:Int)+(k:Int))]) (results_cell_row rfl _ _ (w.heap.size+1) 41 #[.int .i64 Y,.int .i64 ((m:Int)+(k:Int))] (0,0) _ rfl ((X.o.set 0 _).set 1 _) underlying41 rfl Tryz.faultInfo) rfl ?_;exact⟨Y,_,rfl,.inl ⟨k,f,M.o,t.o,R.o,l,rfl⟩,(au.o.setCell (Nat.le_succ _) _).setCell (Nat.le_succ _) _⟩
  .
   have av:k=g.length:=by omega
   subst av;have d:=aa.o.only HO.o (by omega);obtain⟨z0,z1,-⟩:=zc d;have f0:=d.free 0;have f1:=d.free 1;have X:=Hi d;clear d;go_wp2;refine bodyPost_ret (v:=.agg #[.int .i64 0,.int .i64 0]) (results_cell_row rfl _ _ (w.heap.size+1) 41 #[.int .i64 0,.int .i64 0] (0,0) _ rfl ((X.o.set 0 _).set 1 _) underlying41 rfl Tryz.faultInfo) rfl ?_;refine⟨0,0,rfl,.inr ⟨fun i x hx=>t.o i x (gZ hx).1 hx,rfl,rfl⟩,(ae.o.setCell (Nat.le_succ _) _).setCell (Nat.le_succ _) _⟩
theorem Qvi(a:Vx)(f:Nat)(d:List S2)(b:B6)(w:Vz)(L:Glob w)(M:ARow S2.cells w a f d)(D:∀p,p∈ d->p.x.size<=1048576/\p.y.size<=1048576)(u:b.c.size<=1048576/\b.e.size<=1048576/\b.l.size<=1048576/\b.m.size<=1048576):
 Calls prog 104 #[.slice a d.length f,.agg #[.int .i64 b.a,.int .i64 b.b,.string b.c,.string b.e,.string b.l,.string b.m]] w fun e w'=>∃c,e=.returned (.int .i64 c)/\BarCode d b c/\Below w.heap.size w w':=by
 by_cases h:IsJ d.length b.a/\IsJ d.length b.b
 .
  obtain⟨v,g⟩:=Int.eq_ofNat_of_zero_le h.1.1;obtain⟨z,i⟩:=Int.eq_ofNat_of_zero_le h.2.1;have N:v<d.length:=by have:=h.1.2;omega
  have O:z<d.length:=by have:=h.2.2;omega
  obtain⟨p,A⟩:∃p,d[v]?=some p:=⟨_,gE N⟩;obtain⟨q,B⟩:∃q,d[z]?=some q:=⟨_,gE O⟩;obtain⟨E,j⟩:=QOf.ex p.x.data.toList;obtain⟨F,k⟩:=QOf.ex p.y.data.toList;obtain⟨G,n⟩:=QOf.ex q.x.data.toList;obtain⟨H,o⟩:=QOf.ex q.y.data.toList;obtain⟨I,r⟩:=QOf.ex b.c.data.toList;obtain⟨J,s⟩:=QOf.ex b.l.data.toList;obtain⟨K,t⟩:=QOf.ex b.m.data.toList;rw[g,i];refine(Qvc a f v z d p q b.c b.e b.l b.m E F G H I J K w L M A B (D p (mO A)) (D q (mO B)) ⟨u.1,u.2.2.1,u.2.2.2⟩ j k n o r s t).mono ?_;rintro e w' ⟨rfl,C⟩;exact⟨_,rfl,.inr ⟨h.1,h.2,p,q,by rw[g];exact A,by rw[i];exact B,E,F,G,H,I,J,K,j,k,n,o,r,s,t,rfl⟩,C⟩
 .
  refine(Qvb a d.length f b.a b.b b.c b.e b.l b.m w h).mono ?_;rintro e w' ⟨rfl,C⟩;exact⟨_,rfl,.inl ⟨h,rfl⟩,C⟩
def Many(j b h:Nat):Prop:=j<1∨10<j∨24<b∨20<h
def FrameFault(js:List S2)(bs:List B6)(hs:List H3)(c at_:Int):Prop:=
 (Many js.length bs.length hs.length/\c=2/\at_=0)∨
 (¬Many js.length bs.length hs.length/\∃(k:Nat) (b:B6),bs[k]?=some b/\(∀(i:Nat) (x:B6),i<k->bs[i]?=some x->BarCode js x 0)/\BarCode js b c/\c≠0/\at_=(k:Int))∨
 (¬Many js.length bs.length hs.length/\(∀(i:Nat) (x:B6),bs[i]?=some x->BarCode js x 0)/\HoldsFault js.length bs.length hs c at_)
theorem HoldsFault.inj{n m:Nat}{p:List H3}{c d x y:Int}(h:HoldsFault n m p c x)(k:HoldsFault n m p d y):c=d/\x=y:=by
 rcases h with ⟨i,f,l,b,rfl,q,rfl⟩|⟨b,rfl,rfl⟩
 .
  rcases k with ⟨j,g,e,a,rfl,o,rfl⟩|⟨a,_,_⟩
  .
   rcases Nat.lt_trichotomy i j with h|rfl|h
   . exact absurd (a i f h l) q
   .
    rw[l] at e;cases e;exact⟨rfl,rfl⟩
   . exact absurd (b j g h e) o
  . exact absurd (a i f l) q
 .
  rcases k with ⟨j,g,e,a,rfl,o,rfl⟩|⟨a,rfl,rfl⟩
  . exact absurd (b j g e) o
  . exact⟨rfl,rfl⟩
theorem FrameFault.inj{r:List S2}{s:List B6}{t:List H3}{c d x y:Int}(h:FrameFault r s t c x)(k:FrameFault r s t d y):c=d/\x=y:=by
 rcases h with ⟨l,rfl,rfl⟩|⟨l,i,f,o,b,p,u,rfl⟩|⟨l,b,v⟩
 .
  rcases k with ⟨_,rfl,rfl⟩|⟨e,_⟩|⟨e,_⟩
  . exact⟨rfl,rfl⟩
  . exact absurd l e
  . exact absurd l e
 .
  rcases k with ⟨e,_⟩|⟨_,j,g,m,a,n,q,rfl⟩|⟨_,a,_⟩
  . exact absurd e l
  .
   rcases Nat.lt_trichotomy i j with h|rfl|h
   . exact absurd (p.inj (a i f h o)) u
   .
    rw[o] at m;cases m;exact⟨p.inj n,rfl⟩
   . exact absurd (n.inj (b j g h m)) q
  . exact absurd (p.inj (a i f o)) u
 .
  rcases k with ⟨e,_⟩|⟨_,j,g,m,a,n,q,rfl⟩|⟨_,a,w⟩
  . exact absurd e l
  . exact absurd (n.inj (b j g m)) q
  . exact v.inj w
theorem Qew(L P Q:Vx)(c1 c2 c3:Nat)(r:List S2)(s:List B6)(u:List H3)(w:Vz)(I:Glob w)(J:FrRow w L P Q c1 c2 c3 r s u)(K:FrSized r s u):
 Calls prog 50 #[.agg #[.slice L r.length c1,.slice P s.length c2,.slice Q u.length c3]] w fun e w'=>∃c at_,e=.returned (.agg #[.int .i64 c,.int .i64 at_])/\FrameFault r s u c at_/\Below w.heap.size w w':=by
 by_cases h1:r.length<1
 .
  have A:O (Many r.length s.length u.length):=Hi (.inl h1);have q1:((r.length:Int)<1):=by omega
  obtain⟨Z,S,X⟩:=Ib I J K;clear I J K;go_enter func50,ntmps50;obtain⟨W,hW⟩:=nm ((w.alloc (.cells #[.slice L r.length c1,.slice P s.length c2,.slice Q u.length c3] 26)).alloc (.cells #[.int .i64 0,.int .i64 0] 41));have t:=Ub hW;have g:=Ud hW;have d:=Ue hW;have q:O (Bl W W):=Hi bR;have n:=g.o.below q.o g.o.lt;have p:=d.o.below q.o d.o.lt;obtain⟨z,x1,-⟩:=zc n
  obtain⟨-,-,x2,-⟩:=zc n;obtain⟨B,C,-⟩:=zc p;have f0:=p.free 0;have f1:=p.free 1;clear n p;rw[<-hW] at z x1 x2 B C f0 f1;have HW:=Hi hW;clear hW;go_wp2;refine bodyPost_ret (v:=.agg #[.int .i64 2,.int .i64 0]) (results_cell_row rfl _ _ (w.heap.size+1) 41 #[.int .i64 2,.int .i64 0] (0,0) _ rfl (SB.new2 w _ _ _ _) underlying41 rfl Tryz.faultInfo) rfl ?_;exact⟨2,0,rfl,Or.inl ⟨A.o,rfl,rfl⟩,Below.new2 w _ _⟩
 by_cases h2:10<r.length
 .
  have A:O (Many r.length s.length u.length):=Hi (.inr (.inl h2));have q1:¬((r.length:Int)<1):=by omega
  have q2:((10:Int)<(r.length:Int)):=by omega
  obtain⟨Z,S,X⟩:=Ib I J K;clear I J K;go_enter func50,ntmps50;obtain⟨W,hW⟩:=nm ((w.alloc (.cells #[.slice L r.length c1,.slice P s.length c2,.slice Q u.length c3] 26)).alloc (.cells #[.int .i64 0,.int .i64 0] 41));have t:=Ub hW;have g:=Ud hW;have d:=Ue hW;have q:O (Bl W W):=Hi bR;have n:=g.o.below q.o g.o.lt;have p:=d.o.below q.o d.o.lt;obtain⟨z,x1,-⟩:=zc n
  obtain⟨-,-,x2,-⟩:=zc n;obtain⟨B,C,-⟩:=zc p;have f0:=p.free 0;have f1:=p.free 1;clear n p;rw[<-hW] at z x1 x2 B C f0 f1;have HW:=Hi hW;clear hW;go_wp2;refine bodyPost_ret (v:=.agg #[.int .i64 2,.int .i64 0]) (results_cell_row rfl _ _ (w.heap.size+1) 41 #[.int .i64 2,.int .i64 0] (0,0) _ rfl (SB.new2 w _ _ _ _) underlying41 rfl Tryz.faultInfo) rfl ?_;exact⟨2,0,rfl,Or.inl ⟨A.o,rfl,rfl⟩,Below.new2 w _ _⟩
 by_cases h3:24<s.length
 .
  have A:O (Many r.length s.length u.length):=Hi (.inr (.inr (.inl h3)));have q1:¬((r.length:Int)<1):=by omega
  have q2:¬((10:Int)<(r.length:Int)):=by omega
  have q3:((24:Int)<(s.length:Int)):=by omega
  obtain⟨Z,S,X⟩:=Ib I J K;clear I J K;go_enter func50,ntmps50;obtain⟨W,hW⟩:=nm ((w.alloc (.cells #[.slice L r.length c1,.slice P s.length c2,.slice Q u.length c3] 26)).alloc (.cells #[.int .i64 0,.int .i64 0] 41));have t:=Ub hW;have g:=Ud hW;have d:=Ue hW;have q:O (Bl W W):=Hi bR;have n:=g.o.below q.o g.o.lt;have p:=d.o.below q.o d.o.lt;obtain⟨z,x1,-⟩:=zc n
  obtain⟨-,-,x2,-⟩:=zc n;obtain⟨B,C,-⟩:=zc p;have f0:=p.free 0;have f1:=p.free 1;clear n p;rw[<-hW] at z x1 x2 B C f0 f1;have HW:=Hi hW;clear hW;go_wp2;refine bodyPost_ret (v:=.agg #[.int .i64 2,.int .i64 0]) (results_cell_row rfl _ _ (w.heap.size+1) 41 #[.int .i64 2,.int .i64 0] (0,0) _ rfl (SB.new2 w _ _ _ _) underlying41 rfl Tryz.faultInfo) rfl ?_;exact⟨2,0,rfl,Or.inl ⟨A.o,rfl,rfl⟩,Below.new2 w _ _⟩
 by_cases h4:20<u.length
 .
  have A:O (Many r.length s.length u.length):=Hi (.inr (.inr (.inr h4)));have q1:¬((r.length:Int)<1):=by omega
  have q2:¬((10:Int)<(r.length:Int)):=by omega
  have q3:¬((24:Int)<(s.length:Int)):=by omega
  have q4:((20:Int)<(u.length:Int)):=by omega
  obtain⟨Z,S,X⟩:=Ib I J K;clear I J K;go_enter func50,ntmps50;obtain⟨W,hW⟩:=nm ((w.alloc (.cells #[.slice L r.length c1,.slice P s.length c2,.slice Q u.length c3] 26)).alloc (.cells #[.int .i64 0,.int .i64 0] 41));have t:=Ub hW;have g:=Ud hW;have d:=Ue hW;have q:O (Bl W W):=Hi bR;have n:=g.o.below q.o g.o.lt;have p:=d.o.below q.o d.o.lt;obtain⟨z,x1,-⟩:=zc n
  obtain⟨-,-,x2,-⟩:=zc n;obtain⟨B,C,-⟩:=zc p;have f0:=p.free 0;have f1:=p.free 1;clear n p;rw[<-hW] at z x1 x2 B C f0 f1;have HW:=Hi hW;clear hW;go_wp2;refine bodyPost_ret (v:=.agg #[.int .i64 2,.int .i64 0]) (results_cell_row rfl _ _ (w.heap.size+1) 41 #[.int .i64 2,.int .i64 0] (0,0) _ rfl (SB.new2 w _ _ _ _) underlying41 rfl Tryz.faultInfo) rfl ?_;exact⟨2,0,rfl,Or.inl ⟨A.o,rfl,rfl⟩,Below.new2 w _ _⟩
 have aa:O (¬Many r.length s.length u.length):=Hi (by rintro(h|h|h|h)<;>omega);have q1:¬((r.length:Int)<1):=by omega
 have q2:¬((10:Int)<(r.length:Int)):=by omega
 have q3:¬((24:Int)<(s.length:Int)):=by omega
 have q4:¬((20:Int)<(u.length:Int)):=by omega
 obtain⟨Z,S,X⟩:=Ib I J K;clear I J K;go_enter func50,ntmps50;obtain⟨W,hW⟩:=nm ((w.alloc (.cells #[.slice L r.length c1,.slice P s.length c2,.slice Q u.length c3] 26)).alloc (.cells #[.int .i64 0,.int .i64 0] 41));have t:=Ub hW;have g:=Ud hW;have d:=Ue hW;have q:O (Bl W W):=Hi bR;have n:=g.o.below q.o g.o.lt;have p:=d.o.below q.o d.o.lt;obtain⟨z,x1,-⟩:=zc n
 obtain⟨-,-,x2,-⟩:=zc n;obtain⟨B,C,-⟩:=zc p;have f0:=p.free 0;have f1:=p.free 1;clear n p;rw[<-hW] at z x1 x2 B C f0 f1;have HW:=Hi hW;clear hW;go_wp2_with fail;rw[HW.o];clear z x1 x2 B C f0 f1;go_loopw [32] (fun iv wr=>∃k:Nat,k<=s.length/\iv=.int .i64 k/\(∀(i:Nat) (x:B6),i<k->s[i]?=some x->BarCode r x 0)/\Below W.heap.size W wr) (fun iv _=>s.length - (intOf iv).toNat)
 case atStart=>exact⟨0,by omega,rfl,fun i x hi=>by omega,Below.refl _ _⟩
 case round=>
  obtain⟨k,hk,rfl,R,hb⟩:=hrel;obtain⟨E,Y,ab⟩:=Ib R hb (t.o.trans (hb.mono t.o.size));clear R hb;by_cases ad:k<s.length
  .
   obtain⟨f,T⟩:∃f,s[k]?=some f:=⟨s[k],gE ad⟩;obtain⟨fb,af,rfl,ag,d0,d1,d2,d3,d4,d5⟩:=(S.o.b.below ab.o).bar T;have U:=Hi T;have q5:((k:Int)<(s.length:Int)):=by omega
   obtain⟨V,hV⟩:=nm (wr.alloc (.cells #[.int .i64 f.a,.int .i64 f.b,.string f.c,.string f.e,.string f.l,.string f.m] 84));have F:O (Bl W V):=Hi (by rw[<-hV];exact Y.o.alloc Y.o.size _);have n:=g.o.below F.o g.o.lt;obtain⟨z,-⟩:=zc n;rw[<-hV] at z;have HV:=Hi hV;clear T hV n;go_wp2_with fail;rw[HV.o];clear z d0 d1 d2 d3 d4 d5;go_fit (Qvi L c1 r f V ((Z.o.below t.o).below F.o) ((S.o.j.below t.o).below F.o) X.o.j (X.o.b f (mO U.o)));rintro e w1 ⟨M,rfl,G,H⟩;obtain⟨N,y⟩:=Ia G (F.o.trans (H.mono F.o.size));clear G H;by_cases hc:M=0
   .
    subst hc;go_wp2;go_roundw
    case rel=>
     refine⟨k+1,by omega,by go_num,?_,y.o⟩;intro i x hi n;rcases Nat.lt_or_ge i k with h|h
     . exact E.o i x h n
     .
      obtain rfl:i=k:=by omega
      obtain rfl:=Option.some.inj (U.o.symm.trans n);exact N.o
    case measure=>simp[intOf];omega
   .
    have e0:(M != 0)=true:=by simpa using hc
    have D:=Hi (d.o.below y.o d.o.lt);obtain⟨B,C,-⟩:=zc D.o;have f0:=D.o.free 0;have f1:=D.o.free 1;go_wp2;refine bodyPost_ret (v:=.agg #[.int .i64 M,.int .i64 (k:Int)]) (results_cell_row rfl _ _ (w.heap.size+1) 41 #[.int .i64 M,.int .i64 (k:Int)] (0,0) _ rfl ((D.o.set 0 _).set 1 _) underlying41 rfl Tryz.faultInfo) rfl ?_;exact⟨M,_,rfl,Or.inr (Or.inl ⟨aa.o,k,f,U.o,E.o,N.o,hc,rfl⟩),((t.o.trans (y.o.mono t.o.size)).setCell (Nat.le_succ _) _).setCell (Nat.le_succ _) _⟩
  .
   have ae:k=s.length:=by omega
   subst ae;have n:=g.o.below Y.o g.o.lt;have p:=d.o.below Y.o d.o.lt;obtain⟨z,x1,x2,-⟩:=zc n;obtain⟨B,C,-⟩:=zc p;have f0:=p.free 0;have f1:=p.free 1;clear n p;go_wp2_with fail;clear z x1 x2 B C f0 f1;go_fit (Qvh L P Q r.length c1 s.length c2 c3 u wr (S.o.h.below ab.o) (by omega) (by omega));rintro e w1 ⟨M,at_,rfl,G,H⟩;obtain⟨N,y⟩:=Ia G (Y.o.trans (H.mono Y.o.size));clear G H;have n:=g.o.below y.o g.o.lt;have p:=d.o.below y.o d.o.lt
   obtain⟨z,x1,x2,-⟩:=zc n;obtain⟨B,C,-⟩:=zc p;have f0:=p.free 0;have f1:=p.free 1;clear n p;have D:=Hi (d.o.below y.o d.o.lt);go_wp2;refine bodyPost_ret (v:=.agg #[.int .i64 M,.int .i64 at_]) (results_cell_row rfl _ _ (w.heap.size+1) 41 #[.int .i64 M,.int .i64 at_] (0,0) _ rfl ((D.o.set 0 _).set 1 _) underlying41 rfl Tryz.faultInfo) rfl ?_
   exact⟨M,at_,rfl,Or.inr (Or.inr ⟨aa.o,fun i x n=>E.o i x (gZ n).1 n,N.o⟩),((t.o.trans (y.o.mono t.o.size)).setCell (Nat.le_succ _) _).setCell (Nat.le_succ _) _⟩
theorem Qvj(x y z:Vx)(c1 c2 c3:Nat)(l:List S2)(m:List B6)(n:List H3)(w:Vz)(C:Glob w)(D:FrRow w x y z c1 c2 c3 l m n)(E:FrSized l m n):
 Calls prog 93 #[.agg #[.slice x l.length c1,.slice y m.length c2,.slice z n.length c3]] w fun e w'=>∃c at_ k,e=.returned (.tuple #[.int .i64 k,.agg #[.int .i64 c,.int .i64 at_]])/\FrameFault l m n c at_/\(c≠0->k=0)/\(c=0->k=(m.length:Int)+(n.length:Int) - 2*(l.length:Int))/\Below w.heap.size w w':=by
 obtain⟨G,H,I⟩:=Ib C D E;clear C D E;go_enter func93,ntmps93;obtain⟨W,hW⟩:=nm ((w.alloc (.cells #[.slice x l.length c1,.slice y m.length c2,.slice z n.length c3] 26)).alloc (.cells #[.int .i64 0,.int .i64 0] 41));have a:=Ub hW;have r:=Ud hW;have q:=Ue hW;have J:=Hi hW;clear hW;go_wp2_with fail;rw[J.o];go_fit (Qew x y z c1 c2 c3 l m n W (G.o.below a.o) (H.o.below a.o) I.o);rintro e A ⟨c,at_,rfl,s,f⟩;have g:=Hi s;obtain⟨V,t⟩:=nm (A.alloc (.cells #[.int .i64 c,.int .i64 at_] 41))
 have i:O (Bl W V):=Hi (by rw[<-t];exact f.alloc f.size _);have u:SB V A.heap.size 41 #[.int .i64 c,.int .i64 at_]:=by rw[<-t];exact SB.new A _ _
 have d:=q.o.below i.o q.o.lt;obtain⟨K,k1,-⟩:=zc u;obtain⟨L,x1,x2,-⟩:=zc (r.o.below i.o r.o.lt);obtain⟨M,N,-⟩:=zc d;have f0:=d.free 0;have f1:=d.free 1;rw[<-t] at K k1 L x1 x2 M N f0 f1;obtain⟨v,F⟩:=Ia d t;have P:w.heap.size+1≠A.heap.size:=by have:=q.o.lt;have:=f.size;omega
 clear s t u d f;by_cases B:c=0
 .
  subst B;have j:¬Many l.length m.length n.length:=by
   rcases g.o with ⟨_,h,_⟩|⟨h,_⟩|⟨h,_⟩
   . exact absurd h (by decide)
   . exact h
   . exact h
  have n1:=Nat.le_of_not_lt fun h=>j (.inr (.inl h))
  have R:=Nat.le_of_not_lt fun h=>j (.inr (.inr (.inl h)))
  have S:=Nat.le_of_not_lt fun h=>j (.inr (.inr (.inr h)))
  clear j;go_wp2;rw[F.o];have Q:O (at_=0):=Hi (by
   rcases g.o with ⟨_,h,_⟩|⟨_,k,b,_,_,_,h,_⟩|⟨_,_,h⟩
   . exact absurd h (by decide)
   . exact absurd rfl h
   .
    rcases h with ⟨_,_,_,_,_,h,_⟩|⟨_,_,h⟩
    . exact absurd rfl h
    . exact h)
  refine bodyPost_ret (Qdi rfl _ _ (w.heap.size+1) 41 #[.int .i64 0,.int .i64 0] (0,0) _ rfl ((v.o.set 0 _).set 1 _) underlying41 rfl Tryz.faultInfo) rfl ?_;exact⟨0,0,_,rfl,Q.o ▸ g.o,fun h=>absurd rfl h,fun _=>rfl,((a.o.trans (i.o.mono a.o.size)).setCell (Nat.le_succ _) _).setCell (Nat.le_succ _) _⟩
 .
  have T:(c != 0)=true:=by simpa using B
  go_wp2;go_region
  all_goals
   go_wp2;rw[F.o];refine bodyPost_ret (Qdi rfl _ _ (w.heap.size+1) 41 #[.int .i64 c,.int .i64 at_] (0,0) _ rfl ((v.o.set 0 _).set 1 _) underlying41 rfl Tryz.faultInfo) rfl ?_;exact⟨c,at_,0,rfl,g.o,fun _=>rfl,fun h=>absurd h B,(((a.o.trans (i.o.mono a.o.size)).setCell (p:=⟨w.heap.size+1,0,none⟩) (Nat.le_succ _) _).setCell (p:=⟨w.heap.size+1,1,none⟩) (Nat.le_succ _) _).drew⟩
theorem Bag.pair{w:Vz}{bx a j k:Nat}{p q:Rat}(b:RatVal w bx p)(c:RatVal w a q)(d:Fits p j)(e:Fits q k):
 Bag w w [] [.int bx 0 p.num j,.rat bx p.den j,.int a 0 q.num k,.rat a q.den k]:=by
 refine⟨Below.refl _ _,fun n g=>(by cases g),fun t f=>⟨?_,List.not_mem_nil⟩⟩;simp only[List.mem_cons,List.not_mem_nil,or_false] at f;rcases f with rfl|rfl|rfl|rfl
 . exact b.int d
 . exact b.rat d
 . exact c.int e
 . exact c.rat e
theorem Bag.cmp{w0 w:Vz}{Z:Vy}{L:List Thing}{bx d f g j k:Nat}{X Y:Int}(h:Bag w0 w Z L)(n:.int bx d X j∈ L)(o:.int f g Y k∈ L):
 Calls prog 81 #[.pointer (some ⟨bx,d,none⟩),.pointer (some ⟨f,g,none⟩)] w fun e w'=>e=.returned (.int .i64 (cmpZ X Y))/\Bag w0 w' Z L/\w.heap.size<=w'.heap.size:=by
 obtain⟨⟨a,i,l,p,t⟩,q⟩:=h.ts _ n;obtain⟨⟨b,cap',m,r,u⟩,s⟩:=h.ts _ o;refine(Qlg bx d X a i l f g Y b cap' m w p r).mono ?_;rintro e w' ⟨rfl,c⟩;exact⟨rfl,h.below c,c.size⟩
theorem Qlc(X Y:Int):cmpZ X Y=0↔X=Y:=by
 unfold cmpZ;by_cases b:X<Y
 .
  rw[if_pos b];constructor
  . intro h;omega
  . intro h;omega
 .
  rw[if_neg b];by_cases a:X=Y
  . rw[if_pos a];simp[a]
  . rw[if_neg a];simp[a]
theorem Qt9(X Y:Int){d:Int}(c:0<d):cmpZ (X*d) (Y*d)=cmpZ X Y:=by
 unfold cmpZ;by_cases a:X<Y
 . rw[if_pos a,if_pos (Int.mul_lt_mul_of_pos_right a c)]
 .
  have e:¬X*d<Y*d:=fun h=>a (Int.lt_of_mul_lt_mul_right h (Int.le_of_lt c))
  rw[if_neg a,if_neg e];by_cases b:X=Y
  . rw[if_pos b,if_pos (by rw[b])]
  . rw[if_neg b,if_neg (fun h=>b (Int.eq_of_mul_eq_mul_right (by omega) h))]
theorem Qua(bx l j k:Nat)(p q:Rat)(w:Vz)(m:RatVal w bx p)(n:RatVal w l q)(r:Fits p j)(s:Fits q k)(A:j+k<274877906000):
 Calls prog 31 #[.pointer (some ⟨bx,0,none⟩),.pointer (some ⟨l,0,none⟩)] w fun e w'=>e=.returned (.int .i64 (cmpZ (p.num*(q.den:Int)) (q.num*(p.den:Int))))/\Below w.heap.size w w':=by
 have c:=Hi (Bag.pair m n r s);clear m n r s;by_cases d:(p.den:Int)=(q.den:Int)
 .
  obtain⟨f,v⟩:=Ia ((Qlc _ _).2 d) d;clear d;go_enter func31,ntmps31;go_wp2_with (first
   |
    (go_at_call 80
     apply cM;apply Bag.den (w0:=w);(focus(repeat(first|exact c.o|apply Bag.alloc|apply Bag.drew)));(focus(repeat(first|exact mH|apply mT)));rintro e g ⟨t,u,rfl,a,b⟩;clear c;have c:=Hi a;clear a
     (try simp only[Qaj,World.size_alloc] at b))
   |
    (go_at_call 81
     apply cM;apply Bag.cmp (w0:=w);(focus(repeat(first|exact c.o|apply Bag.alloc|apply Bag.drew)));(focus(repeat(first|exact mH|apply mT)));(focus(repeat(first|exact mH|apply mT)));rintro e g ⟨rfl,a,b⟩;rw[f.o];clear c;have c:=Hi a
     clear a)
   |fail)
  go_region_held3 (fun _=>True) (trivial) (first
   |
    (go_at_call 81
     apply cM;apply Bag.cmp (w0:=w);(focus(repeat(first|exact c.o|apply Bag.alloc|apply Bag.drew)));(focus(repeat(first|exact mH|apply mT)));(focus(repeat(first|exact mH|apply mT)));rintro e g ⟨rfl,a,b⟩;clear c;have c:=Hi a;clear a
     (try simp only[Qaj,World.size_alloc] at b))
   )
  go_wp2;go_ret;refine⟨?_,c.o.base⟩;have d:=v.o;rw[d,Qt9 _ _ (show (0:Int)<(q.den:Int) by have:=q.den_nz;omega)];rfl
 .
  obtain⟨x,i⟩:=nm (cmpZ (p.den:Int) (q.den:Int));have y:(x == 0)=false:=by
   rw[beq_eq_false_iff_ne];intro h;exact d ((Qlc _ _).1 (i.trans h))
  have f:=Hi i;clear d i;go_enter func31,ntmps31;go_wp2_with (first
   |
    (go_at_call 80
     apply cM;apply Bag.den (w0:=w);(focus(repeat(first|exact c.o|apply Bag.alloc|apply Bag.drew)));(focus(repeat(first|exact mH|apply mT)));rintro e g ⟨t,u,rfl,a,b⟩;clear c;have c:=Hi a;clear a
     (try simp only[Qaj,World.size_alloc] at b))
   |
    (go_at_call 81
     apply cM;apply Bag.cmp (w0:=w);(focus(repeat(first|exact c.o|apply Bag.alloc|apply Bag.drew)));(focus(repeat(first|exact mH|apply mT)));(focus(repeat(first|exact mH|apply mT)));rintro e g ⟨rfl,a,b⟩;rw[f.o];clear c;have c:=Hi a
     clear a)
   |fail)
  go_region_held3 (fun _=>True) (trivial) (first
   |
    (go_at_call 82
     apply cM;apply Bag.mul (w0:=w);(focus(repeat(first|exact c.o|apply Bag.alloc|apply Bag.drew)));(focus(simp only[mem_less,List.mem_cons,List.not_mem_nil,or_false,Qaj,World.size_alloc,true_or,or_true,true_and,and_true]<;>omega));(focus(repeat(first|exact mH|apply mT)));(focus(repeat(first|exact mH|apply mT)));omega;rintro e g ⟨rfl,a,b,z⟩;clear c;have c:=Hi a;clear a
     (try simp only[Qaj,World.size_alloc] at b))
   |
    (go_at_call 80
     apply cM;apply Bag.den (w0:=w);(focus(repeat(first|exact c.o|apply Bag.alloc|apply Bag.drew)));(focus(repeat(first|exact mH|apply mT)));rintro e g ⟨t,u,rfl,a,b⟩;clear c;have c:=Hi a;clear a
     (try simp only[Qaj,World.size_alloc] at b))
   |
    (go_at_call 81
     apply cM;apply Bag.cmp (w0:=w);(focus(repeat(first|exact c.o|apply Bag.alloc|apply Bag.drew)));(focus(repeat(first|exact mH|apply mT)));(focus(repeat(first|exact mH|apply mT)));rintro e g ⟨rfl,a,b⟩;clear c;have c:=Hi a;clear a
     (try simp only[Qaj,World.size_alloc] at b))
   )
  all_goals
   go_wp2;go_ret;exact⟨rfl,c.o.base⟩
theorem SB.arow{α:Type}{c:α->List Value}{w:Vz}{g a:Nat}{t:Vr}{C:Vw}{b:List α}(h:SB w g t C)(d:C.toList=b.flatMap c)(hl:b.length<=a):ARow c w (some ⟨g,0,none⟩) a b:=by
 refine⟨hl,⟨fun j u e=>⟨g,0,rfl,h.lt,?_⟩⟩⟩;rw[Nat.zero_add,h.cell j,<-Array.getElem?_toList,d];exact e
abbrev tx0:ByteArray:=⟨#[48]⟩
abbrev tx1:ByteArray:=⟨#[49]⟩
def cornerJ:List S2:=[⟨tx0,tx0⟩,⟨tx1,tx0⟩,⟨tx0,tx1⟩]
def cornerBar(a b:Int):B6:=⟨a,b,tx1,⟨#[]⟩,⟨#[45,49]⟩,⟨#[50]⟩⟩
def cornerB:List B6:=[cornerBar 0 1,cornerBar 1 2,cornerBar 2 0]
def cornerH:List H3:=[⟨0,1,⟨#[]⟩⟩,⟨0,2,⟨#[]⟩⟩,⟨1,2,⟨#[]⟩⟩]
theorem Tryz.barInfo:(prog.info? 84).map (·.size)=some 6:=by kernel_rfl
theorem Qfm(a b:Int)(w:Vz):Calls prog 154 #[.int .i64 a,.int .i64 b] w fun e w'=>e=.returned (.agg #[.int .i64 a,.int .i64 b,.string ⟨#[49]⟩,.string ⟨#[]⟩,.string ⟨#[45,49]⟩,.string ⟨#[50]⟩])/\Below w.heap.size w w':=by
 go_enter func154,ntmps154;go_wp2;refine bodyPost_ret (results_cell_row rfl _ _ w.heap.size 84 #[.int .i64 a,.int .i64 b,.string ⟨#[49]⟩,.string ⟨#[]⟩,.string ⟨#[45,49]⟩,.string ⟨#[50]⟩] (0,0) _ rfl (SB.new w _ _) underlying84 rfl Tryz.barInfo) rfl ?_;exact⟨rfl,bR.alloc lZ _⟩
theorem Qfn(w:Vz):Calls prog 94 #[] w fun e w'=>∃h f y,e=.returned (.agg #[.slice (some ⟨h,0,none⟩) 3 3,.slice (some ⟨f,0,none⟩) 3 3,.slice (some ⟨y,0,none⟩) 3 3])/\FrRow w' (some ⟨h,0,none⟩) (some ⟨f,0,none⟩) (some ⟨y,0,none⟩) 3 3 3 cornerJ cornerB cornerH/\Below w.heap.size w w':=by
 go_enter func94,ntmps94;go_wp2_with fail;obtain⟨W,hW⟩:=nm (w.alloc (.cells #[.slice none 0 0,.slice none 0 0,.slice none 0 0] 26));have a:O (PBag w W [fun v=>SB v w.heap.size 26 #[.slice none 0 0,.slice none 0 0,.slice none 0 0]]):=Hi (by rw[<-hW];exact((PBag.start w).below (bR.alloc lZ _)).put (P:=fun v=>SB v w.heap.size 26 #[.slice none 0 0,.slice none 0 0,.slice none 0 0]) (SB.new w _ _) (SB.stay _ _ _));rw[hW];clear hW;go_fit (Qbs ⟨#[48]⟩ ⟨#[48]⟩ W);rintro e A ⟨rfl,d⟩;have c:=Hi (a.o.below d);clear a d;have a:=c;clear c;go_wp2_with fail;go_fit (Qbs ⟨#[49]⟩ ⟨#[48]⟩ A);rintro e B ⟨rfl,d⟩;have c:=Hi (a.o.below d);clear a d;have a:=c;clear c;go_wp2_with fail;go_fit (Qbs ⟨#[48]⟩ ⟨#[49]⟩ B);rintro e r ⟨rfl,d⟩;have c:=Hi (a.o.below d);clear a d;have a:=c;clear c;obtain⟨h,j⟩:=nm r.heap.size
 obtain⟨z,hv3⟩:=nm (r.alloc (.cells #[.string ⟨#[48]⟩,.string ⟨#[48]⟩,.string ⟨#[49]⟩,.string ⟨#[48]⟩,.string ⟨#[48]⟩,.string ⟨#[49]⟩] 34));have c:=Hi ((a.o.below (w':=z) (by rw[<-hv3];exact(Below.refl _ _).alloc lZ _)).put (P:=fun v=>SB v h 34 #[.string ⟨#[48]⟩,.string ⟨#[48]⟩,.string ⟨#[49]⟩,.string ⟨#[48]⟩,.string ⟨#[48]⟩,.string ⟨#[49]⟩]) (by rw[<-hv3,<-j];exact SB.new r _ _) (SB.stay _ _ _));have k:w.heap.size≠h:=by have:=a.o.base.size;have:=(a.o.get (fun v=>SB v w.heap.size 26 #[.slice none 0 0,.slice none 0 0,.slice none 0 0]) (List.Mem.head _)).lt;omega
 clear a;have a:=c;obtain⟨s,t⟩:=Ia hv3 j;clear c hv3 j;go_wp2_with fail;rw[s.o,t.o];go_fit (Qfm 0 1 z);rintro e C ⟨rfl,d⟩;have c:=Hi (a.o.below d);clear a d;have a:=c;clear c;go_wp2_with fail;go_fit (Qfm 1 2 C);rintro e D ⟨rfl,d⟩;have c:=Hi (a.o.below d);clear a d;have a:=c;clear c;go_wp2_with fail;go_fit (Qfm 2 0 D);rintro e n ⟨rfl,d⟩;have c:=Hi (a.o.below d);clear a d;have a:=c;clear c;obtain⟨f,i⟩:=nm n.heap.size
 obtain⟨q,g⟩:=nm ((n.alloc (.cells #[.int .i64 0,.int .i64 1,.string ⟨#[49]⟩,.string ⟨#[]⟩,.string ⟨#[45,49]⟩,.string ⟨#[50]⟩,.int .i64 1,.int .i64 2,.string ⟨#[49]⟩,.string ⟨#[]⟩,.string ⟨#[45,49]⟩,.string ⟨#[50]⟩,.int .i64 2,.int .i64 0,.string ⟨#[49]⟩,.string ⟨#[]⟩,.string ⟨#[45,49]⟩,.string ⟨#[50]⟩] 84)).alloc (.cells #[.int .i64 0,.int .i64 1,.string ⟨#[]⟩,.int .i64 0,.int .i64 2,.string ⟨#[]⟩,.int .i64 1,.int .i64 2,.string ⟨#[]⟩] 86))
 have c:=Hi (((a.o.below (w':=q) (by rw[<-g];exact Below.new2 n _ _)).put (P:=fun v=>SB v f 84 #[.int .i64 0,.int .i64 1,.string ⟨#[49]⟩,.string ⟨#[]⟩,.string ⟨#[45,49]⟩,.string ⟨#[50]⟩,.int .i64 1,.int .i64 2,.string ⟨#[49]⟩,.string ⟨#[]⟩,.string ⟨#[45,49]⟩,.string ⟨#[50]⟩,.int .i64 2,.int .i64 0,.string ⟨#[49]⟩,.string ⟨#[]⟩,.string ⟨#[45,49]⟩,.string ⟨#[50]⟩]) (by rw[<-g,<-i];exact(SB.new n _ _).alloc _) (SB.stay _ _ _)).put (P:=fun v=>SB v (f+1) 86 #[.int .i64 0,.int .i64 1,.string ⟨#[]⟩,.int .i64 0,.int .i64 2,.string ⟨#[]⟩,.int .i64 1,.int .i64 2,.string ⟨#[]⟩]) (by rw[<-g,<-i];exact SB.new2 n _ _ _ _) (SB.stay _ _ _));have b:=a.o.get (fun v=>SB v w.heap.size 26 #[.slice none 0 0,.slice none 0 0,.slice none 0 0]) (by
  (repeat(first|exact mH|apply mT))
  skip)
 have l:w.heap.size≠f:=by have:=b.lt;omega
 have m:w.heap.size≠f+1:=by have:=b.lt;omega
 clear a b;have a:=c;have b:=a.o.get (fun v=>SB v w.heap.size 26 #[.slice none 0 0,.slice none 0 0,.slice none 0 0]) (by
  (repeat(first|exact mH|apply mT))
  skip)
 obtain⟨E,F,G,-⟩:=zc b;have f0:=b.free 0;have f1:=b.free 1;have f2:=b.free 2;rw[<-g] at E F G f0 f1 f2;obtain⟨p,u,x⟩:=Ib b g i;clear c g i b;go_wp2;rw[u.o,x.o];have H:=a.o.get (fun v=>SB v h 34 #[.string ⟨#[48]⟩,.string ⟨#[48]⟩,.string ⟨#[49]⟩,.string ⟨#[48]⟩,.string ⟨#[48]⟩,.string ⟨#[49]⟩]) (by
  (repeat(first|exact mH|apply mT))
  skip)
 have I:=a.o.get (fun v=>SB v f 84 #[.int .i64 0,.int .i64 1,.string ⟨#[49]⟩,.string ⟨#[]⟩,.string ⟨#[45,49]⟩,.string ⟨#[50]⟩,.int .i64 1,.int .i64 2,.string ⟨#[49]⟩,.string ⟨#[]⟩,.string ⟨#[45,49]⟩,.string ⟨#[50]⟩,.int .i64 2,.int .i64 0,.string ⟨#[49]⟩,.string ⟨#[]⟩,.string ⟨#[45,49]⟩,.string ⟨#[50]⟩]) (by
  (repeat(first|exact mH|apply mT))
  skip)
 have J:=a.o.get (fun v=>SB v (f+1) 86 #[.int .i64 0,.int .i64 1,.string ⟨#[]⟩,.int .i64 0,.int .i64 2,.string ⟨#[]⟩,.int .i64 1,.int .i64 2,.string ⟨#[]⟩]) (by
  (repeat(first|exact mH|apply mT))
  skip)
 have K:ARow S2.cells q (some ⟨h,0,none⟩) 3 cornerJ:=H.arow rfl (by decide);have L:ARow B6.cells q (some ⟨f,0,none⟩) 3 cornerB:=I.arow rfl (by decide);have M:ARow H3.cells q (some ⟨f+1,0,none⟩) 3 cornerH:=J.arow rfl (by decide);refine bodyPost_ret (results_cell_row rfl _ _ w.heap.size 26 #[.slice (some ⟨h,0,none⟩) 3 3,.slice (some ⟨f,0,none⟩) 3 3,.slice (some ⟨f+1,0,none⟩) 3 3] (0,0) _ rfl (((p.o.set 0 _).set 1 _).set 2 _) underlying26 rfl Tryz.frameInfo) rfl ?_;exact⟨h,f,f+1,rfl,⟨((K.far k).far k).far k,((L.far l).far l).far l,((M.far m).far m).far m⟩,((a.o.base.setCell lZ _).setCell lZ _).setCell lZ _⟩
theorem Qe1(a b c:Vx)(c1 c2 c3 n m k:Nat)(w:Vz)(d:m<=24)(hk:k<=20):
 Calls prog 62 #[.agg #[.slice a n c1,.slice b m c2,.slice c k c3]] w fun e w'=>e=.returned (.int .i64 ((m:Int)+(k:Int)))/\Below w.heap.size w w':=by
 go_enter func62,ntmps62;go_wp2;go_ret;exact⟨rfl,bR.alloc lZ _⟩
theorem Qb6(a b c:Vx)(c1 c2 c3 n m k:Nat)(w:Vz)(d:n<=10):
 Calls prog 107 #[.agg #[.slice a n c1,.slice b m c2,.slice c k c3]] w fun e w'=>e=.returned (.int .i64 (2*(n:Int)))/\Below w.heap.size w w':=by
 go_enter func107,ntmps107;go_wp2;go_ret;exact⟨rfl,bR.alloc lZ _⟩
theorem Qcu(j:Nat)(w:Vz)(a:j<=10):Calls prog 108 #[.int .i64 j] w fun e w'=>e=.returned (.int .i64 (2*(j:Int)))/\w'=w:=by
 go_enter func108,ntmps108;go_wp2;go_ret;exact⟨rfl,rfl⟩
theorem Qcv(j:Nat)(w:Vz)(a:j<=10):Calls prog 109 #[.int .i64 j] w fun e w'=>e=.returned (.int .i64 (2*(j:Int)+1))/\w'=w:=by
 go_enter func109,ntmps109;go_wp2;go_ret;exact⟨rfl,rfl⟩
theorem Qe2(j:Nat)(a:Int)(q:Vs)(w:Vz)(b:j<=10):Calls prog 56 #[.agg #[.int .i64 j,.int .i64 a,.string q]] w fun e w'=>e=.returned (.int .i64 (if a=1 then 2*(j:Int) else 2*(j:Int)+1))/\Below w.heap.size w w':=by
 have c:=Hi ((Below.refl w.heap.size w).alloc lZ (.cells #[.int .i64 j,.int .i64 a,.string q] 86));by_cases h:a=1
 .
  subst h;rw[if_pos rfl];go_enter func56,ntmps56;go_wp2_with fail;go_fit (Qcu j _ b);rintro e d ⟨rfl,rfl⟩;go_wp2;go_ret;exact⟨rfl,c.o⟩
 .
  rw[if_neg h];have f:(a == 1)=false:=by rw[beq_eq_false_iff_ne];exact h
  clear h;go_enter func56,ntmps56;go_wp2_with fail;go_fit (Qcv j _ b);rintro e d ⟨rfl,rfl⟩;go_wp2;go_ret;exact⟨rfl,c.o⟩
def FE.cells(t:FE):List Value:=[t.x,t.y,t.z]
structure QRow (w:Vz) (a:Vx) (cap:Nat) (ts:List FE):Prop where
 row:ARow FE.cells w a cap ts
 ts:∀t,t∈ ts->FracV w (.agg #[t.x,t.y,t.z]) t.q/\Fits t.q t.k/\0<t.k
theorem QRow.below{w w':Vz}{a:Vx}{b:Nat}{c:List FE}(h:QRow w a b c)(d:Bl w w'):QRow w' a b c:=
 ⟨h.row.below d,fun t e=>⟨(h.ts t e).1.below d,(h.ts t e).2⟩⟩
theorem QRow.at{w:Vz}{a:Vx}{d:Nat}{g:List FE}(h:QRow w a d g){i:Nat}{e:FE}(j:g[i]?=some e):
 ∃b c,a=some ⟨b,c,none⟩/\b<w.heap.size/\w.cell? ⟨b,c+i*3,none⟩=some e.x/\w.cell? ⟨b,c+i*3+1,none⟩=some e.y/\w.cell? ⟨b,c+i*3+2,none⟩=some e.z:=by
 obtain⟨b,c,k,l,f⟩:=h.row.at (sz:=3) (fun _=>rfl) (by decide) j;exact⟨b,c,k,l,f 0 _ rfl,f 1 _ rfl,f 2 _ rfl⟩
theorem QRow.get{w:Vz}{a:Vx}{b:Nat}{c:List FE}(h:QRow w a b c){i:Nat}{e:FE}(d:c[i]?=some e):FracV w (.agg #[e.x,e.y,e.z]) e.q/\Fits e.q e.k/\0<e.k:=h.ts e (mO d)
def filledOf(ts:List FE):Nat:=ts.countP fun t=>!decide (t.q=0)
theorem Qv3{a:List FE}{k:Nat}{e:FE}(h:a[k]?=some e):filledOf (a.take (k+1))=filledOf (a.take k)+if e.q=0 then 0 else 1:=by
 unfold filledOf;rw[List.take_add_one,h,List.countP_append];by_cases b:e.q=0<;>simp[b]
theorem Qma(a:List FE):filledOf a<=a.length:=List.countP_le_length
theorem Qv4(a:Vx)(j:Nat)(b:List FE)(w:Vz)(h:QRow w a j b)(hl:b.length<=1000):
 Calls prog 238 #[.slice a b.length j] w fun e w'=>e=.returned (.int .i64 (filledOf b:Nat))/\Below w.heap.size w w':=by
 have B:=Hi h;clear h;go_enter func238,ntmps238;go_wp2_with fail;go_loopw [3,8] (fun n i wr=>∃k:Nat,k<=b.length/\i=.int .i64 k/\n=.int .i64 (filledOf (b.take k):Nat)/\Below w.heap.size w wr) (fun _ i _=>b.length - (intOf i).toNat)
 case atStart=>exact⟨0,by omega,rfl,rfl,Below.refl _ _⟩
 case round=>
  obtain⟨k,hk,rfl,rfl,C⟩:=hrel;have l:=Hi C;clear C;by_cases t:k<b.length
  .
   obtain⟨f,s⟩:∃f,b[k]?=some f:=⟨b[k],gE t⟩;obtain⟨R,H,rfl,I,d0,d1,d2⟩:=(B.o.below l.o).at s;obtain⟨u,_,_⟩:=(B.o.below l.o).get s;have c:=Hi (Qv3 s);have J:filledOf (b.take k)<=1000:=by
    have S:=Qma (b.take k);have T:=List.length_take_le k b;omega
   obtain⟨D,E,F⟩:=u.one;obtain⟨m,G⟩:=nm (filledOf (b.take k));rw[G] at J c ⊢;have K:=Hi u;have U:((k:Int)<(b.length:Int)):=by omega
   obtain⟨V,v⟩:=nm (wr.alloc (.cells #[f.x,f.y,f.z] 107));have d:=Ua v;have L:=Hi v;have M:=Qaa prog D;have N:=Qaa prog E;have P:=Qaa prog F;clear s u G v D E F;go_wp2_with fail;rw[L.o];go_fit (Qbz (K.o.below d.o));rintro e W ⟨rfl,p⟩;have r:=Hi (l.o.trans ((d.o.trans (p.mono d.o.size)).mono l.o.size));clear p d0 d1 d2 M N P;by_cases g:f.q=0
   .
    rw[decide_eq_true g];rw[if_pos g] at c;clear g;go_wp2;go_roundw
    case rel=>exact⟨k+1,by omega,by go_num,by rw[c.o];rfl,r.o⟩
    case measure=>simp[intOf];omega
   .
    rw[decide_eq_false g];rw[if_neg g] at c;clear g;go_wp2;go_roundw
    case rel=>exact⟨k+1,by omega,by go_num,by rw[c.o];go_num,r.o⟩
    case measure=>simp[intOf];omega
  .
   have A:k=b.length:=by omega
   subst A;have Q:O (filledOf (b.take b.length)=filledOf b):=Hi (by rw[List.take_length]);rw[Q.o];go_wp2;go_ret;exact⟨rfl,l.o⟩
structure MR where
 a:Option Addr
 cap:Nat
 ts:List FE
def MR.cells(r:MR):List Value:=[.slice r.a r.ts.length r.cap]
def MR.q(r:MR)(c:Nat):Rat:=(r.ts.map (·.q)).getD c 0
theorem MR.q_at{r:MR}{c:Nat}{e:FE}(h:r.ts[c]?=some e):r.q c=e.q:=by
 unfold MR.q;simp[List.getD,h]
structure QMat (w:Vz) (a:Vx) (cap wide:Nat) (rs:List MR):Prop where
 row:ARow MR.cells w a cap rs
 rs:∀r,r∈ rs->QRow w r.a r.cap r.ts/\r.ts.length=wide
theorem QMat.below{w w':Vz}{a:Vx}{b wide:Nat}{rs:List MR}(h:QMat w a b wide rs)(c:Bl w w'):QMat w' a b wide rs:=
 ⟨h.row.below c,fun t d=>⟨(h.rs t d).1.below c,(h.rs t d).2⟩⟩
theorem QMat.at{w:Vz}{a:Vx}{d wide:Nat}{rs:List MR}(h:QMat w a d wide rs){i:Nat}{r:MR}(e:rs[i]?=some r):
 ∃b c,a=some ⟨b,c,none⟩/\b<w.heap.size/\w.cell? ⟨b,c+i,none⟩=some (.slice r.a r.ts.length r.cap):=by
 obtain⟨b,c,f,g,j⟩:=h.row.at (sz:=1) (fun _=>rfl) (by decide) e;refine⟨b,c,f,g,?_⟩;have:=j 0 _ rfl;rw[Nat.mul_one] at this;exact this
theorem QMat.get{w:Vz}{a:Vx}{b wide:Nat}{rs:List MR}(h:QMat w a b wide rs){i:Nat}{r:MR}(c:rs[i]?=some r):QRow w r.a r.cap r.ts/\r.ts.length=wide:=h.rs r (mO c)
def Picks(rs:List MR)(c:Nat)(v:Int):Prop:=
 (v= -1/\∀r∈ rs,r.q c=0)∨∃j r,rs[j]?=some r/\v=(j:Nat)/\r.q c≠0
theorem Picks.skip{rs:List MR}{c k:Nat}{v:Int}{r:MR}(h:Picks (rs.take k) c v)(e:rs[k]?=some r)(f:r.q c=0):Picks (rs.take (k+1)) c v:=by
 rw[List.take_add_one,e];rcases h with ⟨b,d⟩|⟨j,s,b,d,g⟩
 .
  refine .inl ⟨b,fun x a=>?_⟩;rcases List.mem_append.1 a with a|a
  . exact d x a
  . obtain rfl:x=r:=by simpa using a
    exact f
 . exact .inr ⟨j,s,by rw[List.getElem?_append_left (gZ b).1];exact b,d,g⟩
theorem Picks.keep{rs:List MR}{c k j:Nat}{r:MR}(h:Picks (rs.take k) c (j:Nat))(d:rs[k]?=some r):Picks (rs.take (k+1)) c (j:Nat):=by
 rw[List.take_add_one,d];rcases h with ⟨a,b⟩|⟨i,s,a,b,e⟩
 . omega
 . exact .inr ⟨i,s,by rw[List.getElem?_append_left (gZ a).1];exact a,b,e⟩
theorem Picks.this{rs:List MR}{c k:Nat}{r:MR}(a:rs[k]?=some r)(b:r.q c≠0):Picks (rs.take (k+1)) c (k:Nat):=
 .inr ⟨k,r,by rw[List.getElem?_take_of_lt (Nat.lt_succ_self k)];exact a,rfl,b⟩
theorem Qv5(a:Vx)(x wide c:Nat)(rs:List MR)(w:Vz)(h:QMat w a x wide rs)(hl:rs.length<=1000)(hw:wide<=1000)(P:c<wide):
 Calls prog 205 #[.slice a rs.length x,.int .i64 c] w fun e w'=>(∃v,e=.returned (.int .i64 v)/\Picks rs c v)/\Below w.heap.size w w':=by
 have Q:=Hi h;clear h;go_enter func205,ntmps205;go_wp2_with fail;go_loopw [5,6,12] (fun u f i wr=>∃(k m:Nat) (v:Int),k<=rs.length/\i=.int .i64 k/\u=.int .i64 v/\f=.int .i64 m/\m<=1000/\Picks (rs.take k) c v/\Below w.heap.size w wr) (fun _ _ i _=>rs.length - (intOf i).toNat)
 case atStart=>exact⟨0,0,-1,by omega,rfl,rfl,rfl,by omega,.inl ⟨rfl,fun r s=>by simp at s⟩,Below.refl _ _⟩
 case round=>
  obtain⟨k,m,v,hk,rfl,rfl,rfl,R,S,T⟩:=hrel;obtain⟨y,B⟩:=Ia T S;clear T S;by_cases H:k<rs.length
  .
   obtain⟨r,s⟩:∃r,rs[k]?=some r:=⟨rs[k],gE H⟩;obtain⟨fb,V,rfl,W,d⟩:=(Q.o.below y.o).at s;obtain⟨C,I⟩:=(Q.o.below y.o).get s;obtain⟨e,D⟩:∃e,r.ts[c]?=some e:=⟨r.ts[c],gE (by omega)⟩;obtain⟨rb,ro,b,X,d0,d1,d2⟩:=C.at D;obtain⟨E,_,_⟩:=C.get D;obtain⟨Y,F,U,Z⟩:=Ic C s (MR.q_at D) E;have q1:((k:Int)<(rs.length:Int)):=by omega
   have q2:((c:Int)<(r.ts.length:Int)):=by omega
   rw[b] at d;have J:=Hi b;clear s C D E b;go_wp2_with fail;go_fit (Qbz Z.o);rintro e' w4 ⟨rfl,l⟩;obtain⟨n,K⟩:=Ia (y.o.trans (l.mono y.o.size)) (Y.o.below l);clear l d0 d1 d2 d;by_cases t:e.q=0
   .
    rw[decide_eq_true t];have G:=Hi (U.o.trans t);clear t;go_wp2;go_roundw
    case measure=>simp[intOf];omega
    case rel=>exact⟨k+1,m,v,by omega,by go_num,rfl,rfl,R,B.o.skip F.o G.o,n.o⟩
   .
    rw[decide_eq_false t];have G:O (r.q c≠0):=Hi (fun P=>t (U.o.symm.trans P));have hf:=Qma r.ts;clear t;go_wp2_with fail;have L:=Hi (Qv4 r.a r.cap r.ts w4 K.o (by omega));rw[J.o,I] at L;obtain⟨g,z⟩:=nm (filledOf r.ts);rw[z] at L hf;clear z;go_fit L.o;rintro e' w5 ⟨rfl,A⟩;have p:=Hi (n.o.trans (A.mono n.o.size));clear A;have z:g<=1000:=by omega
    by_cases E:v<0
    .
     clear B;go_wp2;go_roundw
     case measure=>simp[intOf];omega
     case rel=>exact⟨k+1,g,k,by omega,by go_num,rfl,rfl,z,Picks.this F.o G.o,p.o⟩
    .
     obtain⟨j,rfl⟩:∃j:Nat,v=j:=⟨v.toNat,by omega⟩;clear E;by_cases aa:(g:Int)<(m:Int)
     .
      go_wp2;go_roundw
      case measure=>simp[intOf];omega
      case rel=>exact⟨k+1,g,k,by omega,by go_num,rfl,rfl,z,Picks.this F.o G.o,p.o⟩
     .
      go_wp2;go_roundw
      case measure=>simp[intOf];omega
      case rel=>exact⟨k+1,m,j,by omega,by go_num,rfl,rfl,R,B.o.keep F.o,p.o⟩
  .
   have M:k=rs.length:=by omega
   subst M;have N:=Hi (by have:=B.o;rw[List.take_length] at this;exact this);go_wp2;go_ret;exact⟨⟨v,rfl,N.o⟩,y.o⟩
def FE.zero:FE:=⟨.bool false,.slice none 0 0,.slice none 0 0,0,1⟩
structure QBlk (w:Vz) (g:Nat) (ts:List FE):Prop where
 blk:SB w g 107 (ts.flatMap FE.cells).toArray
 ts:∀t,t∈ ts->FracV w (.agg #[t.x,t.y,t.z]) t.q/\Fits t.q t.k/\0<t.k
theorem QBlk.row{w:Vz}{g:Nat}{a:List FE}(h:QBlk w g a):QRow w (some ⟨g,0,none⟩) a.length a:=⟨h.blk.arow rfl lZ,h.ts⟩
theorem QBlk.below{w w':Vz}{g:Nat}{a:List FE}(h:QBlk w g a)(b:Bl w w'):QBlk w' g a:=⟨h.blk.below b h.blk.lt,fun t c=>⟨(h.ts t c).1.below b,(h.ts t c).2⟩⟩
theorem QBlk.no64{w:Vz}{g:Nat}{b:List FE}(h:QBlk w g b):NoU64 (b.flatMap FE.cells).toArray:=by
 refine Qic fun v a n=>?_
 obtain⟨t,c,a⟩:=List.mem_flatMap.1 a;obtain⟨d,e,f⟩:=(h.ts t c).1.no64 n;simp[FE.cells] at a;rcases a with rfl|rfl|rfl
 . exact d
 . exact e
 . exact f
theorem Qmb:∀(a:List FE) (k:Nat) (e:FE),k<a.length->(a.set k e).flatMap FE.cells=(((a.flatMap FE.cells).set (k*3) e.x).set (k*3+1) e.y).set (k*3+2) e.z
 | [],k,e,h=>by simp at h
 |t :: l,0,e,_=>by simp[FE.cells]
 |t :: l,k+1,e,h=>by
  have b:=Qmb l k e (by simpa using h);rw[List.set_cons_succ,List.flatMap_cons,b,List.flatMap_cons];simp only[FE.cells,List.cons_append,List.nil_append];rw[show (k+1)*3=k*3+1+1+1 by omega];simp only[List.set_cons_succ,Nat.add_assoc]
theorem QBlk.set{w:Vz}{g:Nat}{a:List FE}(h:QBlk w g a){k:Nat}{e:FE}(hk:k<a.length)(c:FracV w (.agg #[e.x,e.y,e.z]) e.q/\Fits e.q e.k/\0<e.k):
 QBlk (((w.setCell ⟨g,k*3,none⟩ e.x).setCell ⟨g,k*3+1,none⟩ e.y).setCell ⟨g,k*3+2,none⟩ e.z) g (a.set k e):=by
 have d:Only g w (((w.setCell ⟨g,k*3,none⟩ e.x).setCell ⟨g,k*3+1,none⟩ e.y).setCell ⟨g,k*3+2,none⟩ e.z):=(((Only.refl g w).setCell _ _).setCell _ _).setCell _ _;refine⟨?_,fun t b=>?_⟩
 .
  have:=((h.blk.set (k*3) e.x).set (k*3+1) e.y).set (k*3+2) e.z;rw[Qmb a k e hk]
  simpa using this
 .
  rcases List.mem_or_eq_of_mem_set b with b|rfl
  . exact⟨(h.ts t b).1.only d h.blk h.no64,(h.ts t b).2⟩
  . exact⟨c.1.only d h.blk h.no64,c.2⟩
theorem QBlk.new(w:Vz)(n:Nat)(C:Vw)(hC:C=((List.replicate n FE.zero).flatMap FE.cells).toArray):QBlk (w.alloc (.cells C 107)) w.heap.size (List.replicate n FE.zero):=by
 subst hC;refine⟨SB.new _ _ _,fun t a=>?_⟩;obtain⟨_,rfl⟩:=List.mem_replicate.1 a;exact⟨FracV.zero _,Fits.zero,by decide⟩
theorem Qv6(n:Nat):madeCells (Value.cells (.agg #[.bool false,.slice none 0 0,.slice none 0 0])) (n*3)=((List.replicate n FE.zero).flatMap FE.cells).toArray:=by
 apply Array.ext';apply List.ext_getElem?;intro i;by_cases d:i<n*3
 .
  have b:(List.replicate n FE.zero)[i / 3]?=some FE.zero:=by rw[List.getElem?_replicate,if_pos (by omega)]
  have a:i % 3=0∨i % 3=1∨i % 3=2:=by omega
  have e:Value.cells (.agg #[.bool false,.slice none 0 0,.slice none 0 0])=#[.bool false,.slice none 0 0,.slice none 0 0]:=by rfl
  have f:i / 3*3+i % 3=i:=by omega
  have g:(madeCells (Value.cells (.agg #[.bool false,.slice none 0 0,.slice none 0 0])) (n*3)).toList[i]?=some ((#[Value.bool false,.slice none 0 0,.slice none 0 0]:Array Value)[i % 3]!):=by
   rw[e];simp[madeCells,d]
  rw[g];have c:∀u,(FE.cells FE.zero)[i % 3]?=some u->((List.replicate n FE.zero).flatMap FE.cells)[i]?=some u:=fun u h=>by
   have:=Qa8 (sz:=3) (fun _=>rfl) _ _ _ _ _ b h;rw[f] at this;exact this
  simp only[List.toList_toArray];rcases a with a|a|a
  all_goals
   rw[a] at c ⊢;exact(c _ rfl).symm
 .
  have b:((List.replicate n FE.zero).flatMap FE.cells).length=n*3:=by rw[Qay (sz:=3) (fun _=>rfl)];simp
  have j:=size_madeCells (Value.cells (.agg #[.bool false,.slice none 0 0,.slice none 0 0])) (n*3);rw[List.getElem?_eq_none (by rw[Array.length_toList,j];omega),List.getElem?_eq_none (by simp only[List.toList_toArray];rw[b];omega)]
theorem Qex:(prog.info? 107).map (fun i=>(i.zero,i.size,i.bytes))=some (some (.agg #[.bool false,.slice none 0 0,.slice none 0 0]),3,56):=by kernel_rfl
theorem Qa3(n:Nat)(e:n<=1048576)(w:Vz):(Instr.makeSlice 98 (.int .i64 n) (.int .i64 n)).run prog w=.ok (.slice (some ⟨w.heap.size,0,none⟩) n n) (w.alloc (.cells ((List.replicate n FE.zero).flatMap FE.cells).toArray 107)):=by
 obtain⟨i,a,h⟩:=Option.map_eq_some_iff.1 Qex;simp only[Prod.mk.injEq] at h;obtain⟨b,c,d⟩:=h;have:=run_make w 98 107 i _ underlying98 a b .i64 .i64 n n (by omega) (by omega) (by rw[d];omega) (by omega);rw[Int.toNat_natCast,c,Qv6] at this;exact this
def Made(f:Nat->Rat->Rat)(B:Nat)(ts us:List FE)(k:Nat):Prop:=
 us.length=ts.length/\∀i e,i<k->ts[i]?=some e->∃u,us[i]?=some u/\u.q=f i e.q/\u.k<=B
theorem Made.start(f:Nat->Rat->Rat)(B:Nat)(a:List FE):Made f B a (List.replicate a.length FE.zero) 0:=⟨by simp,fun i e b=>by omega⟩
theorem Made.step{f:Nat->Rat->Rat}{B:Nat}{a us:List FE}{k:Nat}{e u:FE}(h:Made f B a us k)(c:a[k]?=some e)(g:u.q=f k e.q)(hB:u.k<=B):Made f B a (us.set k u) (k+1):=by
 have hk:=(gZ c).1;refine⟨by rw[List.length_set];exact h.1,fun i x n d=>?_⟩;rcases Nat.lt_or_ge i k with b|j
 . obtain⟨y,l,m⟩:=h.2 i x b d
   exact⟨y,by rw[List.getElem?_set_ne (by omega)];exact l,m⟩
 .
  obtain rfl:i=k:=by omega
  obtain rfl:=Option.some.inj (c.symm.trans d);exact⟨u,by rw[List.getElem?_set_self (by rw[h.1];exact hk)],g,hB⟩
theorem Qv7(a:Vx)(G B j:Nat)(b:List FE)(A C D:Value)(q:Rat)(w:Vz)(h:QRow w a G b)(hl:b.length<=1000)(hv:FracV w (.agg #[A,C,D]) q)(hq:Fits q j)(hj:0<j)(hB:∀t∈ b,t.k+j<=B)(aq:B<68719476000):
 Calls prog 207 #[.slice a b.length G,.agg #[A,C,D]] w fun e w'=>(∃g us,e=.returned (.slice (some ⟨g,0,none⟩) b.length b.length)/\w.heap.size<=g/\QBlk w' g us/\Made (fun _ x=>x / q) B b us b.length)/\Below w.heap.size w w':=by
 obtain⟨U,HV,V,X⟩:=Ic h hv hq hB;have H:=fun w=>Qa3 b.length (by omega) w
 obtain⟨MC,l⟩:=nm (((List.replicate b.length FE.zero).flatMap FE.cells).toArray);rw[l] at H;have Y:=Hi l.symm;clear h hv hq hB l;go_enter func207,ntmps207;go_wp2_with fail;clear H;obtain⟨g,Z⟩:=nm (w.heap.size+1);have m:w.heap.size<g:=by omega
 obtain⟨W,hW⟩:=nm ((w.alloc (.cells #[A,C,D] 107)).alloc (.cells MC 107));have aa:=Ub hW;have ab:=Ud hW;have ad:O (QBlk W g (List.replicate b.length FE.zero)):=Hi (by rw[<-hW,<-Z];have:=QBlk.new (w.alloc (.cells #[A,C,D] 107)) b.length MC Y.o;simpa using this)
 try rw[hW]
 try rw[Z]
 clear hW Z;go_loopw [12] (fun i wr=>∃(k:Nat) (us:List FE),k<=b.length/\i=.int .i64 k/\Made (fun _ x=>x / q) B b us k/\QBlk wr g us/\SB wr w.heap.size 107 #[A,C,D]/\Below w.heap.size w wr) (fun i _=>b.length - (intOf i).toNat)
 case atStart=>exact⟨0,_,by omega,rfl,Made.start _ _ _,ad.o,ab.o,aa.o⟩
 case round=>
  obtain⟨k,us,hk,rfl,hm,n,hs,hb⟩:=hrel;obtain⟨E,HM,HQ,HS⟩:=Ic hb hm n hs;have ar:=hm.1;have au:=n.blk.lt;clear hb hm n hs;by_cases ae:k<b.length
  .
   obtain⟨e,F⟩:∃e,b[k]?=some e:=⟨b[k],gE ae⟩;obtain⟨T,r,rfl,av,_⟩:=U.o.at F;obtain⟨aw,ao,af,ag,d0,d1,d2⟩:=(U.o.below E.o).at F;cases af;have n1:g≠T:=by omega
   have n2:g≠w.heap.size:=by omega
   obtain⟨hx,I,J⟩:=(U.o.below E.o).get F;have ah:=X.o e (mO F);obtain⟨y0,K⟩:∃y0,us[k]?=some y0:=⟨us[k],gE (by omega)⟩;obtain⟨HE,HX,s,HY⟩:=Ic F hx I (HV.o.below E.o);obtain⟨k0,k1,k2,-⟩:=zc HS.o;have q1:((k:Int)<(b.length:Int)):=by omega
   obtain⟨ai,D0,D1,D2⟩:=Ic K d0 d1 d2;clear F hx I K;go_wp2_with fail;go_region_held3 (fun v=>v.cell? ⟨T,r+k*3,none⟩=some e.x/\v.cell? ⟨T,r+k*3+1,none⟩=some e.y/\v.cell? ⟨T,r+k*3+2,none⟩=some e.z/\v.cell? ⟨w.heap.size,0,none⟩=some A/\v.cell? ⟨w.heap.size,1,none⟩=some C/\v.cell? ⟨w.heap.size,2,none⟩=some D) ((first|(simp [*];done)|go_keep)) (first
    |(
     go_at_call_of 66 e.x;apply cM
     first
      |exact Qch HX.o HY.o s.o V.o (by omega)
      |exact Qch (HX.o.below bR.drew) (HY.o.below bR.drew) s.o V.o (by omega)
     rintro e' w5 ⟨⟨v5,rfl,f⟩,u⟩;obtain⟨L,M,N,c5,P,Q,R,rfl,f⟩:=f
     first
      |have c:O (Bl wr w5):=Hi u
      |have c:O (Bl wr w5):=Hi (bR.drew.trans u)
     have aj:O (FracV w5 (.agg #[.bool L,.slice M N c5,.slice P Q R]) (e.q / q)):=Hi ⟨L,M,N,c5,P,Q,R,rfl,f⟩;clear f u;have d:=Hi (HQ.o.below c.o);obtain⟨v0,v1,v2⟩:=Jb c.o ag D0.o D1.o D2.o;have S:=Hi (HS.o.below c.o HS.o.lt);obtain⟨u0,u1,u2,-⟩:=zc S.o;have f0:=d.o.blk.free (k*3);have f1:=d.o.blk.free (k*3+1);have f2:=d.o.blk.free (k*3+2);obtain⟨gb,ap,ak,_,t0,t1,t2⟩:=d.o.row.at ai.o;cases ak;simp only[Nat.zero_add] at t0 t1 t2
     skip))
   all_goals
    go_wp2_with fail;obtain⟨HN,al,am⟩:=Ib (d.o.set (k:=k) (e:=⟨.bool L,.slice M N c5,.slice P Q R,e.q / q,e.k+j⟩) (by omega) ⟨aj.o,s.o.div V.o J hj,Nat.lt_add_right j J⟩) (((S.o.other n2.symm (k*3) (.bool L)).other n2.symm (k*3+1) (.slice M N c5)).other n2.symm (k*3+2) (.slice P Q R)) ((((E.o.trans (c.o.mono E.o.size)).setCell (p:=⟨g,k*3,none⟩) (Nat.le_of_lt m) (.bool L)).setCell (p:=⟨g,k*3+1,none⟩) (Nat.le_of_lt m) (.slice M N c5)).setCell (p:=⟨g,k*3+2,none⟩) (Nat.le_of_lt m) (.slice P Q R));refine⟨⟨k+1,_,by omega,by go_num,HM.o.step HE.o rfl ah,HN.o,al.o,am.o⟩,?_⟩;simp[intOf];omega
  .
   have an:k=b.length:=by omega
   subst an;go_wp2;go_ret;exact⟨⟨g,us,rfl,by omega,HQ.o,HM.o⟩,E.o⟩
def qAt(ss:List FE)(i:Nat):Rat:=(ss.map (·.q)).getD i 0
theorem Qbc{a:List FE}{i:Nat}{e:FE}(h:a[i]?=some e):qAt a i=e.q:=by
 unfold qAt;simp[List.getD,h]
theorem Qey(a a':Vx)(al cap' B j:Nat)(c N:List FE)(R S T:Value)(q:Rat)(w:Vz)(h:QRow w a al c)(h':QRow w a' cap' N)(bg:N.length=c.length)(hl:c.length<=1000)(hv:FracV w (.agg #[R,S,T]) q)(hq:Fits q j)(hj:0<j)(hB:∀t∈ c,∀s∈ N,t.k+s.k+j+1<=B)(bh:B<68719476000):
 Calls prog 169 #[.slice a c.length al,.slice a' c.length cap',.agg #[R,S,T]] w fun e w'=>(∃g us,e=.returned (.slice (some ⟨g,0,none⟩) c.length c.length)/\w.heap.size<=g/\QBlk w' g us/\Made (fun i x=>x - qAt N i*q) B c us c.length)/\Below w.heap.size w w':=by
 obtain⟨HH,HG,HV,U,aw⟩:=Id h h' hv hq hB;have am:=fun w=>Qa3 c.length (by omega) w
 obtain⟨MC,V⟩:=nm (((List.replicate c.length FE.zero).flatMap FE.cells).toArray);rw[V] at am;have ax:=Hi V.symm;clear h h' hv hq hB V;go_enter func169,ntmps169;go_wp2_with fail;clear am;obtain⟨g,hg⟩:=nm (w.heap.size+1);have n:w.heap.size<g:=by omega
 obtain⟨W,hW⟩:=nm ((w.alloc (.cells #[R,S,T] 107)).alloc (.cells MC 107));have ay:=Ub hW;have az:=Ud hW;have a0:O (QBlk W g (List.replicate c.length FE.zero)):=Hi (by rw[<-hW,<-hg];have:=QBlk.new (w.alloc (.cells #[R,S,T] 107)) c.length MC ax.o;simpa using this)
 try rw[hW]
 try rw[hg]
 clear hW hg;go_loopw [14] (fun i wr=>∃(k:Nat) (us:List FE),k<=c.length/\i=.int .i64 k/\Made (fun i x=>x - qAt N i*q) B c us k/\QBlk wr g us/\SB wr w.heap.size 107 #[R,S,T]/\Below w.heap.size w wr) (fun i _=>c.length - (intOf i).toNat)
 case atStart=>exact⟨0,_,by omega,rfl,Made.start _ _ _,a0.o,az.o,ay.o⟩
 case round=>
  obtain⟨k,us,hk,rfl,hm,X,P,hb⟩:=hrel;obtain⟨HB,HM,HQ,HS⟩:=Ic hb hm X P;have bi:=hm.1;have bj:=X.blk.lt;clear hb hm X P;by_cases a1:k<c.length
  .
   obtain⟨e,he⟩:∃e,c[k]?=some e:=⟨c[k],gE a1⟩;obtain⟨s,P⟩:∃s,N[k]?=some s:=⟨N[k],gE (by omega)⟩;obtain⟨fb,Y,rfl,E,D0,D1,D2⟩:=HH.o.at he;obtain⟨sb,u,rfl,A,E0,E1,E2⟩:=HG.o.at P;obtain⟨hx,Z,a2⟩:=HH.o.get he;obtain⟨hy,an,F⟩:=HG.o.get P;have bk:=aw.o e (mO he) s (mO P);obtain⟨y0,ao⟩:∃y0,us[k]?=some y0:=⟨us[k],gE (by omega)⟩;have n1:g≠fb:=by omega
   have n2:g≠w.heap.size:=by omega
   have n3:g≠sb:=by omega
   obtain⟨HE,ap,HX,G,HY,l,aa,ab,ad⟩:=Ih he (Qbc P) hx Z hy an D0 D1 D2;obtain⟨ae,af,ag⟩:=Ib E0 E1 E2;obtain⟨o1,o2,o3⟩:=hx.one;have a3:=Qaa prog o1;have a4:=Qaa prog o2;have a7:=Qaa prog o3;obtain⟨d0,d1,d2⟩:=Jb HB.o E D0 D1 D2;have q1:((k:Int)<(c.length:Int)):=by omega
   have f0:=HQ.o.blk.free (k*3);have f1:=HQ.o.blk.free (k*3+1);have f2:=HQ.o.blk.free (k*3+2);obtain⟨gb,aq,ah,_,t0,t1,t2⟩:=HQ.o.row.at ao;cases ah;simp only[Nat.zero_add] at t0 t1 t2;obtain⟨W1,r⟩:=nm (((wr.setCell ⟨g,k*3,none⟩ e.x).setCell ⟨g,k*3+1,none⟩ e.y).setCell ⟨g,k*3+2,none⟩ e.z);have a8:O (QBlk W1 g (us.set k e)):=Hi (by rw[<-r];exact HQ.o.set (by omega) ⟨hx.below HB.o,Z,a2⟩);have ar:O (SB W1 w.heap.size 107 #[R,S,T]):=Hi (by rw[<-r];exact((HS.o.other n2.symm _ _).other n2.symm _ _).other n2.symm _ _);have C:O (Bl w W1):=Hi (by rw[<-r];exact((HB.o.setCell (p:=⟨g,k*3,none⟩) (Nat.le_of_lt n) _).setCell (p:=⟨g,k*3+1,none⟩) (Nat.le_of_lt n) _).setCell (p:=⟨g,k*3+2,none⟩) (Nat.le_of_lt n) _);obtain⟨s0,s1⟩:=Ja C.o A E0 E1
   have s2:=ce C.o A E2;rw[<-r] at s0 s1 s2;have a9:=Hi r;clear he P hx Z hy an ao r o1 o2 o3 D0 D1 D2 E0 E1 E2;go_wp2_with fail;rw[a9.o];clear s0 s1 s2 d0 d1 d2 f0 f1 f2 t0 t1 t2 a3 a4 a7;go_fit (Qbz (HY.o.below C.o));rintro e' w4 ⟨rfl,H⟩;obtain⟨b,au,I⟩:=Ib (C.o.trans (H.mono C.o.size)) (a8.o.below H) (ar.o.below H ar.o.lt);clear H;by_cases h0:s.q=0
   .
    rw[decide_eq_true h0];have HZ:O (e.q=e.q - qAt N k*q):=Hi (by rw[ap.o,h0,Rat.zero_mul,Rat.sub_eq_add_neg,Rat.neg_zero,Rat.add_zero]);clear h0;go_wp2;go_roundw
    case rel=>exact⟨k+1,_,by omega,by go_num,HM.o.step HE.o HZ.o (by omega),au.o,I.o,b.o⟩
    case measure=>simp[intOf];omega
   .
    rw[decide_eq_false h0];clear h0;go_wp2_with fail;obtain⟨x0,x1,x2⟩:=Jb b.o E aa.o ab.o ad.o;obtain⟨z0,z1,z2⟩:=Jb b.o A ae.o af.o ag.o;obtain⟨k0,k1,k2,-⟩:=zc I.o;have ba:k<(us.set k e).length:=by rw[List.length_set];omega
    go_region_held3 (fun v=>v.cell? ⟨fb,Y+k*3,none⟩=some e.x/\v.cell? ⟨fb,Y+k*3+1,none⟩=some e.y/\v.cell? ⟨fb,Y+k*3+2,none⟩=some e.z/\v.cell? ⟨sb,u+k*3,none⟩=some s.x/\v.cell? ⟨sb,u+k*3+1,none⟩=some s.y/\v.cell? ⟨sb,u+k*3+2,none⟩=some s.z/\v.cell? ⟨w.heap.size,0,none⟩=some R/\v.cell? ⟨w.heap.size,1,none⟩=some S/\v.cell? ⟨w.heap.size,2,none⟩=some T) ((first|(simp [*];done)|go_keep)) (first
     |(
      go_at_call 65;apply cM
      first
       |exact Qd4 (HY.o.below b.o) (HV.o.below b.o) l.o U.o (by omega)
       |exact Qd4 (HY.o.below b.o.drew) (HV.o.below b.o.drew) l.o U.o (by omega)
       |exact Qd4 (HY.o.below b.o.drew.drew) (HV.o.below b.o.drew.drew) l.o U.o (by omega)
      rintro e5 Q ⟨⟨v5,rfl,J⟩,K⟩;obtain⟨n5,a5,l5,c5,m5,o5,p5,rfl,J⟩:=J
      first
       |have d:O (Bl w4 Q):=Hi K
       |have d:O (Bl w4 Q):=Hi (bR.drew.trans K)
       |have d:O (Bl w4 Q):=Hi (bR.drew.drew.trans K)
      have ai:O (FracV Q (.agg #[.bool n5,.slice a5 l5 c5,.slice m5 o5 p5]) (s.q*q)):=Hi ⟨n5,a5,l5,c5,m5,o5,p5,rfl,J⟩;clear J K;obtain⟨m,bb,aj⟩:=Ib (b.o.trans (d.o.mono b.o.size)) (au.o.below d.o) (I.o.below d.o I.o.lt);obtain⟨x0,x1,x2⟩:=Jb m.o E aa.o ab.o ad.o;obtain⟨z0,z1,z2⟩:=Jb m.o A ae.o af.o ag.o;obtain⟨k0,k1,k2,-⟩:=zc aj.o
      skip)
     |(
      go_at_call 57;apply cM
      first
       |exact Qa9 (HX.o.below m.o) ai.o G.o (l.o.mul U.o F) (by omega)
       |exact Qa9 (HX.o.below m.o.drew) (ai.o.below bR.drew) G.o (l.o.mul U.o F) (by omega)
       |exact Qa9 (HX.o.below m.o.drew.drew) (ai.o.below bR.drew.drew) G.o (l.o.mul U.o F) (by omega)
      rintro e6 w6 ⟨⟨v6,rfl,L⟩,M⟩;obtain⟨n6,a6,l6,c6,m6,o6,p6,rfl,L⟩:=L
      first
       |have f:=Hi M
       |have f:O (Bl Q w6):=Hi (bR.drew.trans M)
       |have f:O (Bl Q w6):=Hi (bR.drew.drew.trans M)
      have bc:O (FracV w6 (.agg #[.bool n6,.slice a6 l6 c6,.slice m6 o6 p6]) (e.q - s.q*q)):=Hi ⟨n6,a6,l6,c6,m6,o6,p6,rfl,L⟩;clear L M;obtain⟨ak,D,av⟩:=Ib (m.o.trans (f.o.mono m.o.size)) (bb.o.below f.o) (aj.o.below f.o aj.o.lt);obtain⟨x0,x1,x2⟩:=Jb ak.o E aa.o ab.o ad.o;obtain⟨z0,z1,z2⟩:=Jb ak.o A ae.o af.o ag.o;obtain⟨k0,k1,k2,-⟩:=zc av.o
      have f0:=D.o.blk.free (k*3);have f1:=D.o.blk.free (k*3+1);have f2:=D.o.blk.free (k*3+2);obtain⟨gb,aq,ah,_,t0,t1,t2⟩:=D.o.row.at (i:=k) (e:=e) (List.getElem?_set_self (by omega));cases ah;simp only[Nat.zero_add] at t0 t1 t2
      skip))
    all_goals
     go_wp2_with fail;obtain⟨HN,bd,be⟩:=Ib (D.o.set (k:=k) (e:=⟨.bool n6,.slice a6 l6 c6,.slice m6 o6 p6,e.q - s.q*q,e.k+(s.k+j)+1⟩) ba ⟨bc.o,G.o.sub (l.o.mul U.o F),Nat.succ_pos _⟩) (((av.o.other n2.symm (k*3) (.bool n6)).other n2.symm (k*3+1) (.slice a6 l6 c6)).other n2.symm (k*3+2) (.slice m6 o6 p6)) (((ak.o.setCell (p:=⟨g,k*3,none⟩) (Nat.le_of_lt n) (.bool n6)).setCell (p:=⟨g,k*3+1,none⟩) (Nat.le_of_lt n) (.slice a6 l6 c6)).setCell (p:=⟨g,k*3+2,none⟩) (Nat.le_of_lt n) (.slice m6 o6 p6));rw[List.set_set] at HN;refine⟨⟨k+1,_,by omega,by go_num,HM.o.step HE.o (by rw[ap.o]) (by show e.k+(s.k+j)+1<=B;omega),HN.o,bd.o,be.o⟩,?_⟩;simp[intOf];omega
  .
   have bf:k=c.length:=by omega
   subst bf;go_wp2;go_ret;exact⟨⟨g,us,rfl,by omega,HQ.o,HM.o⟩,HB.o⟩
theorem mr_sl(rs:List MR):∀v∈ rs.flatMap MR.cells,∃a n c,v=Value.slice a n c:=by
 intro v b;obtain⟨r,_,b⟩:=List.mem_flatMap.1 b;exact⟨_,_,_,by simpa [MR.cells] using b⟩
theorem Qmc:∀(rs:List MR) (k:Nat) (r:MR),(rs.set k r).flatMap MR.cells=(rs.flatMap MR.cells).set k (.slice r.a r.ts.length r.cap)
 | [],k,r=>by simp
 |t :: l,0,r=>by simp[MR.cells]
 |t :: l,k+1,r=>by
  have b:=Qmc l k r;rw[List.set_cons_succ,List.flatMap_cons,b,List.flatMap_cons];simp[MR.cells]
def MR.none:MR:=⟨.none,0,[]⟩
theorem Qv8(n:Nat):madeCells (Value.cells (.slice .none 0 0)) n=((List.replicate n MR.none).flatMap MR.cells).toArray:=by
 have e:Value.cells (.slice .none 0 0)=#[.slice .none 0 0]:=by rfl
 rw[e];apply Array.ext';rw[toList_madeCells_one]
 induction n with
 |zero=>rfl
 |succ n a=>
  simp only[List.toList_toArray] at a ⊢;rw[List.replicate_succ,List.replicate_succ,List.flatMap_cons,<-a];rfl
theorem Qct:(prog.info? 98).map (fun i=>(i.zero,i.size,i.bytes))=some (some (.slice .none 0 0),1,24):=by kernel_rfl
theorem Qmd(n:Nat)(e:n<=1048576)(w:Vz):(Instr.makeSlice 148 (.int .i64 n) (.int .i64 n)).run prog w=.ok (.slice (some ⟨w.heap.size,0,.none⟩) n n) (w.alloc (.cells ((List.replicate n MR.none).flatMap MR.cells).toArray 98)):=by
 obtain⟨i,a,h⟩:=Option.map_eq_some_iff.1 Qct;simp only[Prod.mk.injEq] at h;obtain⟨b,c,d⟩:=h;have:=run_make w 148 98 i _ underlying148 a b .i64 .i64 n n (by omega) (by omega) (by rw[d];omega) (by omega);rw[Int.toNat_natCast,c,Nat.mul_one,Qv8] at this;exact this
abbrev Vec:=Nat->Rat
def dot:Nat->Vec->Vec->Rat
 |0,_,_=>0
 |n+1,r,x=>dot n r x+r n*x n
theorem Qac:∀(W:Nat) (r x s y:Vec),(∀c,c<W->r c*x c=s c*y c)->dot W r x=dot W s y
 |0,_,_,_,_,_=>rfl
 |n+1,r,x,s,y,h=>by
  simp only[dot];rw[Qac n r x s y (fun c a=>h c (by omega)),h n (by omega)]
theorem Qa2:∀(W:Nat) (r x:Vec),(∀c,c<W->r c*x c=0)->dot W r x=0
 |0,_,_,_=>rfl
 |n+1,r,x,h=>by
  simp only[dot];rw[Qa2 n r x (fun c a=>h c (by omega)),h n (by omega)];grind
theorem Qb1:∀(W:Nat) (r s x:Vec) (q:Rat),dot W (fun i=>r i - s i*q) x=dot W r x - q*dot W s x
 |0,_,_,_,_=>by simp only[dot];grind
 |n+1,r,s,x,q=>by
  simp only[dot];rw[Qb1 n r s x q];grind
theorem Qee:∀(W:Nat) (r x:Vec) (q:Rat),dot W (fun i=>r i / q) x=dot W r x / q
 |0,_,_,_=>by simp only[dot];grind
 |n+1,r,x,q=>by
  simp only[dot];rw[Qee n r x q];grind
theorem Qge:∀(W:Nat) (r x y:Vec),dot W r (fun i=>x i - y i)=dot W r x - dot W r y
 |0,_,_,_=>by simp only[dot];grind
 |n+1,r,x,y=>by
  simp only[dot];rw[Qge n r x y];grind
def upd(x:Vec)(h:Nat)(v:Rat):Vec:=fun c=>if c=h then v else x c
theorem Qa4(x:Vec)(h:Nat)(v:Rat):upd x h v h=v:=if_pos rfl
theorem Qap(x:Vec){h c:Nat}(v:Rat)(a:c≠h):upd x h v c=x c:=if_neg a
theorem Qc5:∀(W:Nat) (r x:Vec) (h:Nat) (v:Rat),h<W->dot W r (upd x h v)=dot W r x+r h*(v - x h)
 |0,_,_,_,_,hh=>by omega
 |n+1,r,x,h,v,hh=>by
  simp only[dot];by_cases e:h=n
  .
   subst e;rw[Qac h r (upd x h v) r x (fun c a=>by rw[Qap _ _ (by omega)]),Qa4];grind
  . rw[Qc5 n r x h v (by omega),Qap _ _ (Ne.symm e)]
    grind
theorem Qef(W:Nat)(r x:Vec)(h:Nat)(b:h<W)(d:∀c,c<W->c≠h->r c*x c=0):dot W r x=r h*x h:=by
 have a:=Qc5 W r (upd x h 0) h (x h) b;have f:upd (upd x h 0) h (x h)=x:=by
  funext c;by_cases e:c=h
  . subst e;rw[Qa4]
  . rw[Qap _ _ e,Qap _ _ e]
 rw[f,Qa2 W r (upd x h 0) (fun c g=>?_),Qa4] at a
 . rw[a];grind
 .
  by_cases e:c=h
  . subst e;rw[Qa4];grind
  . rw[Qap _ _ e];exact d c g e
def Null(W:Nat)(S:List Vec)(x:Vec):Prop:=∀r,r∈ S->dot W r x=0
theorem Null.cons{W:Nat}{r:Vec}{S:List Vec}{x:Vec}:Null W (r :: S) x↔dot W r x=0/\Null W S x:=by
 unfold Null;simp
theorem Null.app{W:Nat}{S T:List Vec}{x:Vec}:Null W (S++T) x↔Null W S x/\Null W T x:=by
 unfold Null;simp only[List.mem_append];exact⟨fun h=>⟨fun r a=>h r (.inl a),fun r a=>h r (.inr a)⟩,fun h r a=>a.elim (h.1 r) (h.2 r)⟩
def Ech:Nat->Nat->List Vec->List Nat->Prop
 |lo,hi,[],[]=>lo<=hi
 |lo,hi,r :: S,h :: hs=>lo<=h/\r h≠0/\(∀c,c<h->r c=0)/\Ech (h+1) hi S hs
 |_,_,_,_=>False
theorem Ech.le:∀{S:List Vec} {b:Vy} {lo a:Nat},Ech lo a S b->lo<=a
 | [],[],_,_,h=>h
 |r :: S,h :: b,lo,a,⟨h1,_,_,h2⟩=>by have:=Ech.le h2;omega
 | [],_ :: _,_,_,h=>h.elim
 |r :: S,[],_,_,h=>h.elim
theorem Ech.len:∀{S:List Vec} {a:Vy} {lo b:Nat},Ech lo b S a->S.length=a.length
 | [],[],_,_,h=>rfl
 |r :: S,h :: a,lo,b,⟨_,_,_,h2⟩=>by have:=Ech.len h2;simp only[List.length_cons];omega
 | [],_ :: _,_,_,h=>h.elim
 |r :: S,[],_,_,h=>h.elim
theorem Ech.mono:∀{S:List Vec} {b:Vy} {lo c a:Nat},Ech lo c S b->c<=a->Ech lo a S b
 | [],[],_,_,_,h,k=>Nat.le_trans h k
 |r :: S,h :: b,lo,c,a,⟨h1,h2,h3,h4⟩,k=>⟨h1,h2,h3,h4.mono k⟩
 | [],_ :: _,_,_,_,h,_=>h.elim
 |r :: S,[],_,_,_,h,_=>h.elim
theorem Ech.head:∀{S:List Vec} {b:Vy} {lo d:Nat},Ech lo d S b->∀c,c∈ b->lo<=c/\c<d
 | [],[],_,_,h,c,a=>by cases a
 |r :: S,h :: b,lo,d,⟨h1,h2,h3,h4⟩,c,a=>by
  rcases List.mem_cons.1 a with rfl|a
  . have:=h4.le;omega
  . have:=h4.head c a;omega
 | [],_ :: _,_,_,h,_,_=>h.elim
 |r :: S,[],_,_,h,_,_=>h.elim
theorem Ech.zero:∀{S:List Vec} {b:Vy} {lo d:Nat},Ech lo d S b->∀r,r∈ S->∀c,c<lo->r c=0
 | [],[],_,_,h,r,a,_,_=>by cases a
 |s :: S,h :: b,lo,d,⟨h1,h2,h3,h4⟩,r,a,c,hc=>by
  rcases List.mem_cons.1 a with rfl|a
  . exact h3 c (by omega)
  . exact h4.zero r a c (by omega)
 | [],_ :: _,_,_,h,_,_,_,_=>h.elim
 |r :: S,[],_,_,h,_,_,_,_=>h.elim
theorem Ech.snoc:∀{S:List Vec} {b:Vy} {lo a c:Nat} {s:Vec},Ech lo a S b->a<=c->s c≠0->(∀i,i<c->s i=0)->Ech lo (c+1) (S++ [s]) (b++ [c])
 | [],[],lo,a,c,s,h,k,h1,h2=>⟨Nat.le_trans h k,h1,h2,Nat.le_refl _⟩
 |r :: S,h :: b,lo,a,c,s,⟨h1,h2,h3,h4⟩,k,k1,k2=>⟨h1,h2,h3,h4.snoc k k1 k2⟩
 | [],_ :: _,_,_,_,_,h,_,_,_=>h.elim
 |r :: S,[],_,_,_,_,h,_,_,_=>h.elim
theorem Ech.solve(W:Nat)(f:Vec):∀{S:List Vec} {a:Vy} {lo b:Nat},Ech lo b S a->b<=W->∃x:Vec,(∀c,c ∉ a->x c=f c)/\Null W S x
 | [],[],_,_,_,_=>⟨f,fun _ _=>rfl,fun r g=>by cases g⟩
 |r :: S,h :: a,lo,b,⟨h1,h2,h3,h4⟩,hW=>by
  obtain⟨x,i,j⟩:=h4.solve W f hW;have e:h<W:=by have:=h4.le;omega
  refine⟨upd x h (x h - dot W r x / r h),fun c d=>?_,Null.cons.2 ⟨?_,fun s a=>?_⟩⟩
  .
   simp only[List.mem_cons,not_or] at d;rw[Qap _ _ d.1];exact i c d.2
  . rw[Qc5 _ _ _ _ _ e]
    grind
  . rw[Qc5 _ _ _ _ _ e,j s a,h4.zero s a h (by omega)]
    grind
 | [],_ :: _,_,_,h,_=>h.elim
 |r :: S,[],_,_,h,_=>h.elim
theorem Ech.uniq(W:Nat)(z:Vec):∀{S:List Vec} {a:Vy} {lo d:Nat},Ech lo d S a->d<=W->Null W S z->(∀c,c<W->c ∉ a->z c=0∨∀r,r∈ S->r c=0)->∀h,h∈ a->z h=0
 | [],[],_,_,_,_,_,_,h,f=>by cases f
 |r :: S,h :: a,lo,d,⟨h1,h2,h3,h4⟩,hW,hn,hz,k,hk=>by
  have f:h<W:=by have:=h4.le;omega
  obtain⟨b,g⟩:=Null.cons.1 hn;have n:=h4.uniq W z hW g (fun c i j=>by
   by_cases e:c=h
   . subst e
     exact .inr fun s a=>h4.zero s a c (by omega)
   .
    rcases hz c i (by simp only[List.mem_cons,not_or];exact⟨e,j⟩) with h5|h5
    . exact .inl h5
    . exact .inr fun s a=>h5 s (List.mem_cons_of_mem _ a))
  rcases List.mem_cons.1 hk with rfl|hk
  .
   rw[Qef W r z k f (fun c i l=>?_)] at b
   .
    rcases Rat.mul_eq_zero.1 b with m|m
    . exact(h2 m).elim
    . exact m
   .
    by_cases e:c∈ a
    . rw[n c e];grind
    .
     rcases hz c i (by simp only[List.mem_cons,not_or];exact⟨l,e⟩) with h5|h5
     . rw[h5];grind
     . rw[h5 r List.mem_cons_self];grind
  . exact n k hk
 | [],_ :: _,_,_,h,_,_,_,_,_=>h.elim
 |r :: S,[],_,_,h,_,_,_,_,_=>h.elim
def lessBy(c:Nat)(s r:Vec):Vec:=fun i=>r i - s i*(r c / s c)
structure Elim (W:Nat) (M:List Vec) (c:Nat) (L S:List Vec) (hs:Vy):Prop where
 ech:Ech 0 c S hs
 zero:∀r,r∈ L->∀i,i<c->r i=0
 null:∀x,Null W M x↔Null W L x/\Null W S x
theorem Elim.start(W:Nat)(M:List Vec):Elim W M 0 M [] []:=⟨Nat.le_refl _,fun _ _ i b=>by omega,fun x=>⟨fun h=>⟨h,fun r a=>by cases a⟩,fun h=>h.1⟩⟩
theorem Elim.skip{W c:Nat}{M L S:List Vec}{a:Vy}(h:Elim W M c L S a)(e:∀r,r∈ L->r c=0):Elim W M (c+1) L S a:=
 ⟨h.ech.mono (Nat.le_succ _),fun r b i f=>by
   rcases Nat.lt_or_ge i c with d|d
   . exact h.zero r b i d
   . obtain rfl:i=c:=by omega
     exact e r b,h.null⟩
theorem Elim.step{W c j:Nat}{M L S:List Vec}{m:Vy}{s:Vec}(h:Elim W M c L S m)(n:L[j]?=some s)(u:s c≠0):Elim W M (c+1) ((L.eraseIdx j).map (lessBy c s)) (S++ [s]) (m++ [c]):=by
 have b:=mO n;have o:=h.zero s b;refine⟨h.ech.snoc lZ u o,fun r d i f=>?_,fun x=>?_⟩
 .
  obtain⟨t,g,rfl⟩:=List.mem_map.1 d;have k:=List.mem_of_mem_eraseIdx g;unfold lessBy;rcases Nat.lt_or_ge i c with a|a
  . rw[o i a,h.zero t k i a];grind
  . obtain rfl:i=c:=by omega
    grind
 .
  rw[h.null x,Null.app];have p:∀t:Vec,dot W s x=0->(dot W (lessBy c s t) x=0↔dot W t x=0):=fun t a=>by
   unfold lessBy;rw[Qb1,a];grind
  constructor
  .
   rintro⟨a,l⟩;refine⟨fun r d=>?_,l,fun r d=>?_⟩
   . obtain⟨t,g,rfl⟩:=List.mem_map.1 d
     exact(p t (a s b)).2 (a t (List.mem_of_mem_eraseIdx g))
   . obtain rfl:r=s:=by simpa using d
     exact a r b
  .
   rintro⟨a,l,v⟩;have q:=v s (by simp);refine⟨fun r d=>?_,l⟩;obtain⟨i,f⟩:=List.mem_iff_getElem?.1 d;by_cases e:i=j
   .
    subst e;obtain rfl:=Option.some.inj (n.symm.trans f);exact q
   . have w:=List.mem_eraseIdx_iff_getElem?.2 ⟨i,e,f⟩
     exact(p r q).1 (a _ (List.mem_map.2 ⟨r,w,rfl⟩))
theorem Elim.done{W:Nat}{M L S:List Vec}{a:Vy}(h:Elim W M W L S a):Ech 0 W S a/\∀x,Null W M x↔Null W S x:=by
 refine⟨h.ech,fun x=>?_⟩;rw[h.null x];exact⟨fun k=>k.2,fun k=>⟨fun r b=>Qa2 W r x fun c d=>by rw[h.zero r b c d];grind,k⟩⟩
def red(r:Vec):List Vec->List Nat->Vec
 |t :: T,h :: hs=>red (fun i=>r i - t i*r h) T hs
 |_,_=>r
def cln:List Vec->List Nat->List Vec
 |r :: S,h :: hs=>red (fun i=>r i / r h) (cln S hs) hs :: cln S hs
 |_,_=>[]
def Cln:Nat->Nat->List Vec->List Nat->Prop
 |lo,hi,[],[]=>lo<=hi
 |lo,hi,r :: S,h :: hs=>lo<=h/\r h=1/\(∀c,c<h->r c=0)/\(∀c,c∈ hs->r c=0)/\Cln (h+1) hi S hs
 |_,_,_,_=>False
theorem Cln.ech:∀{S:List Vec} {a:Vy} {lo b:Nat},Cln lo b S a->Ech lo b S a
 | [],[],_,_,h=>h
 |r :: S,h :: a,lo,b,⟨h1,h2,h3,_,h4⟩=>⟨h1,by rw[h2];decide,h3,Cln.ech h4⟩
 | [],_ :: _,_,_,h=>h.elim
 |r :: S,[],_,_,h=>h.elim
theorem Qj5(W:Nat):∀{T:List Vec} {a:Vy} {lo f:Nat} (r:Vec),Cln lo f T a->(∀c,c<lo->red r T a c=r c)/\(∀c,c∈ a->red r T a c=0)/\∀x,Null W T x->dot W (red r T a) x=dot W r x
 | [],[],_,_,r,_=>⟨fun _ _=>rfl,fun c b=>by(cases b),fun _ _=>rfl⟩
 |t :: T,h :: a,lo,f,r,⟨h1,h2,h3,h4,h5⟩=>by
  obtain⟨k1,k2,g⟩:=Qj5 W (fun i=>r i - t i*r h) h5;refine⟨fun c b=>?_,fun c b=>?_,fun x j=>?_⟩
  .
   simp only[red];rw[k1 c (by omega),h3 c (by omega)];grind
  .
   simp only[red];rcases List.mem_cons.1 b with rfl|b
   . rw[k1 c (by omega),h2]
     grind
   . exact k2 c b
  .
   obtain⟨d,e⟩:=Null.cons.1 j;simp only[red];rw[g x e,Qb1,d];grind
 | [],_ :: _,_,_,_,h=>h.elim
 |r :: S,[],_,_,_,h=>h.elim
theorem Qco(W:Nat):∀{S:List Vec} {a:Vy} {lo d:Nat},Ech lo d S a->Cln lo d (cln S a) a/\∀x,Null W (cln S a) x↔Null W S x
 | [],[],_,_,h=>⟨h,fun _=>Iff.rfl⟩
 |r :: S,h :: a,lo,d,⟨h1,h2,h3,h4⟩=>by
  obtain⟨k1,k2⟩:=Qco W h4;obtain⟨f,j,g⟩:=Qj5 W (fun i=>r i / r h) k1;refine⟨⟨h1,?_,fun c k=>?_,j,k1⟩,fun x=>?_⟩
  . rw[f h (by omega)];grind
  . rw[f c (by omega),h3 c k];grind
  .
   simp only[cln];rw[Null.cons,Null.cons,k2 x];constructor
   .
    rintro⟨e,b⟩;rw[g x ((k2 x).2 b),Qee] at e;exact⟨by grind,b⟩
   .
    rintro⟨e,b⟩;rw[g x ((k2 x).2 b),Qee,e];exact⟨by grind,b⟩
 | [],_ :: _,_,_,h=>h.elim
 |r :: S,[],_,_,h=>h.elim
theorem Qeg:∀(S:List Vec) (a:Vy),S.length=a.length->(cln S a).length=S.length
 | [],_,_=>rfl
 |r :: S,h :: a,k=>by simp only[cln,List.length_cons];rw[Qeg S a (by simpa using k)]
 |r :: S,[],k=>by simp at k
theorem Ech.count:∀{S:List Vec} {a:Vy} {lo b:Nat},Ech lo b S a->a.length<=b - lo
 | [],[],_,_,_=>Nat.zero_le _
 |r :: S,h :: a,lo,b,⟨h1,_,_,h4⟩=>by have:=h4.count;have:=h4.le;simp only[List.length_cons];omega
 | [],_ :: _,_,_,h=>h.elim
 |r :: S,[],_,_,h=>h.elim
theorem Ech.hole:∀{S:List Vec} {b:Vy} {lo a:Nat},Ech lo a S b->b.length<a - lo->∃c,lo<=c/\c<a/\c ∉ b
 | [],[],lo,a,_,k=>⟨lo,Nat.le_refl _,by simp at k;omega,by simp⟩
 |r :: S,h :: b,lo,a,⟨h1,_,_,h4⟩,k=>by
  have f:=h4.le;simp only[List.length_cons] at k;rcases Nat.lt_or_ge lo h with g|g
  .
   refine⟨lo,Nat.le_refl _,by omega,fun d=>?_⟩;rcases List.mem_cons.1 d with e|e
   . omega
   . have:=(h4.head lo e).1;omega
  .
   obtain⟨c,c1,c2,c3⟩:=h4.hole (by omega);refine⟨c,by omega,c2,fun d=>?_⟩;rcases List.mem_cons.1 d with e|e
   . omega
   . exact c3 e
 | [],_ :: _,_,_,h,_=>h.elim
 |r :: S,[],_,_,h,_=>h.elim
theorem Ech.all:∀{S:List Vec} {a:Vy} {lo b:Nat},Ech lo b S a->a.length=b - lo->∀i h,a[i]?=some h->h=lo+i
 | [],[],lo,b,_,k,i,h,e=>by simp at e
 |r :: S,h :: a,lo,b,⟨h1,_,_,h4⟩,k,i,g,e=>by
  have c:=h4.le;have d:=h4.count;simp only[List.length_cons] at k;obtain rfl:h=lo:=by omega
  match i,e with
  |0,e=>simp at e;omega
  |i+1,e=>
   have:=h4.all (by omega) i g (by simpa using e);omega
 | [],_ :: _,_,_,h,_,_,_,_=>h.elim
 |r :: S,[],_,_,h,_,_,_,_=>h.elim
theorem Ech.last:∀{S:List Vec} {a:Vy} {lo n:Nat},Ech lo (n+1) S a->lo<=n->n ∉ a->Ech lo n S a
 | [],[],lo,n,_,k,_=>k
 |r :: S,h :: a,lo,n,⟨h1,h2,h3,h4⟩,k,hn=>by
  have b:=h4.le;simp only[List.mem_cons,not_or] at hn;exact⟨h1,h2,h3,h4.last (by omega) hn.2⟩
 | [],_ :: _,_,_,h,_,_=>h.elim
 |r :: S,[],_,_,h,_,_=>h.elim
theorem Ech.row:∀{S:List Vec} {b:Vy} {lo d:Nat},Ech lo d S b->∀h,h∈ b->∃r,r∈ S/\r h≠0/\∀c,c<h->r c=0
 | [],[],_,_,_,h,a=>by cases a
 |r :: S,k :: b,lo,d,⟨h1,h2,h3,h4⟩,h,a=>by
  rcases List.mem_cons.1 a with rfl|a
  . exact⟨r,List.mem_cons_self,h2,h3⟩
  . obtain⟨s,e,f⟩:=h4.row h a
    exact⟨s,List.mem_cons_of_mem _ e,f⟩
 | [],_ :: _,_,_,h,_,_=>h.elim
 |r :: S,[],_,_,h,_,_=>h.elim
theorem Cln.at:∀{S:List Vec} {d:Vy} {lo f:Nat},Cln lo f S d->∀(i:Nat) (r:Vec) (h:Nat),S[i]?=some r->d[i]?=some h->r h=1/\(∀c,c<h->r c=0)/\∀c,c∈ d->h<c->r c=0
 | [],[],_,_,_,i,r,h,e,_=>by simp at e
 |s :: S,k :: d,lo,f,⟨h1,h2,h3,h4,h5⟩,i,r,h,e,e'=>by
  match i,e,e' with
  |0,e,e'=>
   simp at e e';subst e;subst e';refine⟨h2,h3,fun c a b=>?_⟩;rcases List.mem_cons.1 a with rfl|a
   . omega
   . exact h4 c a
  |i+1,e,e'=>
   obtain⟨g,j,l⟩:=h5.at i r h (by simpa using e) (by simpa using e');refine⟨g,j,fun c a b=>?_⟩;rcases List.mem_cons.1 a with rfl|a
   . have:=(h5.ech.head h (mO (by simpa using e'))).1
     omega
   . exact l c a b
 | [],_ :: _,_,_,h,_,_,_,_,_=>h.elim
 |r :: S,[],_,_,h,_,_,_,_,_=>h.elim
theorem Ech.full{W:Nat}{S:List Vec}{a:Vy}(h:Ech 0 W S a)(b:∀x,Null W S x->∀c,c<W->x c=0):a.length=W:=by
 apply bC;intro d;have e:=h.count;obtain⟨c,_,c2,c3⟩:=h.hole (by omega);obtain⟨x,x1,x2⟩:=h.solve W (fun i=>if i=c then 1 else 0) lZ;have:=b x x2 c c2;rw[x1 c c3,if_pos rfl] at this;revert this;decide
def wider(wide:Nat)(r:Vec)(v:Rat):Vec:=fun c=>if c=wide then v else r c
theorem Qr5(wide:Nat)(r:Vec)(v:Rat)(y:Vec):dot (wide+1) (wider wide r v) y=dot wide r y+v*y wide:=by
 simp only[dot];rw[Qac wide (wider wide r v) y r y (fun c a=>by unfold wider;rw[if_neg (by omega)])];unfold wider;rw[if_pos rfl]
def Sol(wide:Nat)(M:List Vec)(b:List Rat)(x:Vec):Prop:=∀(i:Nat) (r:Vec) (v:Rat),M[i]?=some r->b[i]?=some v->dot wide r x=v
theorem sol_null{wide:Nat}{M:List Vec}{b:List Rat}{x:Vec}:Sol wide M b x↔Null (wide+1) (List.zipWith (wider wide) M b) (wider wide x (-1)):=by
 have e:∀(r:Vec) (v:Rat),dot (wide+1) (wider wide r v) (wider wide x (-1))=dot wide r x - v:=fun r v=>by
  rw[Qr5,Qac wide r (wider wide x (-1)) r x (fun c g=>by unfold wider;rw[if_neg (by omega)])];unfold wider;rw[if_pos rfl];grind
 constructor
 .
  intro h r d;obtain⟨i,a⟩:=List.mem_iff_getElem?.1 d;rw[List.getElem?_zipWith] at a
  match hm:M[i]?,hb:b[i]?,a with
  |some m,some v,a=>
   simp at a;subst a;rw[e,h i m v hm hb];grind
  |none,_,a=>simp at a
  |some m,none,a=>simp at a
 .
  intro h i r v d f;have:=h (wider wide r v) (List.mem_iff_getElem?.2 ⟨i,by rw[List.getElem?_zipWith,d,f]⟩);rw[e] at this;grind
theorem Qj6{wide:Nat}{M:List Vec}{b:List Rat}{S:List Vec}{d:Vy}(h:Ech 0 (wide+1) S d)(e:∀x,Null (wide+1) (List.zipWith (wider wide) M b) x↔Null (wide+1) S x)(f:wide∈ d)(x:Vec):¬Sol wide M b x:=by
 intro g;have i:=(e _).1 (sol_null.1 g);obtain⟨r,j,m,k⟩:=h.row wide f;have a:=i r j;rw[Qef (wide+1) r _ wide (by omega) (fun c n l=>by rw[k c (by omega)];grind)] at a;unfold wider at a;rw[if_pos rfl] at a;grind
theorem Qj7{wide:Nat}{M:List Vec}{b:List Rat}{S:List Vec}{d:Vy}(h:Ech 0 (wide+1) S d)(k:∀x,Null (wide+1) (List.zipWith (wider wide) M b) x↔Null (wide+1) S x)(j:wide ∉ d)(hl:d.length<wide):
 ∃x y:Vec,Sol wide M b x/\Sol wide M b y/\∃c,c<wide/\x c≠y c:=by
 obtain⟨c,_,c2,c3⟩:=(h.last (Nat.zero_le _) j).hole (by omega);have a:∀f:Vec,∃x:Vec,(∀i,i ∉ d->i≠wide->x i=f i)/\Sol wide M b x:=fun f=>by
  obtain⟨y,y1,y2⟩:=h.solve (wide+1) (wider wide f (-1)) lZ;refine⟨y,fun i l g=>?_,sol_null.2 ?_⟩
  . rw[y1 i l];unfold wider;rw[if_neg g]
  .
   rw[k];have e:wider wide y (-1)=y:=by
    funext i;unfold wider;by_cases e:i=wide
    .
     subst e;rw[if_pos rfl,y1 i j];unfold wider;rw[if_pos rfl]
    . rw[if_neg e]
   rw[e];exact y2
 obtain⟨x,x1,x2⟩:=a (fun _=>0);obtain⟨y,y1,y2⟩:=a (fun _=>1);refine⟨x,y,x2,y2,c,c2,?_⟩;rw[x1 c c3 (by omega),y1 c c3 (by omega)];decide
theorem Qj8{wide:Nat}{M:List Vec}{b:List Rat}{S:List Vec}{a:Vy}(h:Ech 0 (wide+1) S a)(t:∀x,Null (wide+1) (List.zipWith (wider wide) M b) x↔Null (wide+1) S x)(v:wide ∉ a)(hl:¬a.length<wide):
 a.length=wide/\(∀i h:Nat,a[i]?=some h->h=i)/\∀x:Vec,Sol wide M b x↔∀(i:Nat) (r:Vec),(cln S a)[i]?=some r->x i=r wide:=by
 have o:=h.last (Nat.zero_le _) v;have w:=o.count;have j:a.length=wide:=by omega
 have d:∀i h:Nat,a[i]?=some h->h=i:=fun i k e=>by have:=o.all (by omega) i k e;omega
 refine⟨j,d,fun x=>?_⟩;obtain⟨k1,k2⟩:=Qco (wide+1) h;rw[sol_null,t,<-k2];have p:∀(i:Nat) (r:Vec),(cln S a)[i]?=some r->dot (wide+1) r (wider wide x (-1))=x i - r wide:=fun i r f=>by
  have l:i<wide:=by
   have m:=(gZ f).1;rw[Qeg S a h.len,h.len] at m;omega
  obtain⟨g,q⟩:∃g,a[i]?=some g:=⟨a[i]'(by omega),gE (by omega)⟩;obtain rfl:=d i g q;obtain⟨y,z,A⟩:=k1.at _ r _ f q;simp only[dot];rw[Qef wide r _ g l (fun c w B=>?_),y]
  .
   unfold wider;rw[if_pos rfl,if_neg (by omega)];grind
  .
   have:r c=0:=by
    rcases Nat.lt_or_ge c g with m|m
    . exact z c m
    .
     refine A c ?_ (by omega);obtain⟨u,s⟩:∃u,a[c]?=some u:=⟨a[c]'(by omega),gE (by omega)⟩;obtain rfl:=d c u s;exact mO s
   rw[this];grind
 constructor
 .
  intro n i r f;have:=n r (mO f);rw[p i r f] at this;grind
 .
  intro n r f;obtain⟨i,l⟩:=List.mem_iff_getElem?.1 f;rw[p i r l,n i r l];grind
namespace Sg
theorem Qmk:∀(M N:Nat) (f:Nat→Nat),M<N→(∀n,n<N→f n<M)→∃a b,a<b∧b<N∧f a=f b
 |0,N,f,h,hf=>absurd (hf 0 (by omega)) (by omega)
 |M+1,0,f,h,hf=>absurd h (by omega)
 |M+1,N+1,f,h,hf=>by
  by_cases i:∃a,a<N∧f a=f N
  · obtain⟨a,j,e⟩:=i
    exact⟨a,N,j,by omega,e⟩
  ·
   have c:∀n,n<N→f n≠f N:=fun n d e=>i ⟨n,d,e⟩
   obtain⟨a,b,g,k,e⟩:=Qmk M N (fun n=>if f N<f n then f n - 1 else f n) (by omega) (fun n d=>by
    have l:=hf n (by omega);have m:=hf N (by omega);have o:=c n d
    show (if f N<f n then f n - 1 else f n)<M
    split<;>omega)
   refine⟨a,b,g,by omega,?_⟩;have l:=c a (by omega);have m:=c b k
   split at e<;>split at e<;>omega
def isum:Nat→(Nat→Int)→Int
 |0,_=>0
 |n+1,f=>isum n f+f n
theorem Qml:∀(n:Nat) (f g:Nat→Int),isum n (fun j=>f j - g j)=isum n f - isum n g
 |0,_,_=>by simp[isum]
 |n+1,f,g=>by simp only[isum,Qml n f g];omega
theorem Qmm:∀(n:Nat) (f g:Nat→Int),(∀j,j<n→f j=g j)→isum n f=isum n g
 |0,_,_,_=>rfl
 |n+1,f,g,h=>by simp only[isum];rw[Qmm n f g (fun j a=>h j (by omega)),h n (by omega)]
theorem isum_le:∀(n:Nat) (f:Nat→Int) (l u:Int),(∀j,j<n→l≤f j∧f j≤u)→n*l≤isum n f∧isum n f≤n*u
 |0,_,_,_,_=>by simp[isum]
 |n+1,f,l,u,h=>by
  have c:=isum_le n f l u (fun j d=>h j (by omega));have e:=h n (by omega);simp only[isum];have a:((n+1:Nat):Int)*l=n*l+l:=by rw[Int.natCast_add,Int.add_mul];simp
  have b:((n+1:Nat):Int)*u=n*u+u:=by rw[Int.natCast_add,Int.add_mul];simp
  rw[a,b];omega
def dig(B n j:Nat):Nat:=n / B ^ j % B
theorem Qhf{B:Nat}(hB:0<B)(n j:Nat):dig B n j<B:=Nat.mod_lt _ hB
theorem Qmn{B:Nat}(hB:0<B):∀(k m n:Nat),m<B ^ k→n<B ^ k→(∀j,j<k→dig B m j=dig B n j)→m=n
 |0,m,n,hm,hn,_=>by simp at hm hn;omega
 |k+1,m,n,hm,hn,h=>by
  have a:m % B=n % B:=by have:=h 0 (by omega);simpa [dig] using this
  have b:=Qmn hB k (m / B) (n / B) (by rw[Nat.div_lt_iff_lt_mul hB];rwa [Nat.pow_succ] at hm) (by rw[Nat.div_lt_iff_lt_mul hB];rwa [Nat.pow_succ] at hn) (fun j c=>by
   have:=h (j+1) (by omega);simp only[dig] at this ⊢;rw[Nat.div_div_eq_div_mul,Nat.div_div_eq_div_mul,←Nat.pow_succ']
   exact this)
  rw[←Nat.div_add_mod m B,←Nat.div_add_mod n B,a,b]
def code(D:Nat)(v:Nat→Nat):Nat→Nat
 |0=>0
 |k+1=>code D v k+v k*D ^ k
theorem Qe0{D:Nat}{v:Nat→Nat}:∀(k:Nat),(∀i,i<k→v i<D)→code D v k<D ^ k
 |0,_=>by simp[code]
 |k+1,h=>by
  have b:=Qe0 k (fun i c=>h i (by omega));have a:=h k (by omega);simp only[code,Nat.pow_succ];have d:v k*D ^ k+D ^ k≤D ^ k*D:=by
   rw[Nat.mul_comm (D ^ k) D,←Nat.succ_mul];exact Nat.mul_le_mul_right _ a
  omega
theorem Qmo{D:Nat}{v u:Nat→Nat}:∀(k:Nat),(∀i,i<k→v i<D)→(∀i,i<k→u i<D)→code D v k=code D u k→∀i,i<k→v i=u i
 |0,_,_,_,i,a=>absurd a (by omega)
 |k+1,hv,hu,e,i,a=>by
  have d:=Qe0 k (fun i a=>hv i (by omega));have f:=Qe0 k (fun i a=>hu i (by omega));simp only[code] at e;have c:v k=u k:=by
   have g:(code D v k+v k*D ^ k) / D ^ k=v k:=by
    rw[Nat.add_mul_div_right _ _ (by omega),Nat.div_eq_of_lt d,Nat.zero_add]
   have h:(code D u k+u k*D ^ k) / D ^ k=u k:=by
    rw[Nat.add_mul_div_right _ _ (by omega),Nat.div_eq_of_lt f,Nat.zero_add]
   rw[←g,e,h]
  rw[c] at e;by_cases b:i=k
  · rw[b];exact c
  · exact Qmo k (fun i a=>hv i (by omega)) (fun i a=>hu i (by omega)) (by omega) i (by omega)
theorem Qw4{a B:Nat}{z:Int}{x:Nat}(h: -(a:Int)≤z∧z≤a)(b:x≤B): -((a*B:Nat):Int)≤z*x∧z*x≤((a*B:Nat):Int):=by
 have c:z.natAbs≤a:=by omega
 have d:(z*x).natAbs≤a*B:=by
  rw[Int.natAbs_mul,Int.natAbs_natCast];exact Nat.mul_le_mul c b
 omega
theorem siegel(k a:Nat)(s:0<a)(A:Nat→Nat→Int)(t:∀i j,i<k→j<k+1→ -(a:Int)≤A i j∧A i j≤a):
 ∃y:Nat→Int,(∃j,j<k+1∧y j≠0)∧(∀i,i<k→isum (k+1) (fun j=>A i j*y j)=0)∧∀j,(y j).natAbs≤(2*((k+1)*a)) ^ k:=by
 obtain⟨E,d⟩:∃E,2*((k+1)*a)=E:=⟨_,rfl⟩;have u:0<E:=by rw[←d];exact Nat.mul_pos (by omega) (Nat.mul_pos (by omega) s)
 rw[d];obtain⟨B,hB⟩:∃B,E ^ k=B:=⟨_,rfl⟩;rw[hB];have c:0<B+1:=by omega
 obtain⟨H,o⟩:∃H,(k+1)*(a*B)=H:=⟨_,rfl⟩;have v:E*B=2*H:=by rw[←d,←o,Nat.mul_assoc,Nat.mul_assoc]
 have f:=fun n i b=>by
  have:=isum_le (k+1) (fun j=>A i j*(dig (B+1) n j:Int)) (-((a*B:Nat):Int)) ((a*B:Nat):Int) (fun j g=>Qw4 (t i j b g) (by have:=Qhf c n j;omega));rw[Int.mul_neg,←Int.natCast_mul,o] at this;exact this
 have h:∀n i,i<k→(isum (k+1) (fun j=>A i j*(dig (B+1) n j:Int))+H).toNat<E*B+1:=fun n i b=>by
  have:=f n i b;omega
 obtain⟨m,n,w,x,e⟩:=Qmk ((E*B+1) ^ k) ((B+1) ^ (k+1)) (fun n=>code (E*B+1) (fun i=>(isum (k+1) (fun j=>A i j*(dig (B+1) n j:Int))+H).toNat) k)
  (by
    have l:(E*B+1) ^ k≤(E*(B+1)) ^ k:=Nat.pow_le_pow_left (by rw[Nat.mul_add];omega) k;rw[Nat.mul_pow,hB] at l;have p:0<(B+1) ^ k:=Nat.pow_pos c;have q:(B+1) ^ k*(B+1)=B*(B+1) ^ k+(B+1) ^ k:=by rw[Nat.mul_add,Nat.mul_one,Nat.mul_comm]
    rw[Nat.pow_succ,q]
    omega)
  (fun n _=>Qe0 k (fun i b=>h n i b))
 have z:=Qmo k (fun i b=>h m i b) (fun i b=>h n i b) e;refine⟨fun j=>(dig (B+1) m j:Int) - (dig (B+1) n j:Int),?_,fun i b=>?_,fun j=>?_⟩
 ·
  by_cases r:∃j,j<k+1∧(dig (B+1) m j:Int) - (dig (B+1) n j:Int)≠0
  · exact r
  ·
   exfalso
   have:=Qmn c (k+1) m n (by omega) x (fun j g=>by
    by_cases C:(dig (B+1) m j:Int) - (dig (B+1) n j:Int)=0
    · omega
    · exact absurd ⟨j,g,C⟩ r)
   omega
 ·
  have l:=z i b;have p:=f m i b;have q:=f n i b;have D:=Qml (k+1) (fun j=>A i j*(dig (B+1) m j:Int)) (fun j=>A i j*(dig (B+1) n j:Int));rw[Qmm (k+1) _ (fun j=>A i j*(dig (B+1) m j:Int) - A i j*(dig (B+1) n j:Int)) (fun j _=>Int.mul_sub _ _ _),D];omega
 ·
  have l:=Qhf c m j;have p:=Qhf c n j
  show ((dig (B+1) m j:Int) - (dig (B+1) n j:Int)).natAbs≤B
  omega
end Sg
def vec(l:List Rat):Vec:=fun i=>l.getD i 0
def cornerM:List Vec:=[vec [1,0,0,1,0,0],vec [0,0,1,0,1,0],vec [-1,-1,0,0,0,0],vec [0,1,0,0,0,1],vec [0,1,0,0,0,0],vec [0,-1,-1,0,0,0]]
theorem Qh0(x:Vec):dot 6 (vec [1,0,0,1,0,0]) x=x 0+x 3/\dot 6 (vec [0,0,1,0,1,0]) x=x 2+x 4/\dot 6 (vec [-1,-1,0,0,0,0]) x= - x 0 - x 1/\dot 6 (vec [0,1,0,0,0,1]) x=x 1+x 5/\dot 6 (vec [0,1,0,0,0,0]) x=x 1/\dot 6 (vec [0,-1,-1,0,0,0]) x= - x 1 - x 2:=by
 simp only[dot,vec,List.getD_cons_zero,List.getD_cons_succ];refine⟨?_,?_,?_,?_,?_,?_⟩<;>grind
theorem Qok(x:Vec)(h:Null 6 cornerM x)(c:Nat)(a:c<6):x c=0:=by
 obtain⟨d0,d1,d2,d3,d4,d5⟩:=Qh0 x;have b:=h (vec [1,0,0,1,0,0]) (by simp[cornerM]);have d:=h (vec [0,0,1,0,1,0]) (by simp[cornerM]);have f:=h (vec [-1,-1,0,0,0,0]) (by simp[cornerM]);have g:=h (vec [0,1,0,0,0,1]) (by simp[cornerM]);have i:=h (vec [0,1,0,0,0,0]) (by simp[cornerM]);have j:=h (vec [0,-1,-1,0,0,0]) (by simp[cornerM]);have e:c=0∨c=1∨c=2∨c=3∨c=4∨c=5:=by omega
 rcases e with rfl|rfl|rfl|rfl|rfl|rfl<;>grind
theorem Qfo(x:Vec):Sol 6 cornerM [0,0,0,0,-1,0] x↔x 0=1/\x 1= -1/\x 2=1/\x 3= -1/\x 4= -1/\x 5=1:=by
 obtain⟨d0,d1,d2,d3,d4,d5⟩:=Qh0 x;constructor
 .
  intro h;have c:=h 0 _ _ rfl rfl;have d:=h 1 _ _ rfl rfl;have e:=h 2 _ _ rfl rfl;have f:=h 3 _ _ rfl rfl;have g:=h 4 _ _ rfl rfl;have j:=h 5 _ _ rfl rfl;grind
 .
  rintro⟨k,l,m,n,o,p⟩ i r v a b
  match i,a,b with
  |0,a,b=>cases a;cases b;grind
  |1,a,b=>cases a;cases b;grind
  |2,a,b=>cases a;cases b;grind
  |3,a,b=>cases a;cases b;grind
  |4,a,b=>cases a;cases b;grind
  |5,a,b=>cases a;cases b;grind
  |i+6,a,b=>simp[cornerM] at a
structure Fr (w w':Vz):Prop where
 size:w.heap.size<=w'.heap.size
 keep:∀b i u,w.cell? ⟨b,i,none⟩=some u->((∃x,u=Value.bool x)∨∃n,u=Value.int .u64 n)->w'.heap[b]?=w.heap[b]?
theorem Fr.cell{w w':Vz}(h:Fr w w'){b i:Nat}{u:Value}(a:w.cell? ⟨b,i,none⟩=some u)(hk:(∃x,u=Value.bool x)∨∃n,u=Value.int .u64 n)(j:Nat):w'.cell? ⟨b,j,none⟩=w.cell? ⟨b,j,none⟩:=
 World.cell?_of_block (w:=w) (h.keep b i u a hk)
theorem Fr.trans{u v w:Vz}(h:Fr u v)(k:Fr v w):Fr u w:=
 ⟨Nat.le_trans h.size k.size,fun b i x a hk=>(k.keep b i x ((h.cell a hk i).trans a) hk).trans (h.keep b i x a hk)⟩
theorem Fr.of_below{w w':Vz}(h:Bl w w'):Fr w w':=⟨h.size,fun b i u a _=>h.block b (World.block_lt_of_cell? _ _ a)⟩
def Plain(C:Vw):Prop:=∀u,u∈ C.toList->(∀x,u≠Value.bool x)/\∀n,u≠Value.int .u64 n
theorem Fr.of_only{w w':Vz}{g:Nat}{t:Vr}{C:Vw}(c:Only g w w')(d:SB w g t C)(hC:Plain C):Fr w w':=by
 refine⟨c.size,fun b i u a hk=>c.block b (World.block_lt_of_cell? _ _ a) ?_⟩;rintro rfl;rw[d.cell] at a;obtain⟨f,h⟩:=hC u (mO (by rw[Array.getElem?_toList];exact a));rcases hk with ⟨x,e⟩|⟨n,e⟩
 . exact f x e
 . exact h n e
theorem Row.fr{w w':Vz}{a:Vx}{c:Nat}{l:Vy}(h:Row .u64 w a c l)(d:Fr w w'):Row .u64 w' a c l:=by
 refine⟨h.fit,?_,fun i j=>?_⟩
 .
  rcases h.shape with e|⟨f,b,rfl,k⟩
  . exact .inl e
  . exact .inr ⟨f,b,rfl,by have:=d.size;omega⟩
 . obtain⟨f,b,e,k,g⟩:=h.cell i j
   exact⟨f,b,e,by have:=d.size;omega,(d.cell g (.inr ⟨_,rfl⟩) _).trans g⟩
theorem NumV.fr{w w':Vz}{a:Vx}{n c x:Nat}(h:NumV w a n c x)(b:Fr w w'):NumV w' a n c x:=by
 obtain⟨l,hl,h⟩:=h;exact⟨l,hl,h.row.fr b,h.num,h.short⟩
theorem FracV.fr{w w':Vz}{v:Value}{q:Rat}(h:FracV w v q)(g:Fr w w'):FracV w' v q:=by
 obtain⟨neg,a,n,c,b,m,d,e,h⟩:=h;refine⟨neg,a,n,c,b,m,d,e,h.neg,h.top.fr g,?_⟩;rcases h.low with f|⟨f,i⟩
 . exact .inl f
 . exact .inr ⟨f,i.fr g⟩
theorem QRow.fr{w w':Vz}{a:Vx}{c:Nat}{f:List FE}(h:QRow w a c f)(g:Fr w w'):QRow w' a c f:=by
 refine⟨⟨h.row.fit,⟨fun j u l=>?_⟩⟩,fun t m=>⟨(h.ts t m).1.fr g,(h.ts t m).2⟩⟩;obtain⟨b,i,o,v,A⟩:=h.row.row.cell j u l;have k:=(gZ l).1;rw[Qay (sz:=3) (fun _=>rfl)] at k;obtain⟨e,p⟩:∃e,f[j / 3]?=some e:=⟨f[j / 3]'(by omega),gE (by omega)⟩;obtain⟨B,q,d,_,r,_⟩:=h.at p;rw[o] at d;cases d;obtain⟨n,x,y,z,C,D,E,s,_⟩:=(h.get p).1;simp at s;rw[s.1] at r;refine⟨b,i,o,Nat.lt_of_lt_of_le v g.size,?_⟩;rw[g.cell r (.inl ⟨_,rfl⟩)];exact A
structure Grow (w:Vz) (B:Nat) (e:Vr) (sz:Nat) (K:Value->Prop) (v:Value) (n:Nat) (xs:Vv):Prop where
 own:w.ownsRow B e sz v n xs
 all:∀g,v.ownBlock=some g->∃C,w.heap[g]?=some (.cells C e (0,0))/\∀u,u∈ C.toList->K u
theorem Grow.nil(w:Vz)(B:Nat)(e:Vr)(sz:Nat)(K:Value->Prop):Grow w B e sz K (.slice none 0 0) 0 []:=⟨World.ownsRow_nil w B e sz,fun g a=>by simp[Value.ownBlock] at a⟩
theorem Grow.keep{w w':Vz}{B:Nat}{e:Vr}{sz:Nat}{K:Value->Prop}{v:Value}{n:Nat}{xs:Vv}(h:Grow w B e sz K v n xs)(hk:∀g,v.ownBlock=some g->w'.heap[g]?=w.heap[g]?):Grow w' B e sz K v n xs:=by
 refine⟨⟨h.own.1,?_⟩,fun g a=>?_⟩
 .
  rcases h.own.2 with b|⟨g,c,d,rfl,i,a,f⟩
  . exact .inl b
  . exact .inr ⟨g,c,d,rfl,i,by rw[hk g rfl];exact a,f⟩
 . obtain⟨C,b,f⟩:=h.all g a
   exact⟨C,by rw[hk g a];exact b,f⟩
theorem Qme{z:Vw}{n:Nat}{u:Value}(a:u∈ (Builtin.zeroCells z n).toList):u∈ z.toList:=by
 simp[Builtin.zeroCells] at a;obtain⟨j,b,e⟩:=a;have c:0<z.size:=by
  rcases Nat.eq_zero_or_pos z.size with h|h
  . rw[h] at b;omega
  . exact h
 rw[getElem!_pos z (j % z.size) (Nat.mod_lt _ c)] at e;rw[<-e];exact Array.getElem_mem_toList _
theorem Grow.app{P:Program}{w:Vz}{B:Nat}{t ty e:Vr}{i:TypeInfo}{z:Value}{sz bytes:Nat}{K:Value->Prop}{v:Value}{n:Nat}{xs:Vv}(h:Grow w B e sz K v n xs)
 (T:P.underlying t=some (.slice e)) (U:P.info? e=some i) (V:i.zero=some z) (f:i.size=sz) (r:i.bytes=bytes) (W:z.cells.size=sz) (X:0<sz) (J:∀u,u∈ z.cells.toList->K u)
 (a:Addr) (m c:Nat) (b:Vv) (hl:b.length=m*sz) (k:∀j u,b[j]?=some u->w.cell? (a.add j)=some u) (h1:∀u,u∈ b->u.oneCell'=true) (Y:∀u,u∈ b->K u)
 (Z:n+m<=1048576) (L:bytes<=1000) (s:B<=w.heap.size):
 ∃I w',(Builtin.append_ #[t,t] ty #[v,.slice (some a) m c]).run P w=.ok I w'/\Grow w' B e sz K I (n+m) (xs++b)/\w.grownBy w' v.ownBlock/\(I.ownBlock=v.ownBlock∨I.ownBlock=some w.heap.size):=by
 have aa:=Nat.mul_le_mul Z L;obtain⟨I,w',x,M,y,N,ab⟩:=run_append_own_at (P:=P) w B t ty e i z sz bytes T U V f r W X v n xs h.own a m c b hl k h1 (by unfold maxLen;omega) (by omega) s;refine⟨I,w',x,⟨M,?_⟩,y,ab⟩;have p:b.length=m*i.size:=by rw[f];exact hl
 have ad:xs.length=n*i.size:=by rw[f];exact h.own.1
 have q:∀(C:Vw) (O:Vz) (n l:Nat),(∀u,u∈ C.toList->K u)->∀g,(Value.slice (some ⟨O.heap.size,0,none⟩) n l).ownBlock=some g->∃D,(O.drew.alloc (.cells C e)).heap[g]?=some (.cells D e (0,0))/\∀u,u∈ D.toList->K u:=fun C O n l hC g A=>by
  have e:O.heap.size=g:=by simpa [Value.ownBlock] using A
  subst e;exact⟨C,heap_alloc_new O.drew _,hC⟩
 rcases h.own.2 with ⟨rfl,rfl⟩|⟨g,l,E,rfl,ag,A,ah,ai,ae,F⟩
 .
  by_cases hm:m=0
  . rw[N.2 ⟨rfl,hm⟩]
    exact fun g A=>by simp[Value.ownBlock] at A
  rw[run_append_nil (P:=P) w t ty e i z T U V a m c b p k (by omega) (by omega) (by rw[r];simp only[Nat.zero_add] at aa;omega)] at x;injection x with Q R
  subst Q;subst R;refine q _ w _ _ fun u d=>?_
  simp only[Array.toList_append,List.mem_append] at d;rcases d with d|d
  . exact Y u d
  . exact J u (Qme d)
 .
  obtain⟨C,hC,G⟩:=h.all g rfl;rw[A] at hC;injection hC with hC
  injection hC with hC _ _
  subst hC;by_cases o:n+m<=l
  .
   have S:n*i.size+b.length<=E.size:=by rw[p,ae,f,<-Nat.add_mul];exact Nat.mul_le_mul_right _ o
   rw[run_append_room (P:=P) w t ty e i T U g n l E A a m c b p k h1 o S] at x;injection x with Q R
   subst Q;subst R;intro g' af;have e:g=g':=by simpa [Value.ownBlock] using af
   subst e;refine⟨_,setRow_heap w g E _ e _ A,fun u d=>?_⟩;simp only[List.toList_toArray,List.mem_append] at d;rcases d with (d|d)|d
   . exact G u (List.mem_of_mem_take d)
   . exact Y u d
   . exact G u (List.mem_of_mem_drop d)
  .
   have H:=h.own.cells (g:=g) rfl;rw[run_append_grow (P:=P) w t ty e i z T U V ⟨g,0,none⟩ n l xs ad H a m c b p k (by omega) (by omega) (by rw[r];exact growslice_fits (by omega) (by omega))] at x;injection x with Q R
   subst Q;subst R;refine q _ w _ _ fun u d=>?_
   simp only[Array.toList_append,List.mem_append] at d;rcases d with (d|d)|d
   . rw[<-F] at d
     exact G u (List.mem_of_mem_take d)
   . exact Y u d
   . exact J u (Qme d)
def MR.val(r:MR):Value:=.slice r.a r.ts.length r.cap
theorem Qez(rs:List MR):rs.flatMap MR.cells=rs.map MR.val:=by
 induction rs with
 |nil=>rfl
 |cons r l a=>rw[List.flatMap_cons,a];rfl
def IsSl(u:Value):Prop:=∃a n c,u=Value.slice a n c
theorem Qv9(rs:List MR):∀u,u∈ rs.map MR.val->IsSl u:=fun u a=>by
 obtain⟨r,_,rfl⟩:=List.mem_map.1 a;exact⟨_,_,_,rfl⟩
theorem Qwa(rs:List MR):∀u,u∈ rs.map MR.val->u.oneCell'=true:=fun u a=>by
 obtain⟨r,_,rfl⟩:=List.mem_map.1 a;rfl
theorem IsSl.plain{C:Vw}(h:∀u,u∈ C.toList->IsSl u):Plain C:=fun u b=>by
 obtain⟨a,n,c,rfl⟩:=h u b;exact⟨fun x=>by simp,fun n=>by simp⟩
def FE.re(K:Nat)(t:FE):FE:=⟨t.x,t.y,t.z,t.q,K⟩
theorem Qwb(K:Nat)(a:List FE):(a.map (FE.re K)).flatMap FE.cells=a.flatMap FE.cells:=by
 induction a with
 |nil=>rfl
 |cons t l b=>rw[List.map_cons,List.flatMap_cons,b,List.flatMap_cons];rfl
theorem QRow.re{w:Vz}{a:Vx}{b K:Nat}{c:List FE}(h:QRow w a b c)(e:0<K)(f:∀t,t∈ c->Fits t.q K):QRow w a b (c.map (FE.re K)):=by
 refine⟨⟨by rw[List.length_map];exact h.row.fit,by rw[Qwb];exact h.row.row⟩,fun t g=>?_⟩;obtain⟨u,d,rfl⟩:=List.mem_map.1 g;exact⟨(h.ts u d).1,f u d,e⟩
structure MOk (w:Vz) (W K:Nat) (r:MR):Prop where
 row:QRow w r.a r.cap r.ts
 len:r.ts.length=W
 sz:∀t,t∈ r.ts->t.k<=K
theorem MOk.fr{w w':Vz}{W K:Nat}{r:MR}(h:MOk w W K r)(a:Fr w w'):MOk w' W K r:=⟨h.row.fr a,h.len,h.sz⟩
def Oks(w:Vz)(W K:Nat)(rs:List MR):Prop:=∀r,r∈ rs->MOk w W K r
theorem Oks.fr{w w':Vz}{W K:Nat}{rs:List MR}(h:Oks w W K rs)(a:Fr w w'):Oks w' W K rs:=fun r b=>(h r b).fr a
theorem MR.q_beyond{r:MR}{i:Nat}(h:r.ts.length<=i):r.q i=0:=by
 unfold MR.q;rw[List.getD_eq_getElem?_getD,List.getElem?_eq_none (by simpa using h)];rfl
theorem qAt_q(r:MR):qAt r.ts=r.q:=rfl
theorem MOk.made{w:Vz}{g W K B:Nat}{us:List FE}{r:MR}{f:Nat->Rat->Rat}{v:Vec}(o:QBlk w g us)(p:r.ts.length=W)(m:Made f B r.ts us r.ts.length)(s:0<K)(x:∀i,i<W->f i (r.q i)=v i)(y:∀i,W<=i->v i=0)(b:∀i,i<W->Fits (v i) K):
 ∃k:MR,k.val=.slice (some ⟨g,0,none⟩) W W/\MOk w W K k/\k.q=v:=by
 have a:us.length=W:=by rw[m.1];exact p
 have c:∀i u,us[i]?=some u->u.q=v i:=fun i u d=>by
  have j:i<W:=by rw[<-a];exact(gZ d).1
  obtain⟨e,n⟩:∃e,r.ts[i]?=some e:=⟨r.ts[i]'(by omega),gE (by omega)⟩;obtain⟨C,z,A,_⟩:=m.2 i e (by omega) n;obtain rfl:=Option.some.inj (d.symm.trans z);rw[A,<-MR.q_at n];exact x i j
 refine⟨⟨some ⟨g,0,none⟩,us.length,us.map (FE.re K)⟩,?_,⟨?_,by simp[a],fun t l=>?_⟩,?_⟩
 . simp[MR.val,a]
 .
  refine o.row.re s fun t l=>?_
  obtain⟨i,j⟩:=List.mem_iff_getElem?.1 l;rw[c i t j];exact b i (by rw[<-a];exact(gZ j).1)
 . obtain⟨u,_,rfl⟩:=List.mem_map.1 l
   exact Nat.le_refl _
 .
  funext i;rcases Nat.lt_or_ge i W with h|h
  .
   obtain⟨u,d⟩:∃u,us[i]?=some u:=⟨us[i]'(by omega),gE (by omega)⟩;rw[MR.q_at (e:=FE.re K u) (by simp[d])];exact c i u d
  . rw[MR.q_beyond (by simpa [a] using h),y i h]
theorem Qmf:∀u,u∈ (Value.slice none 0 0).cells.toList->IsSl u:=fun u a=>by
 have e:(Value.slice none 0 0).cells=#[.slice none 0 0]:=by rfl
 rw[e] at a;obtain rfl:u=_:=by simpa using a
 exact⟨_,_,_,rfl⟩
theorem Grow.made(w:Vz)(e:Vr)(sz:Nat)(K:Value->Prop):Grow (w.alloc (.cells #[] e)) w.heap.size e sz K (.slice (some ⟨w.heap.size,0,none⟩) 0 0) 0 []:=
 ⟨World.ownsRow_made w #[] 0 lZ (Nat.zero_le _) (by simp),fun g a=>by
   have e:w.heap.size=g:=by simpa [Value.ownBlock] using a
   subst e
   exact⟨#[],SB.new w _ _,fun u b=>by simp at b⟩⟩
theorem Qwc(a:Vx)(f:Nat)(rs:List MR)(w:Vz)(h:ARow MR.cells w a f rs)(hl:rs.length<=1000):
 Calls prog 204 #[.slice a rs.length f] w fun e w'=>(∃v,e=.returned v/\Grow w' w.heap.size 98 1 IsSl v rs.length (rs.map MR.val))/\Below w.heap.size w w':=by
 obtain⟨J,t,g,m,hz2⟩:=info_parts Qct;have K:∀(w:Vz) (a:Vx) (n c n' x:Nat),(binOp .eql 148 (.slice a n c) (.slice none n' x)).run prog w=.ok (.bool a.isNone) w:=fun w a n c n' x=>Lib.run_eql_slice_nil w _ _ a n c n' x underlying148
 have H:=Hi h;clear h;cases a with
 |none=>
  have y:rs= []:=by
   cases rs with
   |nil=>rfl
   |cons r l=>
    obtain⟨b,z,e,_⟩:=H.o.at (sz:=1) (fun _=>rfl) (by decide) (i:=0) (e:=r) rfl;cases e
  subst y;clear t g m hz2;go_enter func204,ntmps204;go_wp2;go_ret;exact⟨⟨_,rfl,Grow.nil _ _ _ _ _⟩,Below.refl _ _⟩
 |some ad=>
  obtain⟨W,hW⟩:=nm (w.alloc (.cells #[] 98));have d:Bl w W:=by rw[<-hW];exact(Below.refl _ _).alloc lZ _
  have p:Grow W w.heap.size 98 1 IsSl (.slice (some ⟨w.heap.size,0,none⟩) 0 0) 0 []:=by rw[<-hW];exact Grow.made w _ _ _
  obtain⟨L,w',A,q,s,B⟩:=p.app (P:=prog) (ty:=148) underlying148 t g m hz2 rfl (by decide) Qmf ad rs.length f (rs.map MR.val) (by simp) (fun j u C=>by
   rw[<-Qez] at C;obtain⟨b,z,e,D,E⟩:=H.o.row.cell j u C;cases e;rw[Qas]
   exact ce d D E) (Qwa rs) (Qv9 rs) (by omega) (by decide) d.size
  rw[<-hW] at A;obtain⟨F,G,I⟩:=Ib A q (d.grown s d.size (fun k hk=>by simp[Value.ownBlock] at hk;omega));clear A q s B p d hW t g m hz2;go_enter func204,ntmps204;go_wp2_with (at_builtin;refine Qb7 _ rfl _ _ 148 148 rfl (.slice (some ⟨w.heap.size,0,none⟩) 0 0) (.slice (some ad) rs.length f) _ _ rfl rfl F.o ?_);go_wp2;go_ret;refine⟨⟨_,rfl,?_⟩,I.o⟩;have:=G.o;rw[Nat.zero_add,List.nil_append] at this;exact this
def layCells(C:Vw):Nat->List Value->Array Value
 |_,[]=>C
 |o,v :: r=>layCells (C.setIfInBounds o v) (o+1) r
theorem Qdk:∀(vs:Vv) (o:Nat) (C:Vw),(layCells C o vs).size=C.size
 | [],_,_=>rfl
 |v :: r,o,C=>by rw[layCells,Qdk r];simp
theorem Qhc:∀(vs:Vv) (o:Nat) (C:Vw) (i:Nat),o+vs.length<=C.size->(layCells C o vs)[i]?=if o<=i/\i<o+vs.length then vs[i - o]? else C[i]?
 | [],o,C,i,_=>by rw[if_neg (by simp only[List.length_nil];omega)];rfl
 |v :: r,o,C,i,h=>by
  simp only[List.length_cons] at h;rw[layCells,Qhc r (o+1) _ i (by simp;omega),Array.getElem?_setIfInBounds];by_cases a:i=o
  .
   subst a;rw[if_neg (by omega),if_pos rfl,if_pos (by omega),if_pos (by simp only[List.length_cons];omega)];simp
  .
   by_cases b:o+1<=i/\i<o+1+r.length
   . rw[if_pos b,if_pos (by simp only[List.length_cons];omega),show i - o=(i - (o+1))+1 by omega]
     simp
   . rw[if_neg b,if_neg (Ne.symm a),if_neg (by simp only[List.length_cons];omega)]
theorem SB.cells{t:Vr}{g:Nat}:∀(vs:Vv) (o:Nat) {w:Vz} {C:Vw},SB w g t C->SB (w.setCells g o vs) g t (layCells C o vs)/\Only g w (w.setCells g o vs)
 | [],_,w,_,h=>⟨h,Only.refl _ _⟩
 |v :: r,o,w,C,h=>by
  obtain⟨a,b⟩:=SB.cells r (o+1) (h.set o v);exact⟨a,((Only.refl g w).setCell o v).trans b⟩
theorem Qwd:∀w,(zeroValue 98).run prog w=.ok (.slice none 0 0) w:=by
 intro w;obtain⟨i,a,h⟩:=Option.map_eq_some_iff.1 Qct;simp only[Prod.mk.injEq] at h;simp[zeroValue,typeInfo,a,h.1]
theorem Qwe(g a c i j n:Nat)(C:Vw)(w:Vz)(D:SB w g 98 C)(q:a=0)(y:∀u,u∈ C.toList->IsSl u)(U:n<=c)(E:C.size=c)(z:c<=maxLen)(K:i<j)(V:j<=n):
 Calls prog 206 #[.slice (some ⟨g,a,none⟩) n c,.int .i64 i,.int .i64 j] w fun e w'=>e=.returned (.slice (some ⟨g,a,none⟩) (i+(n - j)) c)/\
  w'=(w.drew.setCells g (a+i*1) ((C.toList.take n).drop j)).setCells g (a+(i+(n - j))) (List.replicate (n - (i+(n - j))) (.slice none 0 0)):=by
 obtain⟨L,F,G,H,hz2⟩:=info_parts Qct;have J:c<=9223372036854775807:=by simpa [maxLen] using z
 have f:∀k,w.cell? ⟨g,a+k,none⟩=C[k]?:=fun k=>by rw[q,Nat.zero_add];exact D.cell k
 have l:∀k,w.frozen? ⟨g,a+k,none⟩=false:=fun k=>D.free _
 obtain⟨b,d⟩:∃b,b=(C.toList.take n).drop j:=⟨_,rfl⟩;have r:b.length=n - j:=by rw[d];simp;omega
 have s:∀t u,b[t]?=some u->C[j+t]?=some u:=fun t u p=>by
  have I:=(gZ p).1;rw[d,List.getElem?_drop,List.getElem?_take_of_lt (by omega),Array.getElem?_toList] at p;exact p
 obtain⟨A,W,B⟩:∃A:Addr,(if c=j then some (⟨g,a,none⟩:Addr) else some ⟨g,a+j,none⟩)=some A/\O (∀t u,b[t]?=some u->w.drew.cell? (A.add t)=some u):=by
  by_cases h:c=j
  .
   refine⟨⟨g,a,none⟩,by simp[h],Hi fun t u p=>?_⟩;have:=(gZ p).1;omega
  .
   refine⟨⟨g,a+j,none⟩,by simp[h],Hi fun t u p=>?_⟩;rw[Qas,Nat.add_assoc];exact(f (j+t)).trans (s t u p)
 have M:O (b.length=(n - j)*1):=Hi (by rw[Nat.mul_one];exact r);have N:O (∀u∈ b,u.oneCell'=true):=Hi fun u p=>by
  rw[d] at p;obtain⟨_,_,_,rfl⟩:=y u (List.mem_of_mem_take (List.mem_of_mem_drop p));rfl
 have P:O (∀t,t<b.length->(w.drew.cell? ⟨g,a+i*1+t,none⟩).isSome=true/\w.drew.frozen? ⟨g,a+i*1+t,none⟩=false):=Hi fun t I=>by
  rw[Nat.mul_one,Nat.add_assoc];refine⟨?_,l _⟩
  show (w.cell? _).isSome=true
  rw[f,Array.getElem?_eq_getElem (by omega)];rfl
 obtain⟨x,v⟩:∃x,x=w.drew.setCells g (a+i*1) b:=⟨_,rfl⟩;have m:SB x g 98 (layCells C (a+i*1) b):=by rw[v];exact(SB.cells b _ D.drew).1
 have Q:∀ty,(Builtin.clear_ #[148] ty #[.slice (some ⟨g,a+(i+(n - j)),none⟩) (n - (i+(n - j))) (c - (i+(n - j)))]).run prog x=.ok (.tuple #[]) (x.setCells g (a+(i+(n - j))) (List.replicate (n - (i+(n - j))) (.slice none 0 0))):=
  fun ty=>Lib.run_clear_slice x _ _ ty _ underlying148 Qwd rfl rfl g (a+(i+(n - j))) _ _ (by omega) (fun t I=>by
   rw[m.cell,Array.getElem?_eq_getElem (by rw[Qdk];omega)]
   rfl) (fun t I=>m.free _)
 obtain⟨hW,R⟩:=Ia v d;have S:i<=c:=by omega
 have T:j<=c:=by omega
 clear v m D s d r f l y G hz2 q E z;go_enter func206,ntmps206;go_wp2_with fail;go_region_law (refine step_append_room rfl (.tmp 22) (.tmp 25) 148 rfl 98 L 1 underlying148 F H g a i c (by simp[Act.eval,Act.put]) A (n - j) (c - j) b (by simp[Act.eval,Act.put]) M.o B.o N.o (by omega) P.o ?_;rw[<-hW.o]);go_wp2;go_ret;exact⟨rfl,by rw[<-R.o,<-hW.o]⟩
theorem Qwf(w:Vz)(B i j n:Nat)(v:Value)(xs:Vv)(h:Grow w B 98 1 IsSl v n xs)(G:j=i+1)(N:i<n):
 Calls prog 206 #[v,.int .i64 i,.int .i64 j] w fun e w'=>∃g q,v.ownBlock=some g/\q.ownBlock=some g/\e=.returned q/\Grow w' B 98 1 IsSl q (n - 1) (xs.eraseIdx i)/\Only g w w':=by
 obtain⟨l,m⟩:=h.own;rcases m with ⟨_,O⟩|⟨g,d,b,rfl,hB,r,s,o,f,a⟩
 . omega
 obtain⟨C,hC,c⟩:=h.all g rfl;rw[r] at hC;injection hC with hC
 injection hC with hC _ _
 subst hC;rw[Nat.mul_one] at f a l;refine(Qwe g 0 d i j n b w r rfl c s f o (by omega) (by omega)).mono ?_;rintro e w' ⟨rfl,rfl⟩;have H:i+(n - j)=n - 1:=by omega
 have I:n - (n - 1)=1:=by omega
 simp only[Nat.zero_add,Nat.mul_one,H,I,a];obtain⟨k1,k2⟩:=SB.cells (t:=98) (g:=g) (xs.drop j) i (w:=w.drew) (C:=b) r;obtain⟨D,J⟩:=SB.cells (List.replicate 1 (.slice none 0 0)) (n - 1) k1;have x:(xs.drop j).length=n - j:=by simp;omega
 have y:(layCells (layCells b i (xs.drop j)) (n - 1) (List.replicate 1 (.slice none 0 0))).size=d:=by rw[Qdk,Qdk];exact f
 have p:∀k,(layCells (layCells b i (xs.drop j)) (n - 1) (List.replicate 1 (.slice none 0 0)))[k]?=if n - 1<=k/\k<n - 1+1 then (List.replicate 1 (Value.slice none 0 0))[k - (n - 1)]? else if i<=k/\k<i+(n - j) then (xs.drop j)[k - i]? else b[k]?:=fun k=>by
  rw[Qhc _ _ _ _ (by rw[Qdk];simp;omega),Qhc _ _ _ _ (by omega),x];simp
 have z:∀k,k<n->b[k]?=xs[k]?:=fun k hk=>by rw[<-a,List.getElem?_take_of_lt hk,Array.getElem?_toList]
 refine⟨g,_,rfl,rfl,rfl,⟨⟨?_,.inr ⟨g,d,_,rfl,hB,D,by omega,o,by rw[Nat.mul_one];exact y,?_⟩⟩,fun K A=>?_⟩,?_⟩
 . rw[List.length_eraseIdx,if_pos (by omega),Nat.mul_one];omega
 .
  rw[Nat.mul_one];apply List.ext_getElem?;intro k;by_cases hk:k<n - 1
  .
   rw[List.getElem?_take_of_lt hk,Array.getElem?_toList,p k,if_neg (by omega),List.getElem?_eraseIdx];by_cases E:k<i
   . rw[if_neg (by omega),if_pos E]
     exact z k (by omega)
   .
    rw[if_pos (by omega),if_neg E,List.getElem?_drop]
    congr 1
    omega
  . rw[List.getElem?_eq_none (by rw[List.length_take];omega),List.getElem?_eq_none (by rw[List.length_eraseIdx,if_pos (by omega)];omega)]
 .
  have L:g=K:=by simpa [Value.ownBlock] using A
  subst L;refine⟨_,D,fun u M=>?_⟩;obtain⟨k,hk⟩:=List.mem_iff_getElem?.1 M;rw[Array.getElem?_toList,p k] at hk
  split at hk
  . obtain rfl:=List.eq_of_mem_replicate (mO hk)
    exact⟨_,_,_,rfl⟩
  .
   split at hk
   .
    have F:=List.mem_of_mem_drop (mO hk);rw[<-a] at F;exact c u (List.mem_of_mem_take F)
   . exact c u (mO (by rw[Array.getElem?_toList];exact hk))
 . have:=k2.trans J
   exact⟨this.os,this.tape,this.output,this.size,this.block⟩
def IsI(u:Value):Prop:=∃n:Int,u=Value.int .i64 n
def headsV(hs:Vy):List Value:=hs.map fun h=>Value.int .i64 (h:Nat)
theorem Qwg:∀u,u∈ (Value.int .i64 0).cells.toList->IsI u:=fun u b=>by
 have e:(Value.int .i64 0).cells=#[.int .i64 0]:=by rfl
 rw[e] at b;obtain rfl:u=_:=by simpa using b
 exact⟨_,rfl⟩
theorem IsI.plain{C:Vw}(h:∀u,u∈ C.toList->IsI u):Plain C:=fun u b=>by
 obtain⟨n,rfl⟩:=h u b;exact⟨fun x=>by simp,fun m=>by simp⟩
theorem Qwh:(prog.info? 3).map (fun i=>(i.zero,i.size,i.bytes))=some (some (.int .i64 0),1,8):=by kernel_rfl
theorem SB.unlike{w:Vz}{b d:Nat}{t e:Vr}{C f:Vw}(h:SB w b t C)(c:SB w d e f)(g:t≠e):b≠d:=by
 rintro rfl;unfold SB at h c;rw[h] at c;injection c with c
 injection c with _ c _
 exact g c
theorem Grow.sb{w:Vz}{B:Nat}{e:Vr}{sz:Nat}{K:Value->Prop}{v:Value}{n:Nat}{xs:Vv}(h:Grow w B e sz K v n xs){g:Nat}(b:v.ownBlock=some g):∃C,SB w g e C/\∀u,u∈ C.toList->K u:=h.all g b
theorem Grow.lt{w:Vz}{B:Nat}{e:Vr}{sz:Nat}{K:Value->Prop}{v:Value}{n:Nat}{xs:Vv}(h:Grow w B e sz K v n xs){g:Nat}(b:v.ownBlock=some g):B<=g/\g<w.heap.size:=h.own.lt g b
theorem Grow.below{w w':Vz}{B:Nat}{e:Vr}{sz:Nat}{K:Value->Prop}{v:Value}{n:Nat}{xs:Vv}(h:Grow w B e sz K v n xs)(b:Bl w w'):Grow w' B e sz K v n xs:=h.keep fun g c=>b.block g (h.lt c).2
theorem Grow.only{w w':Vz}{B:Nat}{e:Vr}{sz:Nat}{K:Value->Prop}{v:Value}{n:Nat}{xs:Vv}(h:Grow w B e sz K v n xs)(b:w.grownBy w' v.ownBlock)(d:∀C:Vw,(∀u,u∈ C.toList->K u)->Plain C):Fr w w':=by
 rcases ho:v.ownBlock with _|g
 . rw[ho] at b
   exact Fr.of_below ⟨b.os,b.tape,b.output,b.size,fun k hk=>b.block k hk (by simp)⟩
 .
  obtain⟨C,f,i⟩:=h.sb ho;rw[ho] at b;exact Fr.of_only ⟨b.os,b.tape,b.output,b.size,fun k hk c=>b.block k hk (by simpa using c)⟩ f (d C i)
structure SW (w u:Vz) (W K wide:Nat) (L S X:List MR) (hs:Vy) (lv sv hv b1 b2:Value):Prop where
 box:SB u (w.heap.size+1) 195 #[.int .i64 wide,b1,b2]
 res:SB u w.heap.size 195 #[.int .i64 0,.slice none 0 0,.slice none 0 0]
 left:Grow u w.heap.size 98 1 IsSl lv L.length (L.map MR.val)
 rows:Grow u w.heap.size 98 1 IsSl sv S.length (S.map MR.val)
 heads:Grow u w.heap.size 3 1 IsI hv hs.length (headsV hs)
 apart:∀g,lv.ownBlock=some g->sv.ownBlock≠some g
 okL:Oks u W K L
 okS:Oks u W K S
 okX:Oks u W K X
 base:Bl w u
 sl:IsSl b1/\IsSl b2
section
variable {w u:Vz} {W K wide:Nat} {L S X:List MR} {hs:Vy} {lv sv hv b1 b2:Value}
theorem SW.below{c:Vz}(h:SW w u W K wide L S X hs lv sv hv b1 b2)(b:Bl u c):SW w c W K wide L S X hs lv sv hv b1 b2:=
 ⟨h.box.below b h.box.lt,h.res.below b h.res.lt,h.left.below b,h.rows.below b,h.heads.below b,h.apart,h.okL.fr (Fr.of_below b),h.okS.fr (Fr.of_below b),h.okX.fr (Fr.of_below b),h.base.trans (b.mono h.base.size),h.sl⟩
theorem SW.alloc(h:SW w u W K wide L S X hs lv sv hv b1 b2)(o:Obj):SW w (u.alloc o) W K wide L S X hs lv sv hv b1 b2:=h.below (bR.alloc lZ _)
theorem SW.drew(h:SW w u W K wide L S X hs lv sv hv b1 b2):SW w u.drew W K wide L S X hs lv sv hv b1 b2:=h.below bR.drew
theorem row_stairs:98≠195:=by decide
theorem int_stairs:3≠195:=by decide
theorem int_row:3≠98:=by decide
theorem SW.left_only{e:Vz}{g:Nat}{f:List MR}{b:Value}(h:SW w u W K wide L S X hs lv sv hv b1 b2)(i:lv.ownBlock=some g)(j:b.ownBlock=some g)(c:Only g u e)(hl:Grow e w.heap.size 98 1 IsSl b f.length (f.map MR.val))(l:Oks e W K f):SW w e W K wide f S X hs b sv hv b1 b2:=by
 obtain⟨C,c1,c2⟩:=h.left.sb i;have d:=Fr.of_only c c1 (IsSl.plain c2);refine⟨h.box.only c (h.box.unlike c1 row_stairs.symm),h.res.only c (h.res.unlike c1 row_stairs.symm),hl,h.rows.keep fun k hk=>c.block k (h.rows.lt hk).2 ?_,h.heads.keep fun k hk=>c.block k (h.heads.lt hk).2 ?_,fun k hk=>?_,l,h.okS.fr d,h.okX.fr d,h.base.trans (c.below (h.left.lt i).1 h.base.size),h.sl⟩
 . rintro rfl
   exact h.apart k i hk
 . obtain⟨D,d1,_⟩:=h.heads.sb hk
   exact d1.unlike c1 int_row
 .
  rw[j] at hk;rw[<-hk];exact h.apart g i
theorem SW.app1{s:MR}{nb c:Nat}(h:SW w u W K wide L S X hs lv sv hv b1 b2)(z:u.cell? ⟨nb,0,none⟩=some s.val)(B:MOk u W K s)(T:S.length<=1000)(ty:Vr):
 ∃g q,(Builtin.append_ #[148,148] ty #[sv,.slice (some ⟨nb,0,none⟩) 1 c]).run prog u=.ok g q/\SW w q W K wide L (S++ [s]) X hs lv g hv b1 b2/\u.heap.size<=q.heap.size/\∀b i n,u.cell? ⟨b,i,none⟩=some (.int .i64 n)->q.cell? ⟨b,i,none⟩=some (.int .i64 n):=by
 obtain⟨U,O,F,G,hz2⟩:=info_parts Qct;obtain⟨g,q,x,H,l,I⟩:=h.rows.app (P:=prog) (ty:=ty) underlying148 O F G hz2 rfl (by decide) Qmf ⟨nb,0,none⟩ 1 c [s.val] rfl (fun j v J=>by
  match j,J with
  |0,J=>
   obtain rfl:s.val=v:=by simpa using J
   rw[Qas]
   exact z) (fun v hv=>by obtain rfl:v=s.val:=by simpa using hv
                          rfl) (fun v hv=>by obtain rfl:v=s.val:=by simpa using hv
                                             exact⟨_,_,_,rfl⟩) (by omega) (by decide) h.base.size
 have m:=h.rows.only l (fun C=>IsSl.plain);have d:∀b,b<u.heap.size->sv.ownBlock≠some b->q.heap[b]?=u.heap[b]?:=fun b f p=>l.block b f (fun e=>p e.symm)
 have p:∀{b:Nat} {t:Vr} {C:Vw},SB u b t C->t≠98->sv.ownBlock≠some b:=fun {b t C} f M z=>by
  obtain⟨D,d1,_⟩:=h.rows.sb z;exact f.unlike d1 M rfl
 have A:∀{b:Nat} {t:Vr} {C:Vw},SB u b t C->t≠98->SB q b t C:=fun {b t C} f M=>by
  have R:=d b f.lt (p f M);unfold SB at f ⊢;rw[R];exact f
 have y:=h.base.grown l h.base.size (fun k hk=>(h.rows.lt hk).1);refine⟨g,q,x,⟨A h.box row_stairs.symm,A h.res row_stairs.symm,h.left.keep fun k hk=>d k (h.left.lt hk).2 (h.apart k hk),by rw[List.map_append,List.length_append];exact H,h.heads.keep fun k hk=>?_,fun k hk=>?_,h.okL.fr m,fun r x=>?_,h.okX.fr m,y,h.sl⟩,l.size,fun b i n f=>?_⟩
 . obtain⟨D,d1,_⟩:=h.heads.sb hk
   exact d k (h.heads.lt hk).2 (p d1 int_row)
 .
  rcases I with e|e
  . rw[e]
    exact h.apart k hk
  .
   rw[e];have:=(h.left.lt hk).2;intro N;injection N with N
   omega
 .
  rcases List.mem_append.1 x with x|x
  . exact(h.okS r x).fr m
  . obtain rfl:r=s:=by simpa using x
    exact B.fr m
 .
  refine(World.cell?_of_block (w:=u) (a:=⟨b,i,none⟩) (d b (World.block_lt_of_cell? _ _ f) fun z=>?_)).trans f;obtain⟨D,d1,d2⟩:=h.rows.sb z;rw[d1.cell] at f;obtain⟨_,_,_,e⟩:=d2 _ (mO (by rw[Array.getElem?_toList];exact f));cases e
theorem SW.app2{k nb c:Nat}(h:SW w u W K wide L S X hs lv sv hv b1 b2)(r:u.cell? ⟨nb,0,none⟩=some (.int .i64 (k:Nat)))(I:hs.length<=1000)(ty:Vr):
 ∃g p,(Builtin.append_ #[155,155] ty #[hv,.slice (some ⟨nb,0,none⟩) 1 c]).run prog u=.ok g p/\SW w p W K wide L S X (hs++ [k]) lv sv g b1 b2:=by
 obtain⟨J,B,s,x,hz2⟩:=info_parts Qwh;obtain⟨g,p,F,y,l,G⟩:=h.heads.app (P:=prog) (ty:=ty) underlying155 B s x hz2 rfl (by decide) Qwg ⟨nb,0,none⟩ 1 c [.int .i64 (k:Nat)] rfl (fun j v z=>by
  match j,z with
  |0,z=>
   obtain rfl:_=v:=by simpa using z
   rw[Qas]
   exact r) (fun v hv=>by obtain rfl:v=_:=by simpa using hv
                          rfl) (fun v hv=>by obtain rfl:v=_:=by simpa using hv
                                             exact⟨_,rfl⟩) (by omega) (by decide) h.base.size
 have m:=h.heads.only l (fun C=>IsI.plain);have d:∀b,b<u.heap.size->hv.ownBlock≠some b->p.heap[b]?=u.heap[b]?:=fun b i f=>l.block b i (fun e=>f e.symm)
 have f:∀{b:Nat} {t:Vr} {C:Vw},SB u b t C->t≠3->hv.ownBlock≠some b:=fun {b t C} i A r=>by
  obtain⟨D,d1,_⟩:=h.heads.sb r;exact i.unlike d1 A rfl
 have q:∀{b:Nat} {t:Vr} {C:Vw},SB u b t C->t≠3->SB p b t C:=fun {b t C} i A=>by
  have H:=d b i.lt (f i A);unfold SB at i ⊢;rw[H];exact i
 have n:=h.base.grown l h.base.size (fun k hk=>(h.heads.lt hk).1);refine⟨g,p,F,⟨q h.box int_stairs.symm,q h.res int_stairs.symm,h.left.keep fun k hk=>?_,h.rows.keep fun k hk=>?_,?_,h.apart,h.okL.fr m,h.okS.fr m,h.okX.fr m,n,h.sl⟩⟩
 . obtain⟨D,d1,_⟩:=h.left.sb hk
   exact d k (h.left.lt hk).2 (f d1 int_row.symm)
 . obtain⟨D,d1,_⟩:=h.rows.sb hk
   exact d k (h.rows.lt hk).2 (f d1 int_row.symm)
 .
  have e:headsV (hs++ [k])=headsV hs++ [.int .i64 (k:Nat)]:=by simp[headsV]
  rw[e,List.length_append];exact y
theorem SW.put(h:SW w u W K wide L S X hs lv sv hv b1 b2):SW w ((u.setCell ⟨w.heap.size+1,1,none⟩ sv).setCell ⟨w.heap.size+1,2,none⟩ hv) W K wide L S X hs lv sv hv sv hv:=by
 have i:Only (w.heap.size+1) u ((u.setCell ⟨w.heap.size+1,1,none⟩ sv).setCell ⟨w.heap.size+1,2,none⟩ hv):=((Only.refl _ _).setCell _ _).setCell _ _;have f:∀{B:Nat} {e:Vr} {sz:Nat} {Q:Value->Prop} {v:Value} {n:Nat} {xs:Vv},Grow u B e sz Q v n xs->∃x y z,v=Value.slice x y z:=fun {B e sz Q v n xs} b=>by
  rcases b.own.2 with ⟨rfl,_⟩|⟨g,m,p,rfl,_⟩
  . exact⟨_,_,_,rfl⟩
  . exact⟨_,_,_,rfl⟩
 have c:∀{B:Nat} {e:Vr} {sz:Nat} {Q:Value->Prop} {v:Value} {n:Nat} {xs:Vv},e≠195->Grow u B e sz Q v n xs->Grow ((u.setCell ⟨w.heap.size+1,1,none⟩ sv).setCell ⟨w.heap.size+1,2,none⟩ hv) B e sz Q v n xs:=fun {B e sz Q v n xs} q b=>b.keep fun k hk=>i.block k (b.lt hk).2 (by
  obtain⟨D,d1,_⟩:=b.sb hk
  exact d1.unlike h.box q)
 have j:=(h.box.set 1 sv).set 2 hv;have l:Plain #[.int .i64 (wide:Int),b1,b2]:=fun v hv=>by
  obtain⟨x1,x2,x3,r⟩:=h.sl.1;obtain⟨y1,y2,y3,s⟩:=h.sl.2;subst r;subst s;simp at hv;rcases hv with rfl|rfl|rfl
  . exact⟨by simp,by simp⟩
  . exact⟨by simp,by simp⟩
  . exact⟨by simp,by simp⟩
 have d:=Fr.of_only i h.box l;exact⟨by simpa using j,h.res.only i (by omega),c row_stairs h.left,c row_stairs h.rows,c int_stairs h.heads,h.apart,h.okL.fr d,h.okS.fr d,h.okX.fr d,h.base.trans (i.below (Nat.le_succ _) h.base.size),f h.rows,f h.heads⟩
end
theorem Grow.mono{w:Vz}{B B':Nat}{e:Vr}{sz:Nat}{K:Value->Prop}{v:Value}{n:Nat}{xs:Vv}(h:Grow w B e sz K v n xs)(hB:B'<=B):Grow w B' e sz K v n xs:=by
 refine⟨⟨h.own.1,?_⟩,h.all⟩;rcases h.own.2 with d|⟨g,b,c,rfl,f,i⟩
 . exact .inl d
 . exact .inr ⟨g,b,c,rfl,Nat.le_trans hB f,i⟩
theorem Grow.slice{w:Vz}{B sz:Nat}{e:Vr}{K:Value->Prop}{v:Value}{n:Nat}{xs:Vv}(h:Grow w B e sz K v n xs):
 ∃a b,v=.slice a n b/\n<=b/\CRow w a xs/\(0<n->∃g,a=some ⟨g,0,none⟩/\v.ownBlock=some g):=by
 rcases h.own.2 with ⟨rfl,rfl⟩|⟨g,b,i,rfl,p,k,c,l,m,d⟩
 .
  have:=List.eq_nil_of_length_eq_zero (by simpa using h.own.1);subst this;exact⟨none,0,rfl,Nat.le_refl _,⟨fun j u f=>by simp at f⟩,fun h=>by omega⟩
 .
  refine⟨some ⟨g,0,none⟩,b,rfl,c,⟨fun j u f=>⟨g,0,rfl,SB.lt k,?_⟩⟩,fun _=>⟨g,rfl,rfl⟩⟩;have:=h.own.cells (g:=g) rfl j u f;rw[Qas] at this;exact this
theorem Grow.mat{w:Vz}{B W K:Nat}{v:Value}{L:List MR}(h:Grow w B 98 1 IsSl v L.length (L.map MR.val))(c:Oks w W K L):
 ∃a b,v=.slice a L.length b/\QMat w a b W L/\(0<L.length->∃g,a=some ⟨g,0,none⟩):=by
 obtain⟨a,b,e,f,d,i⟩:=h.slice;refine⟨a,b,e,⟨⟨f,by rw[Qez];exact d⟩,fun r d=>⟨(c r d).row,(c r d).len⟩⟩,fun j=>?_⟩;obtain⟨g,k,_⟩:=i j;exact⟨g,k⟩
theorem Grow.set{w:Vz}{B g c:Nat}{e:Vr}{K:Value->Prop}{n k:Nat}{xs:Vv}{x:Value}(h:Grow w B e 1 K (.slice (some ⟨g,0,none⟩) n c) n xs)(hk:k<n)(y:K x):Grow (w.setCell ⟨g,k,none⟩ x) B e 1 K (.slice (some ⟨g,0,none⟩) n c) n (xs.set k x):=by
 obtain⟨f,i⟩:=h.own;rcases i with ⟨b,_⟩|⟨t,cap',z,b,A,v,p,q,r,d⟩
 . cases b
 .
  injection b with b _ D
  injection b with b
  injection b with b _ _
  subst b;subst D;obtain⟨C,hC,j⟩:=h.all g rfl;rw[v] at hC;injection hC with hC
  injection hC with hC _ _
  subst hC;have l:=SB.set v k x;refine⟨⟨by rw[List.length_set];exact f,.inr ⟨g,c,_,rfl,A,l,p,q,by simpa using r,?_⟩⟩,fun t s=>?_⟩
  . rw[Array.toList_setIfInBounds,List.take_set,d]
  .
   have e:g=t:=by simpa [Value.ownBlock] using s
   subst e;refine⟨_,l,fun u m=>?_⟩;rw[Array.toList_setIfInBounds] at m;rcases List.mem_or_eq_of_mem_set m with m|rfl
   . exact j u m
   . exact y
theorem Grow.free{w:Vz}{B g b l:Nat}{e:Vr}{K:Value->Prop}{n:Nat}{xs:Vv}(h:Grow w B e 1 K (.slice (some ⟨g,0,none⟩) l b) n xs)(k:Nat):w.frozen? ⟨g,k,none⟩=false:=by
 obtain⟨C,hC,_⟩:=h.sb (g:=g) rfl;exact hC.free k
theorem Grow.cell{w:Vz}{B g b l:Nat}{e:Vr}{K:Value->Prop}{n k:Nat}{xs:Vv}{x:Value}(h:Grow w B e 1 K (.slice (some ⟨g,0,none⟩) l b) n xs)(hk:xs[k]?=some x):w.cell? ⟨g,k,none⟩=some x:=by
 have:=h.own.cells (g:=g) rfl k x hk;rw[Qas,Nat.zero_add] at this;exact this
theorem SW.setL{w u:Vz}{W K wide g b m n:Nat}{L S X:List MR}{hs:Vy}{sv hv b1 b2:Value}{r:MR}(h:SW w u W K wide L S X hs (.slice (some ⟨g,0,none⟩) n b) sv hv b1 b2)(f:n=L.length)(i:m<L.length)(j:MOk u W K r):SW w (u.setCell ⟨g,m,none⟩ r.val) W K wide (L.set m r) S X hs (.slice (some ⟨g,0,none⟩) n b) sv hv b1 b2:=by
 subst f;have e:Only g u (u.setCell ⟨g,m,none⟩ r.val):=(Only.refl _ _).setCell _ _;obtain⟨C,c1,c2⟩:=h.left.sb (g:=g) rfl;have c:=Fr.of_only e c1 (IsSl.plain c2);refine h.left_only rfl rfl e ?_ fun x d=>?_
 . rw[List.length_set,List.map_set]
   exact h.left.set i ⟨_,_,_,rfl⟩
 .
  rcases List.mem_or_eq_of_mem_set d with d|rfl
  . exact(h.okL x d).fr c
  . exact j.fr c
theorem Qhd{α β:Type}(f:α->β):∀(l:List α) (i:Nat),(l.map f).eraseIdx i=(l.eraseIdx i).map f
 | [],_=>rfl
 |_ :: _,0=>rfl
 |x :: l,i+1=>by simp only[List.map_cons,List.eraseIdx_cons_succ];rw[Qhd f l i]
theorem Grow.form{w:Vz}{B sz:Nat}{e:Vr}{K:Value->Prop}{v:Value}{n:Nat}{xs:Vv}(h:Grow w B e sz K v n xs){g:Nat}(c:v.ownBlock=some g):∃b,v=.slice (some ⟨g,0,none⟩) n b:=by
 rcases h.own.2 with ⟨rfl,_⟩|⟨d,b,f,rfl,_⟩
 . simp[Value.ownBlock] at c
 . obtain rfl:d=g:=by simpa [Value.ownBlock] using c
   exact⟨b,rfl⟩
section
variable {w u:Vz} {W K wide:Nat} {L S X:List MR} {hs:Vy} {lv sv hv b1 b2:Value}
theorem SW.erase{k:Vz}{g j:Nat}{i:Value}(h:SW w u W K wide L S X hs lv sv hv b1 b2)(m:lv.ownBlock=some g)(d:i.ownBlock=some g)(n:Only g u k)(f:Grow k w.heap.size 98 1 IsSl i (L.length - 1) ((L.map MR.val).eraseIdx j))(p:j<L.length):
 ∃c,i=.slice (some ⟨g,0,none⟩) (L.eraseIdx j).length c/\SW w k W K wide (L.eraseIdx j) S X hs i sv hv b1 b2:=by
 have b:(L.eraseIdx j).length=L.length - 1:=by rw[List.length_eraseIdx,if_pos p]
 obtain⟨c,e⟩:=f.form d;obtain⟨C,c1,c2⟩:=h.left.sb m;have l:=Fr.of_only n c1 (IsSl.plain c2);refine⟨c,by rw[b];exact e,h.left_only m d n ?_ fun r q=>(h.okL r (List.mem_of_mem_eraseIdx q)).fr l⟩;rw[b,<-Qhd];exact f
theorem SW.withX{Y:List MR}(h:SW w u W K wide L S X hs lv sv hv b1 b2)(b:Oks u W K Y):SW w u W K wide L S Y hs lv sv hv b1 b2:=⟨h.box,h.res,h.left,h.rows,h.heads,h.apart,h.okL,h.okS,b,h.base,h.sl⟩
variable {P:Program} {ops:Array Oper} {o:Oper} {a:Act} {K':Act->World->Prop} {Q:Exit->Act->World->Prop} {E:Prop}
end
theorem Grow.frac_ne{w:Vz}{B sz:Nat}{e:Vr}{v:Value}{n:Nat}{xs:Vv}(h:Grow w B e sz IsSl v n xs){g b i:Nat}{x y z:Value}{q:Rat}(p:v.ownBlock=some g)(f:w.cell? ⟨b,i,none⟩=some x)(r:FracV w (.agg #[x,y,z]) q):g≠b:=by
 rintro rfl;obtain⟨C,c1,c2⟩:=h.sb p;rw[c1.cell] at f;obtain⟨_,_,_,j⟩:=c2 x (mO (by rw[Array.getElem?_toList];exact f));obtain⟨neg,a,m,c,b,k,d,l,_⟩:=r;simp at l;rw[l.1] at j;cases j
theorem SW.done{w u:Vz}{W K wide:Nat}{L S X:List MR}{hs:Vy}{lv sv hv b1 b2:Value}(h:SW w u W K wide L S X hs lv sv hv b1 b2)(x y z:Value):
 Grow (((u.setCell ⟨w.heap.size,0,none⟩ x).setCell ⟨w.heap.size,1,none⟩ y).setCell ⟨w.heap.size,2,none⟩ z) w.heap.size 98 1 IsSl sv S.length (S.map MR.val)/\Grow (((u.setCell ⟨w.heap.size,0,none⟩ x).setCell ⟨w.heap.size,1,none⟩ y).setCell ⟨w.heap.size,2,none⟩ z) w.heap.size 3 1 IsI hv hs.length (headsV hs)/\
  Oks (((u.setCell ⟨w.heap.size,0,none⟩ x).setCell ⟨w.heap.size,1,none⟩ y).setCell ⟨w.heap.size,2,none⟩ z) W K S/\Below w.heap.size w (((u.setCell ⟨w.heap.size,0,none⟩ x).setCell ⟨w.heap.size,1,none⟩ y).setCell ⟨w.heap.size,2,none⟩ z):=by
 have b:Only w.heap.size u (((u.setCell ⟨w.heap.size,0,none⟩ x).setCell ⟨w.heap.size,1,none⟩ y).setCell ⟨w.heap.size,2,none⟩ z):=(((Only.refl _ _).setCell _ _).setCell _ _).setCell _ _;have c:Plain #[.int .i64 0,.slice none 0 0,.slice none 0 0]:=fun v hv=>by
  simp at hv;rcases hv with rfl|rfl
  . exact⟨by simp,by simp⟩
  . exact⟨by simp,by simp⟩
 refine⟨h.rows.keep fun k hk=>b.block k (h.rows.lt hk).2 ?_,h.heads.keep fun k hk=>b.block k (h.heads.lt hk).2 ?_,h.okS.fr (Fr.of_only b h.res c),h.base.trans (b.below lZ h.base.size)⟩
 . obtain⟨D,d1,_⟩:=h.rows.sb hk
   exact d1.unlike h.res row_stairs
 . obtain⟨D,d1,_⟩:=h.heads.sb hk
   exact d1.unlike h.res int_stairs
structure Going (K:Nat) (I:Nat->List Vec->List Vec->List Nat->Prop):Prop where
 fit:∀{c:Nat} {L S:List Vec} {hs:Vy},I c L S hs->∀r,r∈ L->∀i,Fits (r i) K
 skip:∀{c:Nat} {L S:List Vec} {hs:Vy},I c L S hs->(∀r,r∈ L->r c=0)->I (c+1) L S hs
 step:∀{c j:Nat} {L S:List Vec} {hs:Vy} {s:Vec},I c L S hs->L[j]?=some s->s c≠0->I (c+1) ((L.eraseIdx j).map (lessBy c s)) (S++ [s]) (hs++ [c])
theorem Qwi{c:Nat}{s r:Vec}(h:r c=0):lessBy c s r=r:=by
 funext i;unfold lessBy;rw[h];grind
end Go.Proofs.YtkkadnoecklepaaGreatDoor
