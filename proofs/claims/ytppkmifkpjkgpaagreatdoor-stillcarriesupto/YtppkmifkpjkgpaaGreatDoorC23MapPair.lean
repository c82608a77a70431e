import Derived.Test.YtppkmifkpjkgpaaGreatDoorC22Own
import Derived.WideKeyRuns
import Derived.MapKept
namespace Go.Proofs.YtppkmifkpjkgpaaGreatDoor
open Go.RowKit
open Go.Proofs.Tryz
set_option linter.unusedSimpArgs false
set_option linter.unusedVariables false
set_option maxHeartbeats 8000000
set_option maxRecDepth 1000000
structure Lent (w:Vz) (g1 g2 g3:Nat) (js:List S2) (bs:List B6) (hs:List H3):Prop where
 j:ARow S2.cells w (some ⟨g1,0,none⟩) (js.length+3) (js++ [spotMark,spotMark,spotMark])
 b:ARow B6.cells w (some ⟨g2,0,none⟩) (bs.length+3) (bs++ [barMark,barMark,barMark])
 h:ARow H3.cells w (some ⟨g3,0,none⟩) (hs.length+3) (hs++ [holdMark,holdMark,holdMark])
theorem Lent.below{w w':Vz}{c d e:Nat}{f:List S2}{g:List B6}{i:List H3}(h:Lent w c d e f g i)(a:Below w.heap.size w w'):Lent w' c d e f g i:=⟨h.j.below a,h.b.below a,h.h.below a⟩
structure FrRow (w:Vz) (a1 a2 a3:Vx) (c1 c2 c3:Nat) (js:List S2) (bs:List B6) (hs:List H3):Prop where
 j:ARow S2.cells w a1 c1 js
 b:ARow B6.cells w a2 c2 bs
 h:ARow H3.cells w a3 c3 hs
theorem FrRow.below{w w':Vz}{c d e:Vx}{c1 c2 c3:Nat}{f:List S2}{g:List B6}{i:List H3}(h:FrRow w c d e c1 c2 c3 f g i)(a:Below w.heap.size w w'):FrRow w' c d e c1 c2 c3 f g i:=⟨h.j.below a,h.b.below a,h.h.below a⟩
theorem Lent.row{w:Vz}{e f g:Nat}{a:List S2}{c:List B6}{d:List H3}(h:Lent w e f g a c d):FrRow w (some ⟨e,0,none⟩) (some ⟨f,0,none⟩) (some ⟨g,0,none⟩) (a.length+3) (c.length+3) (d.length+3) a c d:=⟨h.j.left,h.b.left,h.h.left⟩
theorem Qo5(J K L:Nat)(M N P:Vx)(c1 c2 c3:Nat)(l:List S2)(m:List B6)(n:List H3)(w:Vz)(U:Marks3 w)(hl:Lent w J K L l m n)(V:FrRow w M N P c1 c2 c3 l m n)
 (n1:l.length<=1048576) (X:m.length<=1048576) (Y:n.length<=1048576):
 Calls prog 11 #[.agg #[.slice (some ⟨J,0,none⟩) l.length (l.length+3),.slice (some ⟨K,0,none⟩) m.length (m.length+3),.slice (some ⟨L,0,none⟩) n.length (n.length+3)],.agg #[.slice M l.length c1,.slice N m.length c2,.slice P n.length c3]] w fun e w'=>e=.returned (.bool true)/\Below w.heap.size w w':=by
 obtain⟨Q,R,Z⟩:=Ib hl V U;clear hl V U;go_enter func11,ntmps11;obtain⟨W,s⟩:=nm ((w.alloc (.cells #[.slice (some ⟨J,0,none⟩) l.length (l.length+3),.slice (some ⟨K,0,none⟩) m.length (m.length+3),.slice (some ⟨L,0,none⟩) n.length (n.length+3)] 26)).alloc (.cells #[.slice M l.length c1,.slice N m.length c2,.slice P n.length c3] 26));have c:=Ub s;have g:=Ud s;have i:=Ue s;have r:=Hi (Marks3.stay.step _ _ c.o Z.o)
 have S:O (Below W.heap.size W W):=Hi bR;have p:=g.o.below S.o g.o.lt;have q:=i.o.below S.o i.o.lt;have a:=Marks3.stay.step _ _ S.o r.o;obtain⟨t,x1,x2,-⟩:=zc p;obtain⟨u,y1,y2,-⟩:=zc q;have v:=a.s0;have x:=a.s1;have y:=a.b0;have z:=a.b1;have A:=a.b2;have B:=a.b3;have C:=a.b4;have D:=a.b5;have E:=a.h0;have F:=a.h1
 have k:=a.h2;clear p q a;rw[<-s] at t x1 x2 u y1 y2 v x y z A B C D E F k;have HW:=Hi s;clear s;go_wp2_with fail;rw[HW.o];clear t x1 x2 u y1 y2 v x y z A B C D E F k;go_fit (Qvo J M c1 l _ _ W (Q.o.j.below c.o) (R.o.j.below c.o) n1);rintro e w1 ⟨rfl,G⟩;have d:=Hi G;clear G;have p:=g.o.below d.o g.o.lt;have q:=i.o.below d.o i.o.lt;have a:=Marks3.stay.step _ _ d.o r.o;obtain⟨t,x1,x2,-⟩:=zc p;obtain⟨u,-⟩:=zc q
 obtain⟨-,y1,y2,-⟩:=zc q;have v:=a.s0;have x:=a.s1;have y:=a.b0;have z:=a.b1;have A:=a.b2;have B:=a.b3;have C:=a.b4;have D:=a.b5;have E:=a.h0;have F:=a.h1;have k:=a.h2;clear p q a;go_wp2_with fail;clear t x1 x2 u y1 y2 v x y z A B C D E F k;go_fit (Qvp K N c2 m _ _ _ _ _ _ w1 ((Q.o.b.below c.o).below d.o) ((R.o.b.below c.o).below d.o) X);rintro e w2 ⟨rfl,H⟩;have f:=Hi (d.o.trans (H.mono d.o.size));clear H;have p:=g.o.below f.o g.o.lt;have q:=i.o.below f.o i.o.lt;have a:=Marks3.stay.step _ _ f.o r.o;obtain⟨t,-⟩:=zc p
 obtain⟨-,x1,x2,-⟩:=zc p;obtain⟨u,y1,y2,-⟩:=zc q;have v:=a.s0;have x:=a.s1;have y:=a.b0;have z:=a.b1;have A:=a.b2;have B:=a.b3;have C:=a.b4;have D:=a.b5;have E:=a.h0;have F:=a.h1;have k:=a.h2;clear p q a;go_wp2_with fail;clear t x1 x2 u y1 y2 v x y z A B C D E F k;go_fit (Qvq L P c3 n _ _ _ w2 ((Q.o.h.below c.o).below f.o) ((R.o.h.below c.o).below f.o) Y);rintro e w3 ⟨rfl,I⟩
 have T:=Hi (f.o.trans (I.mono f.o.size));clear I;go_wp2;go_ret;exact⟨rfl,c.o.trans (T.o.mono c.o.size)⟩
theorem Qtd{q:Rat}(h:¬q=0):sgn3 q.num=if q.num<0 then -1 else 1:=by
 have b:q.num≠0:=fun c=>h (Rat.num_eq_zero.1 c)
 unfold sgn3;by_cases a:q.num<0
 . rw[if_pos a,if_pos a]
 . rw[if_neg a,if_neg a,if_neg b]
theorem Qte{v:Value}{q:Rat}{w:Vz}(k:FracV w v q):Calls prog 122 #[v] w fun e w'=>e=.returned (.int .i64 (sgn3 q.num))/\Below w.heap.size w w':=by
 have x:=Hi k;obtain⟨neg,a,n,c,b,m,d,rfl,k⟩:=k;have p:=Hi k.neg;clear k;go_enter func122,ntmps122;go_wp2_with fail;obtain⟨W,r⟩:=nm (w.alloc (.cells #[.bool neg,.slice a n c,.slice b m d] 141));have f:=Ua r;have l:=Uc r;rw[r];clear r;go_fit (Qcf (x.o.below f.o));rintro e w1 ⟨rfl,g⟩;obtain⟨y,-⟩:=zc (l.o.below g l.o.lt);have i:=Hi (f.o.trans (g.mono f.o.size));clear g;by_cases h:q=0
 .
  have t:decide (q=0)=true:=decide_eq_true h;rw[t];go_wp2;go_ret;exact⟨by rw[h];rfl,i.o⟩
 .
  have t:decide (q=0)=false:=decide_eq_false h;rw[t];have j:=Qtd h;by_cases s:q.num<0
  .
   obtain rfl:neg=true:=by rw[p.o];exact decide_eq_true s
   rw[if_pos s] at j;have u:=Hi j;clear j p;go_wp2;go_ret;exact⟨by rw[u.o];rfl,i.o⟩
  .
   obtain rfl:neg=false:=by rw[p.o];exact decide_eq_false s
   rw[if_neg s] at j;have u:=Hi j;clear j p;go_wp2;go_ret;exact⟨by rw[u.o];rfl,i.o⟩
theorem FBag.sign{w0 w:Vz}{L:List FE}{x1 x2 x3:Value}{j:Nat}{p:Rat}(h:FBag w0 w L)(a:⟨x1,x2,x3,p,j⟩∈ L):
 Calls prog 122 #[.agg #[x1,x2,x3]] w (fun e w'=>e=.returned (.int .i64 (sgn3 p.num))/\FBag w0 w' L):=by
 obtain⟨a,c,d⟩:=h.get a;refine(Qte a).mono ?_;rintro e w' ⟨rfl,b⟩;exact⟨rfl,h.below b⟩
theorem FBag.equalT{w0 w:Vz}{L:List FE}{x1 x2 x3 y1 y2 y3:Value}{j k:Nat}{p q:Rat}(h:FBag w0 w L)(a:⟨x1,x2,x3,p,j⟩∈ L)(b:⟨y1,y2,y3,q,k⟩∈ L)(c:p=q):
 Calls prog 158 #[.agg #[x1,x2,x3],.agg #[y1,y2,y3]] w (fun e w'=>e=.returned (.bool true)/\FBag w0 w' L):=by
 have:=h.equal a b;rw[decide_eq_true c] at this;exact this
theorem FBag.equalF{w0 w:Vz}{L:List FE}{x1 x2 x3 y1 y2 y3:Value}{j k:Nat}{p q:Rat}(h:FBag w0 w L)(a:⟨x1,x2,x3,p,j⟩∈ L)(b:⟨y1,y2,y3,q,k⟩∈ L)(c:¬p=q):
 Calls prog 158 #[.agg #[x1,x2,x3],.agg #[y1,y2,y3]] w (fun e w'=>e=.returned (.bool false)/\FBag w0 w' L):=by
 have:=h.equal a b;rw[decide_eq_false c] at this;exact this
def IsJ(n:Nat)(k:Int):Prop:=0<=k/\k<n
theorem Qbd(a:Vx)(n c:Nat)(k:Int)(w:Vz)(h:IsJ n k):Calls prog 99 #[.slice a n c,.int .i64 k] w fun e w'=>e=.returned (.bool true)/\w'=w:=by
 obtain⟨b,d⟩:=h;go_enter func99,ntmps99;go_wp2;go_ret;exact⟨by simp[b,d],rfl⟩
theorem Qem(a:Vx)(n c:Nat)(k:Int)(w:Vz)(h:¬IsJ n k):Calls prog 99 #[.slice a n c,.int .i64 k] w fun e w'=>e=.returned (.bool false)/\w'=w:=by
 by_cases d:0<=k
 .
  have b:¬(k<(n:Int)):=fun b=>h ⟨d,b⟩
  go_enter func99,ntmps99;go_wp2;go_ret;exact⟨by simp<;>omega,rfl⟩
 .
  have b:decide (0<=k)=false:=decide_eq_false d;go_enter func99,ntmps99;go_wp2;go_ret;exact⟨by simp<;>omega,rfl⟩
theorem Qtf(s t t0 t1:Vs)(L M N O:Rat)(w:Vz)(A:Glob w)(P:s.size<=1048576)(Q:t.size<=1048576)(R:t0.size<=1048576)(S:t1.size<=1048576)
 (B:QOf s.data.toList L) (C:QOf t.data.toList M) (D:QOf t0.data.toList N) (E:QOf t1.data.toList O):
 Calls prog 121 #[.agg #[.string s,.string t],.agg #[.string t0,.string t1]] w fun e w'=>e=.returned (.bool (decide (L=N/\M=O)))/\Below w.heap.size w w':=by
 by_cases y:L=N
 .
  have x:=Hi y;by_cases F:M=O
  .
   have z:=Hi F;rw[decide_eq_true ⟨y,F⟩];clear y F;obtain⟨G,H,I,J,K⟩:=Id A B C D E;clear A B C D E;go_enter func121,ntmps121;go_wp2_with fail;obtain⟨W,q⟩:=nm ((w.alloc (.cells #[.string s,.string t] 56)).alloc (.cells #[.string t0,.string t1] 56));have j:=Ub q;have f:=Ud q;have g:=Ue q;rw[q];have d:=Hi (FBag.start (G.o.below j.o));clear q;have b:=f.o.below d.o.base f.o.lt;have c:=g.o.below d.o.base g.o.lt;obtain⟨k,l,-⟩:=zc b
   obtain⟨m,p,-⟩:=zc c;clear b c
   first
    |(
     go_region_held3 (fun v=>v.cell? ⟨w.heap.size,0,none⟩=some (.string s)/\v.cell? ⟨w.heap.size,1,none⟩=some (.string t)/\v.cell? ⟨w.heap.size+1,0,none⟩=some (.string t0)/\v.cell? ⟨w.heap.size+1,1,none⟩=some (.string t1)) ((first|(simp [*];done)|go_keep)) (first
      |
       (go_at_call_of 82 (Value.string s)
        apply cM;apply FBag.of (w0:=W) (n:=1048576);(focus(first|exact d.o|exact d.o.drew));assumption;decide;rintro e r ⟨u,i,x1,x2,x3,rfl,a⟩;obtain rfl:=H.o.inj i;clear d;have d:=Hi a;clear i a;have b:=f.o.below d.o.base f.o.lt;have c:=g.o.below d.o.base g.o.lt;obtain⟨k,l,-⟩:=zc b;obtain⟨m,p,-⟩:=zc c;clear b c
        skip)
      |
       (go_at_call_of 82 (Value.string t)
        apply cM;apply FBag.of (w0:=W) (n:=1048576);(focus(first|exact d.o|exact d.o.drew));assumption;decide;rintro e r ⟨u,i,x1,x2,x3,rfl,a⟩;obtain rfl:=I.o.inj i;clear d;have d:=Hi a;clear i a;have b:=f.o.below d.o.base f.o.lt;have c:=g.o.below d.o.base g.o.lt;obtain⟨k,l,-⟩:=zc b;obtain⟨m,p,-⟩:=zc c;clear b c
        skip)
      |
       (go_at_call_of 82 (Value.string t0)
        apply cM;apply FBag.of (w0:=W) (n:=1048576);(focus(first|exact d.o|exact d.o.drew));assumption;decide;rintro e r ⟨u,i,x1,x2,x3,rfl,a⟩;obtain rfl:=J.o.inj i;clear d;have d:=Hi a;clear i a;have b:=f.o.below d.o.base f.o.lt;have c:=g.o.below d.o.base g.o.lt;obtain⟨k,l,-⟩:=zc b;obtain⟨m,p,-⟩:=zc c;clear b c
        skip)
      |
       (go_at_call_of 82 (Value.string t1)
        apply cM;apply FBag.of (w0:=W) (n:=1048576);(focus(first|exact d.o|exact d.o.drew));assumption;decide;rintro e r ⟨u,i,x1,x2,x3,rfl,a⟩;obtain rfl:=K.o.inj i;clear d;have d:=Hi a;clear i a;have b:=f.o.below d.o.base f.o.lt;have c:=g.o.below d.o.base g.o.lt;obtain⟨k,l,-⟩:=zc b;obtain⟨m,p,-⟩:=zc c;clear b c
        skip)
      |
       (go_at_call 158
        apply cM;apply FBag.equalT (w0:=W);(focus(first|exact d.o|exact d.o.drew));(focus(repeat(first|exact mH|apply mT)));(focus(repeat(first|exact mH|apply mT)));exact x.o;rintro e r ⟨rfl,a⟩;clear d;have d:=Hi a;clear a;have b:=f.o.below d.o.base f.o.lt;have c:=g.o.below d.o.base g.o.lt;obtain⟨k,l,-⟩:=zc b;obtain⟨m,p,-⟩:=zc c;clear b c
        skip)
      |
       (go_at_call 158
        apply cM;apply FBag.equalT (w0:=W);(focus(first|exact d.o|exact d.o.drew));(focus(repeat(first|exact mH|apply mT)));(focus(repeat(first|exact mH|apply mT)));exact z.o;rintro e r ⟨rfl,a⟩;clear d;have d:=Hi a;clear a;have b:=f.o.below d.o.base f.o.lt;have c:=g.o.below d.o.base g.o.lt;obtain⟨k,l,-⟩:=zc b;obtain⟨m,p,-⟩:=zc c;clear b c
        skip)
      ))
    |fail
   all_goals
    go_wp2;go_ret;exact⟨rfl,j.o.trans (d.o.base.mono j.o.size)⟩
  .
   have z:=Hi F;rw[decide_eq_false (fun h=>F h.2)];clear y F;obtain⟨G,H,I,J,K⟩:=Id A B C D E;clear A B C D E;go_enter func121,ntmps121;go_wp2_with fail;obtain⟨W,q⟩:=nm ((w.alloc (.cells #[.string s,.string t] 56)).alloc (.cells #[.string t0,.string t1] 56));have j:=Ub q;have f:=Ud q;have g:=Ue q;rw[q];have d:=Hi (FBag.start (G.o.below j.o));clear q;have b:=f.o.below d.o.base f.o.lt;have c:=g.o.below d.o.base g.o.lt;obtain⟨k,-⟩:=zc b
   obtain⟨-,l,-⟩:=zc b;obtain⟨m,p,-⟩:=zc c;clear b c
   first
    |(
     go_region_held3 (fun v=>v.cell? ⟨w.heap.size,0,none⟩=some (.string s)/\v.cell? ⟨w.heap.size,1,none⟩=some (.string t)/\v.cell? ⟨w.heap.size+1,0,none⟩=some (.string t0)/\v.cell? ⟨w.heap.size+1,1,none⟩=some (.string t1)) ((first|(simp [*];done)|go_keep)) (first
      |
       (go_at_call_of 82 (Value.string s)
        apply cM;apply FBag.of (w0:=W) (n:=1048576);(focus(first|exact d.o|exact d.o.drew));assumption;decide;rintro e r ⟨u,i,x1,x2,x3,rfl,a⟩;obtain rfl:=H.o.inj i;clear d;have d:=Hi a;clear i a;have b:=f.o.below d.o.base f.o.lt;have c:=g.o.below d.o.base g.o.lt;obtain⟨k,l,-⟩:=zc b;obtain⟨m,p,-⟩:=zc c;clear b c
        skip)
      |
       (go_at_call_of 82 (Value.string t)
        apply cM;apply FBag.of (w0:=W) (n:=1048576);(focus(first|exact d.o|exact d.o.drew));assumption;decide;rintro e r ⟨u,i,x1,x2,x3,rfl,a⟩;obtain rfl:=I.o.inj i;clear d;have d:=Hi a;clear i a;have b:=f.o.below d.o.base f.o.lt;have c:=g.o.below d.o.base g.o.lt;obtain⟨k,l,-⟩:=zc b;obtain⟨m,p,-⟩:=zc c;clear b c
        skip)
      |
       (go_at_call_of 82 (Value.string t0)
        apply cM;apply FBag.of (w0:=W) (n:=1048576);(focus(first|exact d.o|exact d.o.drew));assumption;decide;rintro e r ⟨u,i,x1,x2,x3,rfl,a⟩;obtain rfl:=J.o.inj i;clear d;have d:=Hi a;clear i a;have b:=f.o.below d.o.base f.o.lt;have c:=g.o.below d.o.base g.o.lt;obtain⟨k,l,-⟩:=zc b;obtain⟨m,p,-⟩:=zc c;clear b c
        skip)
      |
       (go_at_call_of 82 (Value.string t1)
        apply cM;apply FBag.of (w0:=W) (n:=1048576);(focus(first|exact d.o|exact d.o.drew));assumption;decide;rintro e r ⟨u,i,x1,x2,x3,rfl,a⟩;obtain rfl:=K.o.inj i;clear d;have d:=Hi a;clear i a;have b:=f.o.below d.o.base f.o.lt;have c:=g.o.below d.o.base g.o.lt;obtain⟨k,l,-⟩:=zc b;obtain⟨m,p,-⟩:=zc c;clear b c
        skip)
      |
       (go_at_call 158
        apply cM;apply FBag.equalT (w0:=W);(focus(first|exact d.o|exact d.o.drew));(focus(repeat(first|exact mH|apply mT)));(focus(repeat(first|exact mH|apply mT)));exact x.o;rintro e r ⟨rfl,a⟩;clear d;have d:=Hi a;clear a;have b:=f.o.below d.o.base f.o.lt;have c:=g.o.below d.o.base g.o.lt;obtain⟨k,l,-⟩:=zc b;obtain⟨m,p,-⟩:=zc c;clear b c
        skip)
      |
       (go_at_call 158
        apply cM;apply FBag.equalF (w0:=W);(focus(first|exact d.o|exact d.o.drew));(focus(repeat(first|exact mH|apply mT)));(focus(repeat(first|exact mH|apply mT)));exact z.o;rintro e r ⟨rfl,a⟩;clear d;have d:=Hi a;clear a;have b:=f.o.below d.o.base f.o.lt;have c:=g.o.below d.o.base g.o.lt;obtain⟨k,l,-⟩:=zc b;obtain⟨m,p,-⟩:=zc c;clear b c
        skip)
      ))
    |fail
   all_goals
    go_wp2;go_ret;exact⟨rfl,j.o.trans (d.o.base.mono j.o.size)⟩
 .
  have x:=Hi y;rw[decide_eq_false (fun h=>y h.1)];clear y;obtain⟨G,H,I,J,K⟩:=Id A B C D E;clear A B C D E;go_enter func121,ntmps121;go_wp2_with fail;obtain⟨W,q⟩:=nm ((w.alloc (.cells #[.string s,.string t] 56)).alloc (.cells #[.string t0,.string t1] 56));have j:=Ub q;have f:=Ud q;have g:=Ue q;rw[q];have d:=Hi (FBag.start (G.o.below j.o));clear q;have b:=f.o.below d.o.base f.o.lt;have c:=g.o.below d.o.base g.o.lt;obtain⟨k,-⟩:=zc b
  obtain⟨-,l,-⟩:=zc b;obtain⟨m,p,-⟩:=zc c;clear b c
  first
   |(
    go_region_with (first
     |
      (go_at_call_of 82 (Value.string s)
       apply cM;apply FBag.of (w0:=W) (n:=1048576);(focus(first|exact d.o|exact d.o.drew));assumption;decide;rintro e r ⟨u,i,x1,x2,x3,rfl,a⟩;obtain rfl:=H.o.inj i;clear d;have d:=Hi a;clear i a;have b:=f.o.below d.o.base f.o.lt;have c:=g.o.below d.o.base g.o.lt;obtain⟨k,l,-⟩:=zc b;obtain⟨m,p,-⟩:=zc c;clear b c
       skip)
     |
      (go_at_call_of 82 (Value.string t)
       apply cM;apply FBag.of (w0:=W) (n:=1048576);(focus(first|exact d.o|exact d.o.drew));assumption;decide;rintro e r ⟨u,i,x1,x2,x3,rfl,a⟩;obtain rfl:=I.o.inj i;clear d;have d:=Hi a;clear i a;have b:=f.o.below d.o.base f.o.lt;have c:=g.o.below d.o.base g.o.lt;obtain⟨k,l,-⟩:=zc b;obtain⟨m,p,-⟩:=zc c;clear b c
       skip)
     |
      (go_at_call_of 82 (Value.string t0)
       apply cM;apply FBag.of (w0:=W) (n:=1048576);(focus(first|exact d.o|exact d.o.drew));assumption;decide;rintro e r ⟨u,i,x1,x2,x3,rfl,a⟩;obtain rfl:=J.o.inj i;clear d;have d:=Hi a;clear i a;have b:=f.o.below d.o.base f.o.lt;have c:=g.o.below d.o.base g.o.lt;obtain⟨k,l,-⟩:=zc b;obtain⟨m,p,-⟩:=zc c;clear b c
       skip)
     |
      (go_at_call_of 82 (Value.string t1)
       apply cM;apply FBag.of (w0:=W) (n:=1048576);(focus(first|exact d.o|exact d.o.drew));assumption;decide;rintro e r ⟨u,i,x1,x2,x3,rfl,a⟩;obtain rfl:=K.o.inj i;clear d;have d:=Hi a;clear i a;have b:=f.o.below d.o.base f.o.lt;have c:=g.o.below d.o.base g.o.lt;obtain⟨k,l,-⟩:=zc b;obtain⟨m,p,-⟩:=zc c;clear b c
       skip)
     |
      (go_at_call 158
       apply cM;apply FBag.equalF (w0:=W);(focus(first|exact d.o|exact d.o.drew));(focus(repeat(first|exact mH|apply mT)));(focus(repeat(first|exact mH|apply mT)));exact x.o;rintro e r ⟨rfl,a⟩;clear d;have d:=Hi a;clear a;have b:=f.o.below d.o.base f.o.lt;have c:=g.o.below d.o.base g.o.lt;obtain⟨k,l,-⟩:=zc b;obtain⟨m,p,-⟩:=zc c;clear b c
       skip)
     ))
   |fail
  all_goals
   go_wp2;go_ret;exact⟨rfl,j.o.trans (d.o.base.mono j.o.size)⟩
def BarVal(p q:S2)(b:B6)(c:Int):Prop:=
 ∃px py qx qy vc vl vm,QOf p.x.data.toList px/\QOf p.y.data.toList py/\QOf q.x.data.toList qx/\QOf q.y.data.toList qy/\QOf b.c.data.toList vc/\QOf b.l.data.toList vl/\QOf b.m.data.toList vm/\
  c=if px=qx/\py=qy then 5 else if sgn3 vc.num<=0∨0<sgn3 vl.num∨sgn3 vm.num<0 then 5 else 0
def BarCode(js:List S2)(b:B6)(c:Int):Prop:=
 (¬(IsJ js.length b.a/\IsJ js.length b.b)/\c=4)∨
 (IsJ js.length b.a/\IsJ js.length b.b/\∃p q,js[b.a.toNat]?=some p/\js[b.b.toNat]?=some q/\BarVal p q b c)
theorem BarVal.inj{p q:S2}{b:B6}{c d:Int}(h:BarVal p q b c)(k:BarVal p q b d):c=d:=by
 obtain⟨C,D,E,F,G,H,I,a,e,f,g,i,j,l,rfl⟩:=h;obtain⟨m,n,o,r,s,t,u,v,w,x,y,z,A,B,rfl⟩:=k;obtain rfl:=a.inj v;obtain rfl:=e.inj w;obtain rfl:=f.inj x;obtain rfl:=g.inj y;obtain rfl:=i.inj z;obtain rfl:=j.inj A;obtain rfl:=l.inj B;rfl
theorem BarCode.inj{i:List S2}{b:B6}{c d:Int}(h:BarCode i b c)(k:BarCode i b d):c=d:=by
 rcases h with ⟨f,rfl⟩|⟨f,j,p,q,l,m,n⟩
 .
  rcases k with ⟨_,rfl⟩|⟨g,o,_⟩
  . rfl
  . exact absurd ⟨g,o⟩ f
 .
  rcases k with ⟨g,_⟩|⟨_,_,s,t,a,e,r⟩
  . exact absurd ⟨f,j⟩ g
  .
   rw[l] at a;rw[m] at e;cases a;cases e;exact n.inj r
structure FrSized (js:List S2) (bs:List B6) (hs:List H3):Prop where
 j:∀p,p∈ js->p.x.size<=1048576/\p.y.size<=1048576
 b:∀b,b∈ bs->b.c.size<=1048576/\b.e.size<=1048576/\b.l.size<=1048576/\b.m.size<=1048576
 h:∀x,x∈ hs->x.q.size<=1048576
theorem Qtg(a:Vx)(n cap:Nat)(b d:Int)(j l m p:Vs)(w:Vz)(q:¬(IsJ n b/\IsJ n d)):
 Calls prog 74 #[.slice a n cap,.agg #[.int .i64 b,.int .i64 d,.string j,.string l,.string m,.string p]] w fun e w'=>e=.returned (.int .i64 4)/\Below w.heap.size w w':=by
 rcases(show IsJ n b/\¬IsJ n d∨¬IsJ n b from Classical.byCases (fun h:IsJ n b=>.inl ⟨h,fun k=>q ⟨h,k⟩⟩) .inr) with ⟨h1,h2⟩|h1
 all_goals
  have r:=Hi h1
  try have s:=Hi h2
  try clear h2
  clear h1 q;go_enter func74,ntmps74;obtain⟨W,f⟩:=nm (w.alloc (.cells #[.int .i64 b,.int .i64 d,.string j,.string l,.string m,.string p] 80));have i:=Ua f;have g:=Uc f;have t:O (Below W.heap.size W W):=Hi bR;have c:=g.o.below t.o g.o.lt;obtain⟨u,v,x,y,z,-⟩:=zc c
  obtain⟨-,-,-,-,-,A,-⟩:=zc c;clear c;rw[<-f] at u v x y z A;have B:=Hi f;clear f;go_wp2_with fail
  first
   |(
    go_fit (Qbd a n cap b _ r.o);rintro e w1 ⟨rfl,rfl⟩;go_wp2_with fail
    go_fit (Qem a n cap d _ s.o))
   |go_fit (Qem a n cap b _ r.o)
  rintro e w2 ⟨rfl,rfl⟩;go_wp2;go_ret;exact⟨rfl,by rw[B.o];exact i.o⟩
theorem Qth(a:Vx)(cap k l:Nat)(r:List S2)(p q:S2)(J be K L:Vs)(s t u z V X Y:Rat)(w:Vz)(hg:Glob w)(hj:ARow S2.cells w a cap r)(Z:r[k]?=some p)(i:r[l]?=some q)
 (z1:p.x.size<=1048576/\p.y.size<=1048576) (z2:q.x.size<=1048576/\q.y.size<=1048576) (z3:J.size<=1048576/\K.size<=1048576/\L.size<=1048576)
 (q1:QOf p.x.data.toList s) (q2:QOf p.y.data.toList t) (q3:QOf q.x.data.toList u) (q4:QOf q.y.data.toList z) (q5:QOf J.data.toList V) (q6:QOf K.data.toList X) (q7:QOf L.data.toList Y):
 Calls prog 74 #[.slice a r.length cap,.agg #[.int .i64 k,.int .i64 l,.string J,.string be,.string K,.string L]] w fun e w'=>e=.returned (.int .i64 (if s=u/\t=z then 5 else if sgn3 V.num<=0∨0<sgn3 X.num∨sgn3 Y.num<0 then 5 else 0))/\Below w.heap.size w w':=by
 have Z3:=Hi z3;clear z3;obtain⟨M,A⟩:=nm (sgn3 V.num);obtain⟨S,B⟩:=nm (sgn3 X.num);obtain⟨sm,C⟩:=nm (sgn3 Y.num);rw[A,B,C];obtain⟨SC,SL,SM⟩:=Ib A B C;clear A B C;have gg:∀v:Int,(if s=u/\t=z then 5 else if M<=0∨0<S∨sm<0 then 5 else 0)=v->decide (s=u/\t=z)=true/\v=5∨decide (s=u/\t=z)=false/\(M<=0/\v=5∨¬M<=0/\0<S/\v=5∨¬M<=0/\¬0<S/\sm<0/\v=5∨¬M<=0/\¬0<S/\¬sm<0/\v=0):=by
  intro v T;by_cases m:s=u/\t=z
  . rw[if_pos m] at T
    exact .inl ⟨decide_eq_true m,T.symm⟩
  .
   rw[if_neg m] at T;refine .inr ⟨decide_eq_false m,?_⟩
   split at T<;>omega
 rcases gg _ rfl with ⟨hd,e⟩|⟨hd,⟨c1,e⟩|⟨c1,c2,e⟩|⟨c1,c2,c3,e⟩|⟨c1,c2,c3,e⟩⟩
 all_goals
  rw[e];have HD:=Hi hd;clear hd e gg;obtain⟨HG,HJ,HP,HQ,Z1,Z2,Q1,Q2,Q3⟩:=Ih hg hj Z i z1 z2 q1 q2 q3;obtain⟨Q4,Q5,Q6,Q7⟩:=Ic q4 q5 q6 q7;have i1:((0:Int)<=(k:Int)):=by omega
  have i2:((0:Int)<=(l:Int)):=by omega
  have i3:((k:Int)<(r.length:Int)):=by have:=(gZ Z).1;omega
  have i4:((l:Int)<(r.length:Int)):=by have:=(gZ i).1;omega
  clear hg hj Z i z1 z2 q1 q2 q3 q4 q5 q6 q7;go_enter func74,ntmps74;obtain⟨W,N⟩:=nm (w.alloc (.cells #[.int .i64 (k:Int),.int .i64 (l:Int),.string J,.string be,.string K,.string L] 80));have g:=Ua N;have d:=Uc N;have HR:O (Below W.heap.size W W):=Hi bR;have b:=d.o.below HR.o d.o.lt;obtain⟨D,E,F,G,-⟩:=zc b
  obtain⟨-,-,-,-,H,I,-⟩:=zc b;clear b;obtain⟨b1,U,ha,l1,d0,d1⟩:=(HJ.o.below g.o).spot HP.o;obtain⟨b2,o2,aa,l2,d2,d3⟩:=(HJ.o.below g.o).spot HQ.o;subst ha;cases aa;rw[<-N] at D E F G H I d0 d1 d2 d3;have HW:=Hi N;clear N;go_wp2_with fail;go_fit (Qbd _ r.length cap k _ ⟨i1,i3⟩);rintro e w1 ⟨rfl,rfl⟩;go_wp2_with fail;go_fit (Qbd _ r.length cap l _ ⟨i2,i4⟩);rintro e w2 ⟨rfl,rfl⟩;go_wp2_with fail;rw[HW.o];rw[HW.o] at D E F G H I d0 d1 d2 d3
  go_region_held3 (fun v=>v.cell? ⟨w.heap.size,0,none⟩=some (.int .i64 k)/\v.cell? ⟨w.heap.size,1,none⟩=some (.int .i64 l)/\v.cell? ⟨b1,U+k*2,none⟩=some (.string p.x)/\v.cell? ⟨b1,U+k*2+1,none⟩=some (.string p.y)/\v.cell? ⟨b1,U+l*2,none⟩=some (.string q.x)/\v.cell? ⟨b1,U+l*2+1,none⟩=some (.string q.y)) ((first|(simp [*];done)|go_keep)) (first
   |(
    go_at_call 121;apply cM;apply Qtf p.x p.y q.x q.y s t u z;(first|exact HG.o.below g.o|exact HG.o.below g.o.drew);exact Z1.o.1;exact Z1.o.2;exact Z2.o.1;exact Z2.o.2;exact Q1.o;exact Q2.o;exact Q3.o;exact Q4.o;rintro e P ⟨rfl,Q⟩;rw[HD.o];have h:O (Below W.heap.size W P):=Hi ((bR.drew).trans Q);have R:=Hi ((HJ.o.below g.o).below h.o);obtain⟨b3,o3,ab,l3,d0,d1⟩:=R.o.spot HP.o;obtain⟨b4,o4,ad,l4,d2,d3⟩:=R.o.spot HQ.o;cases ab;cases ad;have b:=d.o.below h.o d.o.lt;obtain⟨D,E,F,G,-⟩:=zc b
    obtain⟨-,-,-,-,H,I,-⟩:=zc b;clear b
    clear Q)
   )
  have f:=Hi (FBag.start ((HG.o.below g.o).below h.o));go_wp2_with (first
   |
    (go_at_call_of 82 (Value.string J)
     apply cM;apply FBag.of (w0:=P) (n:=1048576);(focus(first|exact f.o|exact f.o.drew));exact Z3.o.1;decide;rintro e wm ⟨qq,i,x1,x2,x3,rfl,c⟩;obtain rfl:=Q5.o.inj i;clear f;have f:=Hi c;clear i c;have j:=Hi (h.o.trans (f.o.base.mono h.o.size));have b:=d.o.below j.o d.o.lt;obtain⟨D,E,F,G,H,I,-⟩:=zc b;clear b
     clear j)
   |
    (go_at_call_of 82 (Value.string K)
     apply cM;apply FBag.of (w0:=P) (n:=1048576);(focus(first|exact f.o|exact f.o.drew));exact Z3.o.2.1;decide;rintro e wm ⟨qq,i,x1,x2,x3,rfl,c⟩;obtain rfl:=Q6.o.inj i;clear f;have f:=Hi c;clear i c;have j:=Hi (h.o.trans (f.o.base.mono h.o.size));have b:=d.o.below j.o d.o.lt;obtain⟨D,E,F,G,H,I,-⟩:=zc b;clear b
     clear j)
   |
    (go_at_call_of 82 (Value.string L)
     apply cM;apply FBag.of (w0:=P) (n:=1048576);(focus(first|exact f.o|exact f.o.drew));exact Z3.o.2.2;decide;rintro e wm ⟨qq,i,x1,x2,x3,rfl,c⟩;obtain rfl:=Q7.o.inj i;clear f;have f:=Hi c;clear i c;have j:=Hi (h.o.trans (f.o.base.mono h.o.size));have b:=d.o.below j.o d.o.lt;obtain⟨D,E,F,G,H,I,-⟩:=zc b;clear b
     clear j)
   |
    (go_at_call 122
     apply cM;apply FBag.sign (w0:=P);(focus(first|exact f.o|exact f.o.drew));(focus(repeat(first|exact mH|apply mT)));rintro e wm ⟨rfl,c⟩;(first|rw[SC.o]|rw[SL.o]|rw[SM.o]);clear f;have f:=Hi c;clear c;have j:=Hi (h.o.trans (f.o.base.mono h.o.size));have b:=d.o.below j.o d.o.lt;obtain⟨D,E,F,G,H,I,-⟩:=zc b;clear b
     clear j)
   |fail)
  go_ret;exact⟨rfl,g.o.trans ((h.o.trans (f.o.base.mono h.o.size)).mono g.o.size)⟩
end Go.Proofs.YtppkmifkpjkgpaaGreatDoor
namespace Go.Proofs.YtppkmifkpjkgpaaGreatDoor
open Go.RowKit Go.MapKept
open Go.Proofs.Tryz
set_option linter.unusedSimpArgs false
set_option linter.unusedVariables false
set_option maxHeartbeats 8000000
set_option maxRecDepth 1000000
abbrev pairV(p:Int × Int):Value:=.agg #[.int .i64 p.1,.int .i64 p.2]
theorem Qja:(prog.info? 3).map (fun i=>(i.zero,i.size,i.bytes))=some (some (.int .i64 0),1,8):=by kernel_rfl
theorem Qjb:prog.plainKey 3=true:=by kernel_rfl
theorem cellsInt:prog.cellsOf 3=1:=by kernel_rfl
theorem Qpx(b:Bool)(n:Nat)(p:Int × Int)(w:Vz):(Instr.checkKey b (n+2) 177 (pairV p)).run prog w=.ok () w:=by
 obtain⟨i,d,h⟩:=Option.map_eq_some_iff.1 Qja;simp only[Prod.mk.injEq] at h;obtain⟨g,e,l⟩:=h;have c:∀(v:Int) (w:Vz),(Instr.checkKey b (n+1) 3 (.int .i64 v)).run prog w=.ok () w:=fun v w=>Go.MapKept.run_checkKey (k:=.int .i64 v) underlying3 (by simp[IsKey]) b n
 have a:∀(j:Nat) (v:Value) (w:Vz),#[Value.int .i64 p.1,.int .i64 p.2][j]?=some v->(part 3 #[.int .i64 p.1,.int .i64 p.2] j).run prog w=.ok v w:=fun j v w f=>run_part_plain w Qjb f
 simp only[Instr.checkKey,Sem.run_bind,run_underlying underlying177,Result.andThen_ok];simp only[Std.Legacy.Range.forIn_eq_forIn_range',Std.Legacy.Range.size];simp[List.range',run_sizeOf _ d,e,c,cellsInt,a 0 _ _ rfl,a 1 _ _ rfl]
theorem Qfx(b:Bool)(p:Int × Int)(w:Vz):(Instr.checkKey b 10000 177 (pairV p)).run prog w=.ok () w:=Qpx b 9998 p w
theorem Qpy(n:Nat)(p q:Int × Int)(w:Vz):(Op.equalIn (n+2) 177 (pairV p) (pairV q)).run prog w=.ok (decide (p=q)) w:=by
 obtain⟨i,e,h⟩:=Option.map_eq_some_iff.1 Qja;rw[run_equalIn_array w (n+1) _ _ underlying177 e];have a:∀(r:Int × Int) (j:Nat) (v:Value) (w:Vz),#[Value.int .i64 r.1,.int .i64 r.2][j]?=some v->(part 3 #[.int .i64 r.1,.int .i64 r.2] j).run prog w=.ok v w:=fun r j v w f=>run_part_plain w Qjb f
 have b:∀(x y:Int) (w:Vz),(Op.equalIn (n+1) 3 (.int .i64 x) (.int .i64 y)).run prog w=.ok (x == y) w:=by
  intro x y w;simp[Op.equalIn,run_underlying underlying3]
 simp[List.range,List.range.loop,Op.eqItems,cellsInt,a p 0 _ _ rfl,a p 1 _ _ rfl,a q 0 _ _ rfl,a q 1 _ _ rfl,b];obtain⟨g,k⟩:=p;obtain⟨l,m⟩:=q;by_cases c:g=l
 .
  by_cases d:k=m
  . simp[c,d]
  . simp[c,d]
 . simp[c]
theorem Qjc(p q:Int × Int)(w:Vz):(Op.equal 177 (pairV p) (pairV q)).run prog w=.ok (decide (p=q)) w:=Qpy 9998 p q w
def PairSet(es:Array MapEntry)(ps:List (Int × Int)):Prop:=es.toList.map (fun e=>(e.key,e.val))=ps.map fun p=>(pairV p,Value.agg #[])
theorem Qfy(p:Int × Int)(w:Vz):∀(c:List MapEntry) (b:List (Int × Int)) (k:Nat),c.map (fun e=>(e.key,e.val))=b.map (fun p=>(pairV p,Value.agg #[]))->
 ∃r:Option (Nat × Value),(Instr.findAsking 177 (pairV p) c k).run prog w=.ok r w/\(p∈ b->∃j,r=some (j,.agg #[]))/\(p ∉ b->r=none)
 | [],b,k,h=>by
   have:b= []:=by simpa using h.symm
   subst this;exact⟨none,by simp[Instr.findAsking],by simp,fun _=>rfl⟩
 |e :: c,[],k,h=>by simp at h
 |e :: c,q :: b,k,h=>by
  simp only[List.map_cons,List.cons.injEq,Prod.mk.injEq] at h;obtain⟨⟨hk,g⟩,i⟩:=h;by_cases a:p=q
  . exact⟨some (k,.agg #[]),by simp[Instr.findAsking,hk,g,Qjc,a],fun _=>⟨k,rfl⟩,fun d=>absurd (by simp[a]) d⟩
  .
   obtain⟨r,l,m,n⟩:=Qfy p w c b (k+1) i;refine⟨r,?_,fun f=>m ?_,fun d=>n ?_⟩
   . simp only[Instr.findAsking,hk,Sem.run_bind,Qjc,Result.andThen_ok,a,decide_false]
     simpa using l
   .
    rcases List.mem_cons.1 f with h|h
    . exact absurd h a
    . exact h
   . intro f
     exact d (List.mem_cons_of_mem _ f)
theorem Qpz:∀w,(zeroValue 178).run prog w=.ok (.agg #[]) w:=Tryz.zeroValue178
theorem Qp0(r a:Nat)(b:Array MapEntry)(c:List (Int × Int))(p:Int × Int)(w:Vz)(e:w.heap[r]?=some (.map b a))(g:PairSet b c):
 (Instr.lookup 176 (.map (some r)) (pairV p) true).run prog w=.ok (.tuple #[.agg #[],.bool (decide (p∈ c))]) w:=by
 obtain⟨x,h,i,k⟩:=Qfy p w b.toList c 0 g;have f:(Instr.findKey 177 (pairV p) b.toList).run prog w=.ok x w:=by
  rw[run_findKey_eq w (by rw[underlying177])];exact h
 by_cases d:p∈ c
 . obtain⟨j,rfl⟩:=i d
   simp[Instr.lookup,run_underlying underlying176,Go.MapKept.run_getObj_map e,Qfx,f,d]
 . obtain rfl:=k d
   simp[Instr.lookup,run_underlying underlying176,Go.MapKept.run_getObj_map e,Qfx,f,d,Qpz]
theorem Qp1(r a:Nat)(b:Array MapEntry)(c:List (Int × Int))(p:Int × Int)(w:Vz)(d:w.heap[r]?=some (.map b a))(e:PairSet b c)(f:p ∉ c):
 (Instr.mapUpdate 176 (.map (some r)) (pairV p) (.agg #[])).run prog w=.ok () { w with heap:=w.heap.setIfInBounds r (.map (b.push { key:=pairV p,val:=.agg #[],born:=a }) (a+1)) }:=by
 obtain⟨x,g,j,h⟩:=Qfy p w b.toList c 0 e;have i:(Instr.findKey 177 (pairV p) b.toList).run prog w=.ok x w:=by
  rw[run_findKey_eq w (by rw[underlying177])];exact g
 obtain rfl:=h f;simp[Instr.mapUpdate,run_underlying underlying176,Go.MapKept.run_getObj_map d,Qfx,i,Go.MapKept.run_setObj_map _ d,Result.andThen]
end Go.Proofs.YtppkmifkpjkgpaaGreatDoor
