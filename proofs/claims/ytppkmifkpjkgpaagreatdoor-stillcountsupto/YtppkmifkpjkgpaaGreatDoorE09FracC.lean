import Derived.Test.YtppkmifkpjkgpaaGreatDoorE08FracA
namespace Go.Proofs.YtppkmifkpjkgpaaGreatDoor
open Go.RowKit
open Go.Proofs.Tryz
set_option linter.unusedSimpArgs false
set_option linter.unusedVariables false
set_option maxHeartbeats 8000000
set_option maxRecDepth 1000000
theorem Qow{p q:Bool}{x y:Nat}(h:p≠q)(a:x<=y):sgn q (y - x)=sgn p x+sgn q y:=by
 cases p<;>cases q<;>simp[sgn] at h ⊢ <;>omega
theorem Qox{p q:Bool}{x y:Nat}(h:p≠q)(a:y<=x):sgn p (x - y)=sgn p x+sgn q y:=by
 cases p<;>cases q<;>simp[sgn] at h ⊢ <;>omega
theorem Qoy(p:Bool)(x y:Nat):sgn p (x+y)=sgn p x+sgn p y:=by
 cases p<;>simp[sgn]<;>omega
theorem Qoz{x j k:Nat}(h:x<2 ^ j)(hk:j<=k):x<2 ^ k:=Nat.lt_of_lt_of_le h (Nat.pow_le_pow_right (by decide) hk)
theorem NBag.grow{w0 w:Vz}{L:List Ent}{a:Vx}{n c x j k:Nat}(h:NBag w0 w (⟨a,n,c,x,j⟩ :: L))(hk:j<=k):NBag w0 w (⟨a,n,c,x,k⟩ :: L):=
 ⟨h.base,fun t b=>by
   rcases List.mem_cons.1 b with rfl|b
   . exact⟨(h.ts _ (List.Mem.head _)).1,Qoz (h.ts _ (List.Mem.head _)).2 hk⟩
   . exact h.ts t (List.mem_cons_of_mem _ b)⟩
theorem NBag.rebase{w0 w:Vz}{L:List Ent}(h:NBag w0 w L):NBag w w L:=⟨Below.refl _ _,h.ts⟩
def Signed(w0:Vz)(L:List Ent)(k:Nat)(z:Int)(e:Ending)(w':Vz):Prop:=∃r a n c t,e=.returned (.tuple #[.bool r,.slice a n c])/\NBag w0 w' (⟨a,n,c,t,k⟩ :: L)/\sgn r t=z
theorem NBag.addSigned{w0 w:Vz}{L:List Ent}{v z:Vx}{n1 A c1 c2 x y j k:Nat}{p q:Bool}(h:NBag w0 w L)(g:⟨v,n1,c1,x,j⟩∈ L)(i:⟨z,A,c2,y,k⟩∈ L)(t:j+k<274877906000):
 Calls prog 176 #[.bool p,.slice v n1 c1,.bool q,.slice z A c2] w (Signed w0 L (j+k+1) (sgn p x+sgn q y)):=by
 by_cases d:p=q
 .
  subst d;have f:=Hi (h.add g i t);clear h g i t;go_enter func176,ntmps176;go_wp2_with fail;go_fit f.o;rintro e r ⟨a,n,c,rfl,b⟩;have l:=Hi b;clear b f;go_wp2;go_ret2;exact⟨p,a,n,c,x+y,rfl,l.o,Qoy p x y⟩
 .
  have B:(p == q)=false:=by simpa using d
  obtain⟨s,C,D,E⟩:=Ic (h.compare g i) g i d;clear h g i t d;by_cases u:x<y
  .
   have m:=(Qaw x y).2 u;go_enter func176,ntmps176;go_wp2_with fail;go_fit s.o;rintro e r ⟨rfl,b⟩;have f:=Hi (b.sub D.o C.o (by omega));clear b s;go_wp2_with fail;go_fit f.o;rintro e r ⟨a,n,c,rfl,b⟩;have l:=Hi b;clear b f;go_wp2;go_ret2;exact⟨q,a,n,c,y - x,rfl,l.o.grow (by omega),Qow E.o (by omega)⟩
  .
   have m:¬(cmp3 x y<0):=fun h=>by have:=(Qaw x y).1 h;omega
   go_enter func176,ntmps176;go_wp2_with fail;go_fit s.o;rintro e r ⟨rfl,b⟩;have f:=Hi (b.sub C.o D.o (by omega));clear b s;go_wp2_with fail;go_fit f.o;rintro e r ⟨a,n,c,rfl,b⟩;have l:=Hi b;clear b f;go_wp2;go_ret2;exact⟨p,a,n,c,x - y,rfl,l.o.grow (by omega),Qox E.o (by omega)⟩
theorem Qo0{neg:Bool}{t k g:Nat}(hk:0<k)(b:Nat.gcd t k=g):mkRat (sgn neg (t / g)) (k / g)=mkRat (sgn neg t) k/\Nat.Coprime (t / g) (k / g)/\0<k / g/\0<g:=by
 have d:0<g:=by rw[<-b];exact Nat.gcd_pos_of_pos_right _ hk
 have d1:=b ▸ Nat.gcd_dvd_left _ _;have d2:=b ▸ Nat.gcd_dvd_right _ _;have e:=Nat.div_mul_cancel d1;have c:=Nat.div_mul_cancel d2;refine⟨?_,by have:=Nat.coprime_div_gcd_div_gcd (m:=t) (n:=k) (by omega);rw[b] at this;exact this,?_,d⟩
 .
  rw[<-Rat.mkRat_mul_right (a:=g) (by omega),c]
  congr 1
  have:=Qcc neg false (t / g) g;rw[show sgn false g=(g:Int) from rfl,e,Bool.bne_false] at this;exact this.symm
 .
  rcases Nat.eq_zero_or_pos (k / g) with h|h
  . rw[h] at c;omega
  . exact h
theorem NBag.start{w:Vz}{a b:Vx}{n c m d t k i j:Nat}(e:NumV w a n c t)(hk:NumV w b m d k)(f:t<2 ^ i)(g:k<2 ^ j):NBag w w [⟨a,n,c,t,i⟩,⟨b,m,d,k,j⟩]:=by
 refine⟨Below.refl _ _,fun s hs=>?_⟩;simp only[List.mem_cons,List.not_mem_nil,or_false] at hs;rcases hs with rfl|rfl
 . exact⟨e,f⟩
 . exact⟨hk,g⟩
theorem Qo1(neg:Bool)(a b:Vx)(n c m d t k i j:Nat)(w:Vz)(E:NumV w a n c t)(hk:NumV w b m d k)(F:t<2 ^ i)(H:k<2 ^ j)(I:i+j<137438953000):
 Calls prog 135 #[.bool neg,.slice a n c,.slice b m d] w (FNew w (mkRat (sgn neg t) k)):=by
 have J:=hk.zero_iff;by_cases K:k=0
 .
  have O:=J.1 K;subst K O;rw[Rat.mkRat_zero];have S:=Hi ((Below.refl w.heap.size w).alloc lZ (.cells #[.bool false,.slice none 0 0,.slice none 0 0] 141));clear E hk F H I J;go_enter func135,ntmps135;go_wp2;refine bodyPost_ret (v:=.agg #[.bool false,.slice none 0 0,.slice none 0 0]) (results_cell_row rfl _ _ w.heap.size 141 #[.bool false,.slice none 0 0,.slice none 0 0] (0,0) _ rfl (SB.new w _ _) underlying141 rfl Tryz.fracInfo) rfl ?_;exact⟨⟨_,rfl,FracV.zero _⟩,S.o⟩
 .
  have O:((m:Int) == 0)=false:=by rw[beq_eq_false_iff_ne];omega
  obtain⟨G,hG⟩:=nm (Nat.gcd t k);obtain⟨P,Q,L,T⟩:=Qo0 (neg:=neg) (by omega) hG;rw[<-P];have g:=Hi (((NBag.start E hk F H).alloc (.cells zeroFrac 141)).rebase);obtain⟨x,q⟩:=nm (w.alloc (.cells zeroFrac 141));obtain⟨r,f⟩:=Ia (SB.new w 141 zeroFrac) ((Below.refl w.heap.size w).alloc lZ (.cells zeroFrac 141));rw[q] at g r f;obtain⟨U,V,M⟩:=Ib Q hG q;clear E hk F H J K Q hG P q;go_enter func135,ntmps135;go_wp2_with fail;rw[show w.alloc (.cells #[.bool false,.slice none 0 0,.slice none 0 0] 141)=x from M.o];apply cM;apply NBag.gcd (w0:=x) g.o;repeat(first|exact mH|apply mT);omega;rw[V.o];rintro e w1 ⟨aG,nG,cG,rfl,l⟩;clear g;have g:=Hi l;clear l;go_wp2_with fail
  apply cM;apply NBag.quot (w0:=x) g.o;repeat(first|exact mH|apply mT);omega;(first|assumption|omega);rintro e w2 ⟨W,X,Y,rfl,l⟩;clear g;have g:=Hi l;clear l;go_wp2_with fail;apply cM;apply NBag.quot (w0:=x) g.o;repeat(first|exact mH|apply mT);omega;(first|assumption|omega);rintro e w3 ⟨Z,nL,cL,rfl,l⟩;clear g;have g:=Hi l;clear l;go_wp2_with fail;have s:=Hi (r.o.below g.o.base r.o.lt);have p:=Hi (f.o.trans (g.o.base.mono f.o.size));clear r f;have r:=s;have f:=p;clear s p
  go_fit (Qd5 neg W Z X Y nL cL (t / G) (k / G) _ (g.o.get (List.Mem.tail _ (List.Mem.head _))).1 (.inr ⟨L,(g.o.get (List.Mem.head _)).1⟩) U.o);rintro e w9 ⟨⟨v9,rfl,y⟩,l⟩;obtain⟨h,z,A,B,C,D,d9,rfl,y⟩:=y;have hs:=r.o.below l r.o.lt;have k0:=hs.cell 0;have k1:=hs.cell 1;have k2:=hs.cell 2;have f0:=hs.free 0;have f1:=hs.free 1;have f2:=hs.free 2;simp[zeroFrac] at k0 k1 k2;obtain⟨HV,u,N⟩:=Ib y hs (f.o.trans (l.mono f.o.size));clear y hs l;go_wp2;refine bodyPost_ret (v:=.agg #[.bool h,.slice z A B,.slice C D d9]) (results_cell_row rfl _ _ (w.heap.size) 141 #[.bool h,.slice z A B,.slice C D d9] (0,0) _ rfl (((u.o.set 0 _).set 1 _).set 2 _) underlying141 rfl Tryz.fracInfo) rfl ?_;have R:=(((Only.refl (w.heap.size) w9).setCell 0 (.bool h)).setCell 1 (.slice z A B)).setCell 2 (.slice C D d9)
  exact⟨⟨_,rfl,h,z,A,B,C,D,d9,rfl,HV.o.only R u.o Qbi⟩,Only.fresh N.o R (by omega)⟩
theorem NBag.under{w0 w:Vz}{L:List Ent}{neg:Bool}{a b:Vx}{n c m d k e:Nat}(h:NBag w0 w L)(hl:Low w0 b m d k)(hk:k<2 ^ e):
 Calls prog 161 #[.agg #[.bool neg,.slice a n c,.slice b m d]] w (NNew w0 L k e):=Qov neg a b n c m d k e w0 w L h (hl.below h.base) hk
theorem NBag.built{w0 w:Vz}{L:List Ent}{neg:Bool}{a b:Vx}{n c m d t k i j:Nat}(h:NBag w0 w L)(e:⟨a,n,c,t,i⟩∈ L)(f:⟨b,m,d,k,j⟩∈ L)(hk:0<k)(g:Nat.Coprime t k):
 Calls prog 130 #[.bool neg,.slice a n c,.slice b m d] w (FNew w (mkRat (sgn neg t) k)):=Qd5 neg a b n c m d t k w (h.get e).1 (.inr ⟨hk,(h.get f).1⟩) g
theorem NBag.isZero{w0 w:Vz}{L:List Ent}{a b:Vx}{n c t k m d:Nat}{neg:Bool}(h:NBag w0 w L)(f:⟨a,n,c,t,k⟩∈ L):
 Calls prog 127 #[.agg #[.bool neg,.slice a n c,.slice b m d]] w (fun e w'=>e=.returned (.bool (decide (t=0)))/\NBag w0 w' L):=by
 refine(Qij neg a b n c m d t w (h.get f).1).mono ?_;rintro e w' ⟨rfl,g⟩;exact⟨rfl,h.below g⟩
theorem Qil(C D:Bool)(I bx J K:Vx)(L M N P Q R S T i j:Nat)(p q:Rat)(w:Vz)(hx:FracAt w C I L M bx N P p)(hy:FracAt w D J Q R K S T q)(hp:Fits p i)(hq:Fits q j)(ap:i+j<68719476000):
 Calls prog 160 #[.agg #[.bool C,.slice I L M,.slice bx N P],.agg #[.bool D,.slice J Q R,.slice K S T]] w (FNew w (p*q)):=by
 obtain⟨HX,HY,ae,af⟩:=Ic hx hy hp hq;obtain⟨CX,ag⟩:=nm (#[Value.bool C,.slice I L M,.slice bx N P]);obtain⟨CY,ah⟩:=nm (#[Value.bool D,.slice J Q R,.slice K S T]);obtain⟨a,E,F,G,c⟩:=Id ((((((NBag.start hx.top hy.top hp.1 hq.1).alloc (.cells CX 141)).alloc (.cells CY 141)).alloc (.cells zeroFrac 141)).rebase)) (SB.new3 w 141 141 141 CX CY zeroFrac) ((SB.new2 w 141 141 CX CY).alloc (.cells zeroFrac 141)) (((SB.new w 141 CX).alloc (.cells CY 141)).alloc (.cells zeroFrac 141)) (Below.new3 w (.cells CX 141) (.cells CY 141) (.cells zeroFrac 141));obtain⟨z,V⟩:=nm ((((w.alloc (.cells CX 141)).alloc (.cells CY 141)).alloc (.cells zeroFrac 141)));rw[V] at a E F G c;subst ag ah;obtain⟨ai,aj⟩:=Ia (hx.low.below c.o) (hy.low.below c.o);have d:=G.o.lt
 have f:=F.o.lt;obtain⟨g,h,k,l,m,n⟩:=Ie (G.o.cell 0) (G.o.cell 1) (G.o.cell 2) (F.o.cell 0) (F.o.cell 1) (F.o.cell 2);simp at g h k l m n;have W:=Hi V;have aq:w.heap.size+1+1≠w.heap.size:=by omega
 have ar:w.heap.size+1+1≠w.heap.size+1:=by omega
 clear hx hy hp hq V;by_cases X:p.num.natAbs=0
 .
  have ak:p=0:=Rat.num_eq_zero.1 (by omega);rw[show p*q=0 by rw[ak,Rat.zero_mul]];go_enter func160,ntmps160;obtain⟨r,s,t⟩:=Jb a.o.base d g.o h.o k.o;obtain⟨u,x,y⟩:=Jb a.o.base f l.o m.o n.o;go_wp2_with fail;rw[show (((w.alloc (.cells #[.bool C,.slice I L M,.slice bx N P] 141)).alloc (.cells #[.bool D,.slice J Q R,.slice K S T] 141)).alloc (.cells #[.bool false,.slice none 0 0,.slice none 0 0] 141))=z from W.o];apply cM;apply NBag.isZero (w0:=z) a.o
  repeat(first|exact mH|apply mT);rw[(decide_eq_true X)];rintro e w1 ⟨rfl,b⟩;have hs:=E.o.below b.base E.o.lt;have k0:=hs.cell 0;have k1:=hs.cell 1;have k2:=hs.cell 2;have f0:=hs.free 0;have f1:=hs.free 1;have f2:=hs.free 2;simp[zeroFrac] at k0 k1 k2;obtain⟨B,H⟩:=Ia hs (c.o.trans (b.base.mono c.o.size));clear b hs a;go_wp2;refine bodyPost_ret (v:=.agg #[.bool false,.slice none 0 0,.slice none 0 0]) (results_cell_row rfl _ _ (w.heap.size+1+1) 141 #[.bool false,.slice none 0 0,.slice none 0 0] (0,0) _ rfl (((B.o.set 0 _).set 1 _).set 2 _) underlying141 rfl Tryz.fracInfo) rfl ?_;have ho:=(((Only.refl (w.heap.size+1+1) w1).setCell 0 (.bool false)).setCell 1 (.slice none 0 0)).setCell 2 (.slice none 0 0);exact⟨⟨_,rfl,FracV.zero _⟩,Only.fresh H.o ho (by omega)⟩
 .
  by_cases aa:q.num.natAbs=0
  .
   have al:q=0:=Rat.num_eq_zero.1 (by omega);rw[show p*q=0 by rw[al,Rat.mul_zero]];go_enter func160,ntmps160;obtain⟨r,s,t⟩:=Jb a.o.base d g.o h.o k.o;obtain⟨u,x,y⟩:=Jb a.o.base f l.o m.o n.o;go_wp2_with fail;rw[show (((w.alloc (.cells #[.bool C,.slice I L M,.slice bx N P] 141)).alloc (.cells #[.bool D,.slice J Q R,.slice K S T] 141)).alloc (.cells #[.bool false,.slice none 0 0,.slice none 0 0] 141))=z from W.o];apply cM;apply NBag.isZero (w0:=z) a.o
   repeat(first|exact mH|apply mT);rw[(decide_eq_false X)];rintro e w1 ⟨rfl,b⟩;clear a;have a:=Hi b;clear b;obtain⟨r,s,t⟩:=Jb a.o.base d g.o h.o k.o;obtain⟨u,x,y⟩:=Jb a.o.base f l.o m.o n.o;go_wp2_with fail;apply cM;apply NBag.isZero (w0:=z) a.o;repeat(first|exact mH|apply mT);rw[(decide_eq_true aa)];rintro e w2 ⟨rfl,b⟩;have hs:=E.o.below b.base E.o.lt;have k0:=hs.cell 0;have k1:=hs.cell 1;have k2:=hs.cell 2;have f0:=hs.free 0
   have f1:=hs.free 1;have f2:=hs.free 2;simp[zeroFrac] at k0 k1 k2;obtain⟨B,H⟩:=Ia hs (c.o.trans (b.base.mono c.o.size));clear b hs a;go_wp2;refine bodyPost_ret (v:=.agg #[.bool false,.slice none 0 0,.slice none 0 0]) (results_cell_row rfl _ _ (w.heap.size+1+1) 141 #[.bool false,.slice none 0 0,.slice none 0 0] (0,0) _ rfl (((B.o.set 0 _).set 1 _).set 2 _) underlying141 rfl Tryz.fracInfo) rfl ?_;have ho:=(((Only.refl (w.heap.size+1+1) w2).setCell 0 (.bool false)).setCell 1 (.slice none 0 0)).setCell 2 (.slice none 0 0);exact⟨⟨_,rfl,FracV.zero _⟩,Only.fresh H.o ho (by omega)⟩
  .
   obtain⟨he,ab⟩:=Qo4 p q rfl rfl;rw[<-HX.o.neg,<-HY.o.neg] at he;have HE:O (mkRat (sgn (!C == D) (p.num.natAbs / Nat.gcd p.num.natAbs q.den*(q.num.natAbs / Nat.gcd q.num.natAbs p.den))) (p.den / Nat.gcd q.num.natAbs p.den*(q.den / Nat.gcd p.num.natAbs q.den))=p*q):=Hi he;obtain⟨am,ao⟩:=Ia ab (show 0<p.den / Nat.gcd q.num.natAbs p.den*(q.den / Nat.gcd p.num.natAbs q.den) from Nat.mul_pos (Nat.div_pos (Nat.gcd_le_right _ p.den_pos) (Nat.gcd_pos_of_pos_right _ p.den_pos)) (Nat.div_pos (Nat.gcd_le_right _ q.den_pos) (Nat.gcd_pos_of_pos_right _ q.den_pos)));clear he ab;obtain⟨Y,Z⟩:=Ia (show 0<Nat.gcd p.num.natAbs q.den from Nat.gcd_pos_of_pos_right _ q.den_pos) (show 0<Nat.gcd q.num.natAbs p.den from Nat.gcd_pos_of_pos_right _ p.den_pos);go_enter func160,ntmps160;have r:=ce a.o.base d g.o
   obtain⟨s,t⟩:=Ja a.o.base d h.o k.o;obtain⟨u,x,y⟩:=Jb a.o.base f l.o m.o n.o;go_wp2_with fail;rw[show (((w.alloc (.cells #[.bool C,.slice I L M,.slice bx N P] 141)).alloc (.cells #[.bool D,.slice J Q R,.slice K S T] 141)).alloc (.cells #[.bool false,.slice none 0 0,.slice none 0 0] 141))=z from W.o];apply cM;apply NBag.isZero (w0:=z) a.o;repeat(first|exact mH|apply mT);rw[(decide_eq_false X)];rintro e w1 ⟨rfl,b⟩;clear a;have a:=Hi b;clear b;have r:=ce a.o.base d g.o
   obtain⟨s,t⟩:=Ja a.o.base d h.o k.o;obtain⟨u,x,y⟩:=Jb a.o.base f l.o m.o n.o;go_wp2_with fail;apply cM;apply NBag.isZero (w0:=z) a.o;repeat(first|exact mH|apply mT);rw[(decide_eq_false aa)];rintro e w2 ⟨rfl,b⟩;clear a;have a:=Hi b;clear b;obtain⟨r,s,t⟩:=Jb a.o.base d g.o h.o k.o;have u:=ce a.o.base f l.o
   obtain⟨x,y⟩:=Ja a.o.base f m.o n.o;go_wp2_with fail;go_region_held3
    (fun w'=>w'.cell? ⟨w.heap.size,0,none⟩=some (.bool C)/\w'.cell? ⟨w.heap.size,1,none⟩=some (.slice I L M)/\w'.cell? ⟨w.heap.size,2,none⟩=some (.slice bx N P)/\w'.cell? ⟨w.heap.size+1,0,none⟩=some (.bool D)/\w'.cell? ⟨w.heap.size+1,1,none⟩=some (.slice J Q R)/\w'.cell? ⟨w.heap.size+1,2,none⟩=some (.slice K S T)) ((first|(simp [*];done)|go_keep))
    (first
    |
     (go_at_call_of 161 (Value.agg #[.bool C,.slice I L M,.slice bx N P])
      apply cM;apply NBag.under (w0:=z) (hl:=ai.o) (hk:=ae.o.2);(focus(first|exact a.o|exact a.o.drew|exact a.o.drew.drew));rintro e w3 ⟨aA,nA,cA,rfl,b⟩;clear a;have a:=Hi b;clear b;obtain⟨r,s,t⟩:=Jb a.o.base d g.o h.o k.o;obtain⟨u,x,y⟩:=Jb a.o.base f l.o m.o n.o
      skip)
    |
     (go_at_call_of 161 (Value.agg #[.bool D,.slice J Q R,.slice K S T])
      apply cM;apply NBag.under (w0:=z) (hl:=aj.o) (hk:=af.o.2);(focus(first|exact a.o|exact a.o.drew|exact a.o.drew.drew));rintro e w4 ⟨aB,nB,cB,rfl,b⟩;clear a;have a:=Hi b;clear b;obtain⟨r,s,t⟩:=Jb a.o.base d g.o h.o k.o;obtain⟨u,x,y⟩:=Jb a.o.base f l.o m.o n.o
      skip)
    )
   go_wp2_with fail;go_region_held3
    (fun w'=>w'.cell? ⟨w.heap.size,0,none⟩=some (.bool C)/\w'.cell? ⟨w.heap.size,1,none⟩=some (.slice I L M)/\w'.cell? ⟨w.heap.size,2,none⟩=some (.slice bx N P)/\w'.cell? ⟨w.heap.size+1,0,none⟩=some (.bool D)/\w'.cell? ⟨w.heap.size+1,1,none⟩=some (.slice J Q R)/\w'.cell? ⟨w.heap.size+1,2,none⟩=some (.slice K S T)) ((first|(simp [*];done)|go_keep))
    ((skip
      first
       |(
        go_at_call 168;apply cM
        apply NBag.gcd (w0:=z))
       |(
        go_at_call 169;apply cM
        apply NBag.quot (w0:=z))
       |(
        go_at_call 177;apply cM
        apply NBag.mul (w0:=z))
      (focus(first|exact a.o|exact a.o.drew|exact a.o.drew.drew));repeat(first|exact mH|apply mT);omega
      try (focus(first|exact Y.o|exact Z.o))
      rintro e wn ⟨an,nn,cn,rfl,b⟩;clear a;have a:=Hi b;clear b;obtain⟨r,s,t⟩:=Jb a.o.base d g.o h.o k.o;obtain⟨u,x,y⟩:=Jb a.o.base f l.o m.o n.o
      skip))
   go_wp2_with fail;go_region_held3
    (fun w'=>w'.cell? ⟨w.heap.size,0,none⟩=some (.bool C)/\w'.cell? ⟨w.heap.size,1,none⟩=some (.slice I L M)/\w'.cell? ⟨w.heap.size,2,none⟩=some (.slice bx N P)/\w'.cell? ⟨w.heap.size+1,0,none⟩=some (.bool D)/\w'.cell? ⟨w.heap.size+1,1,none⟩=some (.slice J Q R)/\w'.cell? ⟨w.heap.size+1,2,none⟩=some (.slice K S T)) ((first|(simp [*];done)|go_keep))
    ((skip
      first
       |(
        go_at_call 168;apply cM
        apply NBag.gcd (w0:=z))
       |(
        go_at_call 169;apply cM
        apply NBag.quot (w0:=z))
       |(
        go_at_call 177;apply cM
        apply NBag.mul (w0:=z))
      (focus(first|exact a.o|exact a.o.drew|exact a.o.drew.drew));repeat(first|exact mH|apply mT);omega
      try (focus(first|exact Y.o|exact Z.o))
      rintro e wn ⟨an,nn,cn,rfl,b⟩;clear a;have a:=Hi b;clear b;obtain⟨r,s,t⟩:=Jb a.o.base d g.o h.o k.o;obtain⟨u,x,y⟩:=Jb a.o.base f l.o m.o n.o
      skip))
   go_wp2_with
    ((skip
      first
       |(
        go_at_call 168;apply cM
        apply NBag.gcd (w0:=z))
       |(
        go_at_call 169;apply cM
        apply NBag.quot (w0:=z))
       |(
        go_at_call 177;apply cM
        apply NBag.mul (w0:=z))
      (focus(first|exact a.o|exact a.o.drew|exact a.o.drew.drew));repeat(first|exact mH|apply mT);omega
      try (focus(first|exact Y.o|exact Z.o))
      rintro e wn ⟨an,nn,cn,rfl,b⟩;clear a;have a:=Hi b;clear b;obtain⟨r,s,t⟩:=Jb a.o.base d g.o h.o k.o;obtain⟨u,x,y⟩:=Jb a.o.base f l.o m.o n.o
      skip))
   have ad:=Hi (E.o.below a.o.base E.o.lt);have U:=Hi (c.o.trans (a.o.base.mono c.o.size));clear E c;have E:=ad;have c:=U;clear ad U;apply cM;apply NBag.built (w0:=z) a.o;repeat(first|exact mH|apply mT);(focus(exact ao.o));(focus(exact am.o));rw[HE.o];rintro e w9 ⟨⟨v9,rfl,hv⟩,b⟩;obtain⟨A,a9,n9,c9,b9,m9,d9,rfl,hv⟩:=hv;have hs:=E.o.below b E.o.lt;have k0:=hs.cell 0;have k1:=hs.cell 1;have k2:=hs.cell 2;have f0:=hs.free 0;have f1:=hs.free 1;have f2:=hs.free 2;simp[zeroFrac] at k0 k1 k2;obtain⟨HV,B,H⟩:=Ib hv hs (c.o.trans (b.mono c.o.size));clear hv hs b;go_wp2
   refine bodyPost_ret (v:=.agg #[.bool A,.slice a9 n9 c9,.slice b9 m9 d9]) (results_cell_row rfl _ _ (w.heap.size+1+1) 141 #[.bool A,.slice a9 n9 c9,.slice b9 m9 d9] (0,0) _ rfl (((B.o.set 0 _).set 1 _).set 2 _) underlying141 rfl Tryz.fracInfo) rfl ?_;have ho:=(((Only.refl (w.heap.size+1+1) w9).setCell 0 (.bool A)).setCell 1 (.slice a9 n9 c9)).setCell 2 (.slice b9 m9 d9);exact⟨⟨_,rfl,A,a9,n9,c9,b9,m9,d9,rfl,HV.o.only ho B.o Qbi⟩,Only.fresh H.o ho (by omega)⟩
theorem Qed(s:Vs):s.toList= []↔s.data.toList= []:=by rw[Lib.toList_data]
def DigAns(s:Vs)(w:Vz)(e:Ending)(w':Vz):Prop:=(∃v,e=.returned (.bool v)/\(v=true↔IsDig s.data.toList))/\w'=w
theorem Qka(s:Vs)(w:Vz)(hs:s.size<=1073741824):
 Calls prog 133 #[.string s] w (DigAns s w):=by
 go_enter func133,ntmps133;go_wp2;go_loop [6] (fun i=>∃k:Nat,k<=s.size/\i=.int .i64 k/\AllDigits (s.data.toList.take k)) (fun i=>s.size - (intOf i).toNat)
 case atStart=>exact⟨0,by omega,rfl,fun c a=>by simp at a⟩
 case round=>
  obtain⟨k,hk,rfl,f⟩:=hrel;have g:=Hi f;clear f;by_cases b:k<s.size
  .
   have l:=Hi (Qfe s k b);have q:(0:Int)<=(k:Int):=by omega
   have r:(k:Int)<(s.size:Int):=by omega
   have j:O (s[k]∈ s.data.toList):=Hi (List.mem_iff_getElem.2 ⟨k,by simpa using b,rfl⟩);by_cases t:s[k].toNat<48
   .
    have m:((s[k].toNat:Int)<48):=by omega
    go_wp2;go_ret;refine⟨⟨false,rfl,?_⟩,rfl⟩;constructor
    . intro h;cases h
    . intro h;have:=(h.2 _ j.o).1;omega
   .
    have m:¬((s[k].toNat:Int)<48):=by omega
    by_cases u:57<s[k].toNat
    .
     have n:((57:Int)<(s[k].toNat:Int)):=by omega
     go_wp2;go_ret;refine⟨⟨false,rfl,?_⟩,rfl⟩;constructor
     . intro h;cases h
     . intro h;have:=(h.2 _ j.o).2;omega
    .
     have n:¬((57:Int)<(s[k].toNat:Int)):=by omega
     go_wp2;go_round
     case rel=>
      refine⟨k+1,by omega,by go_num,?_⟩;rw[l.o];intro c a;rcases List.mem_append.1 a with a|a
      . exact g.o c a
      . rw[List.mem_singleton.1 a];omega
     case measure=>simp[intOf];omega
  .
   have e:k=s.size:=by omega
   subst e;have p:O (AllDigits s.data.toList):=Hi (by have:=g.o;rwa [List.take_of_length_le (by simp)] at this);by_cases d:s.toList= []
   .
    go_wp2;go_ret;refine⟨⟨_,rfl,?_⟩,rfl⟩;have:¬IsDig s.data.toList:=fun h=>h.1 ((Qed s).1 d)
    simp[d,this]
   .
    go_wp2;go_ret;refine⟨⟨_,rfl,?_⟩,rfl⟩;have:IsDig s.data.toList:=⟨fun h=>d ((Qed s).2 h),p.o⟩;simp[d,this]
theorem Qkb(s:Vs)(w:Vz)(hs:s.size<=19)(n:AllDigits s.data.toList):
 Calls prog 167 #[.string s] w fun e w'=>e=.returned (.int .u64 ((decVal s.data.toList:Nat):Int))/\w'=w:=by
 have p:=Hi n;clear n;go_enter func167,ntmps167;go_wp2;go_loop [3,7] (fun r i=>∃k v:Nat,k<=s.size/\i=.int .i64 k/\r=.int .u64 v/\decVal (s.data.toList.take k)=v) (fun _ i=>s.size - (intOf i).toNat)
 case atStart=>exact⟨0,0,by omega,rfl,rfl,by simp[decVal]⟩
 case round=>
  obtain⟨k,v,hk,rfl,rfl,b⟩:=hrel;have j:=Hi b;clear b;by_cases c:k<s.size
  .
   have a:=Qff p.o k c;have q:=Hi (Qfe s k c);obtain⟨d,t,f,u⟩:=Qis s[k] a.1 a.2;have l:=Hi f;have C:(0:Int)<=(k:Int):=by omega
   have D:(k:Int)<(s.size:Int):=by omega
   have x:(48:Int)+(d:Int) - 48=d:=by omega
   have y:v<1000000000000000000:=by
    have z:=Qa3 _ (p.o.take k);rw[j.o] at z;have A:(s.data.toList.take k).length<=18:=by rw[List.length_take];omega
    have E:10 ^ (s.data.toList.take k).length<=10 ^ 18:=Nat.pow_le_pow_right (by decide) A;omega
   obtain⟨h,g⟩:∃h,v*10+d=h:=⟨_,rfl⟩;have B:=Hi g;have F:(v:Int)*10+(d:Int)=(h:Int):=by omega
   clear f a g;go_wp2;go_round
   case rel=>exact⟨k+1,h,by omega,by go_num,by go_num,by rw[q.o,Qfd,j.o,l.o,<-B.o];omega⟩
   case measure=>simp[intOf];omega
  .
   have m:k=s.size:=by omega
   subst m;go_wp2;go_ret;have b:=j.o;rw[List.take_of_length_le (by simp)] at b;exact⟨by rw[b];rfl,rfl⟩
structure OwnB (w:Vz) (B g cap:Nat) (ws:Vy):Prop where
 base:B<=g
 fit:ws.length<=cap
 most:cap<=maxLen
 blk:∃C,SB w g 170 C/\C.size=cap/\C.toList.take ws.length=ws.map (fun n:Nat=>Value.int .u64 n)
theorem OwnB.lt{w:Vz}{B g cap:Nat}{a:Vy}(h:OwnB w B g cap a):g<w.heap.size:=by obtain⟨C,h,_⟩:=h.blk;exact h.lt
theorem OwnB.owns{w:Vz}{B g cap:Nat}{a:Vy}(h:OwnB w B g cap a):w.ownsRow B 170 1 (.slice (some ⟨g,0,none⟩) a.length cap) a.length (a.map (fun n:Nat=>Value.int .u64 n)):=by
 obtain⟨C,b,d,c⟩:=h.blk;exact⟨by simp,.inr ⟨g,cap,C,rfl,h.base,b,h.fit,h.most,by omega,by rw[Nat.mul_one];exact c⟩⟩
theorem OwnB.of{w:Vz}{B g n cap:Nat}{b:Vy}(d:b.length=n)(h:w.ownsRow B 170 1 (.slice (some ⟨g,0,none⟩) n cap) n (b.map (fun n:Nat=>Value.int .u64 n))):OwnB w B g cap b:=by
 rcases h.2 with ⟨h,_⟩|⟨l,cap',C,e,f,i,m,j,hs,c⟩
 . cases h
 .
  injection e with a o k
  injection a with a
  injection a with a _ _
  subst a;subst k;rw[Nat.mul_one] at hs c;exact⟨f,by omega,j,C,i,hs,by rw[d];exact c⟩
theorem OwnB.at{w:Vz}{B g cap:Nat}{a:Vy}(h:OwnB w B g cap a)(i:Nat)(b:i<a.length):w.cell? ⟨g,i,none⟩=some (.int .u64 ((a.getD i 0:Nat):Int)):=by
 obtain⟨C,c,f,d⟩:=h.blk;rw[c.cell];have e:(C.toList.take a.length)[i]?=(a.map (fun n:Nat=>Value.int .u64 (n:Int)))[i]?:=by rw[d]
 rw[List.getElem?_take_of_lt b,List.getElem?_map,gE b] at e;rw[Array.getElem?_toList] at e;rw[e,List.getD_eq_getElem?_getD,gE b];rfl
theorem OwnB.free{w:Vz}{B g cap:Nat}{a:Vy}(h:OwnB w B g cap a)(i:Nat):w.frozen? ⟨g,i,none⟩=false:=by
 obtain⟨C,b,_⟩:=h.blk;exact b.free i
theorem OwnB.set{w:Vz}{B g cap:Nat}{a:Vy}(h:OwnB w B g cap a)(i x:Nat):OwnB (w.setCell ⟨g,i,none⟩ (.int .u64 (x:Int))) B g cap (a.set i x):=by
 obtain⟨C,b,c,d⟩:=h.blk;refine⟨h.base,by rw[List.length_set];exact h.fit,h.most,_,b.set i _,by rw[Array.size_setIfInBounds];exact c,?_⟩;rw[List.length_set,Array.toList_setIfInBounds,List.take_set,d,List.map_set]
theorem OwnB.pre{w:Vz}{B g cap:Nat}{a:Vy}(h:OwnB w B g cap a):Pre w g a:=by
 have c:=h;obtain⟨C,b,e,f⟩:=h.blk;exact⟨C,b,fun i d=>by rw[<-b.cell];exact c.at i d⟩
theorem Qsa{a:Vy}{x:Nat}(hs:Small 18446744073709551616 a)(c:val 18446744073709551616 a=x)(b:a.length=0∨18446744073709551616 ^ (a.length - 1)<=x):Num 18446744073709551616 a x:=by
 refine⟨hs,?_,c⟩;rcases b with b|b
 . left;exact List.length_eq_zero_iff.1 b
 .
  by_cases e:a.length=0
  . left;exact List.length_eq_zero_iff.1 e
  right;intro d;obtain⟨j,f⟩:∃j,a.length=j+1:=⟨a.length - 1,by omega⟩;have g:=Qbu 18446744073709551616 a j (by omega);rw[f,Nat.add_sub_cancel] at d b;rw[d,Nat.mul_zero,Nat.add_zero,List.take_of_length_le (by omega),c] at g;have h:=Qaa (B:=18446744073709551616) (by decide) (hs.take j);rw[List.length_take,Nat.min_eq_left (by omega)] at h;omega
theorem Qsb{B k over d R h l a:Nat}{rs b:Vy}(hk:k<rs.length)(c:b.getD k 0=d)(e:l+B*h=d*R+over)(g:val B (rs.take k)+B ^ k*over=val B (b.take k)*R+a):
 val B ((rs.set k l).take (k+1))+B ^ (k+1)*h=val B (b.take (k+1))*R+a:=by
 rw[take_set _ _ _ hk,Qak,List.length_take,Nat.min_eq_left (by omega),Qac,c,Nat.pow_succ];have f:B ^ k*(l+B*h)=B ^ k*(d*R+over):=by rw[e]
 rw[Nat.mul_add,Nat.mul_add,<-Nat.mul_assoc] at f;rw[Nat.add_mul,Nat.mul_assoc (B ^ k) d R];omega
theorem Tryz.info64':∃i,prog.info? 170=some i/\i.zero=some (.int .u64 0)/\i.size=1/\i.bytes=8:=info_parts Tryz.info64
theorem Qj4(B g cap:Nat)(c:Vy)(x a:Nat)(w:Vz)(h:OwnB w B g cap c)(hx:Num 18446744073709551616 c x)(hc:a<18446744073709551616)(hl:c.length<1099511627770)(y:B<=w.heap.size):
 Calls prog 166 #[.slice (some ⟨g,0,none⟩) c.length cap,.int .u64 a] w fun e w'=>(∃g' cap' s,e=.returned (.slice (some ⟨g',0,none⟩) (List.length s) cap')/\OwnB w' B g' cap' s/\Num 18446744073709551616 s (x*10000000000000000000+a)/\s.length<=c.length+1)/\Below B w w'/\w.heap.size<=w'.heap.size:=by
 obtain⟨i0,hi,z,A,hz2⟩:=Tryz.info64';obtain⟨HI,T,U,V⟩:=Ic hi z A hz2;have ag:=h.fit;obtain⟨Q,C⟩:=Ia h hx;clear h hx hi z A hz2;go_enter func166,ntmps166;go_wp2;go_loopw [5,10] (fun ov W wr=>∃(k over:Nat) (rs:Vy),k<=c.length/\W=.int .i64 k/\ov=.int .u64 over/\over<18446744073709551616/\OwnB wr B g cap rs/\rs.length=c.length/\Small 18446744073709551616 rs/\(∀p,k<=p->rs.getD p 0=c.getD p 0)/\val 18446744073709551616 (rs.take k)+18446744073709551616 ^ k*over=val 18446744073709551616 (c.take k)*10000000000000000000+a/\Only g w wr) (fun _ W _=>c.length - (intOf W).toNat)
 case atStart=>exact⟨0,a,c,by omega,rfl,rfl,hc,Q.o,rfl,C.o.small,fun _ _=>rfl,by simp[val],Only.refl _ _⟩
 case round=>
  obtain⟨k,over,rs,hk,rfl,rfl,D,f,E,F,G,hv,H⟩:=hrel;obtain⟨i,b,v,I,HV,j⟩:=Ie f E F G hv H;have ai:=f.lt;clear f E F G hv H;by_cases aj:k<c.length
  .
   obtain⟨d,R⟩:=nm (c.getD k 0);have X:d<18446744073709551616:=by rw[<-R];exact C.o.small.getD (by omega) k
   have g1:=i.o.free k;have S:=i.o.at k (by have:=b.o;omega);rw[I.o k lZ,R] at S;obtain⟨h,l,hh,Y,J,K⟩:=Qde d 10000000000000000000 over X (by decide) D;obtain⟨L,HD,Z⟩:=Ib K R J;clear K R J;go_wp2_with fail;go_fit (L.o _);rintro e w2 ⟨rfl,aa⟩;subst aa;clear L;go_wp2;go_roundw
   case rel=>
    refine⟨k+1,h,rs.set k l,by omega,by go_num,rfl,hh,i.o.set k l,by rw[List.length_set];exact b.o,v.o.set _ Y,?_,Qsb (by have:=b.o;omega) HD.o Z.o HV.o,j.o.setCell _ _⟩;intro p hp;rw[getD_set_ne _ _ _ _ (by omega)];exact I.o p (by omega)
   case measure=>simp[intOf];omega
  .
   have ab:k=c.length:=by omega
   subst ab;have M:O (val 18446744073709551616 rs+18446744073709551616 ^ rs.length*over=x*10000000000000000000+a):=Hi (by
    have:=HV.o;rw[List.take_of_length_le (by rw[b.o];exact Nat.le_refl _),List.take_length,C.o.eq] at this
    rw[b.o];exact this)
   by_cases ad:over=0
   .
    subst ad;go_wp2;go_ret;have hv3:=M.o;rw[Nat.mul_zero,Nat.add_zero] at hv3;refine⟨⟨g,cap,rs,by rw[b.o];rfl,i.o,Qsa v.o hv3 ?_,by rw[b.o];omega⟩,j.o.below Q.o.base y,j.o.size⟩;by_cases hz:rs.length=0
    . exact .inl hz
    right;rw[b.o] at hz ⊢;have h1:18446744073709551616 ^ (c.length - 1)<=x:=by have:=C.o.trim.pow_le (B:=18446744073709551616) (by omega);rw[C.o.eq] at this;exact this
    omega
   .
    have q0:((over:Int) != 0)=true:=by rw[bne_iff_ne];omega
    have ak:=Hi b.o;have al:=j.o.size;rw[<-b.o];have ah:rs.length<1099511627770:=by rw[b.o];exact hl
    go_wp2_with (at_builtin;refine wpList_append_lies _ rfl _ _ 139 rfl B 170 i0 (.int .u64 0) 1 8 underlying139 HI.o T.o U.o V.o rfl (by decide) _ rs.length (rs.map (fun n:Nat=>Value.int .u64 n)) rfl (Qbl i.o.owns (bR.alloc lZ _)) ⟨wr.heap.size,0,none⟩ 1 1 [Value.int .u64 (over:Int)] rfl rfl ?c1 ?c2 (by decide) ?c3 ?c4 ?c5 _ rfl ?_)
    case c1=>exact World.news_of_block (heap_alloc_new wr _)
    case c2=>intro u hu;rw[List.mem_singleton.1 hu];rfl
    case c3=>unfold maxLen;omega
    case c4=>omega
    case c5=>rw[World.size_alloc];omega
    intro S t w3 m r ae N;have af:O (OwnB w3 B S t (rs++ [over])):=Hi (OwnB.of (n:=rs.length+1) (by simp) (by rw[List.map_append];exact m));have HG:=Hi r;clear m r ae N;go_wp2;go_ret;have P:Below B w w3:=Below.grown ((j.o.below Q.o.base y).alloc (by omega) _) HG.o (by rw[World.size_alloc];omega) (fun q hq=>by
     simp[Value.ownBlock] at hq;subst hq;exact Q.o.base)
    refine⟨⟨S,t,rs++ [over],by simp,af.o,?_,by rw[List.length_append,b.o];simp⟩,P,P.size⟩;refine⟨v.o.append (fun e he=>by rw[List.mem_singleton.1 he];exact D),.inr ?_,by rw[Qak];exact M.o⟩;simp;omega
theorem Qsc(L:Int)(n:Nat)(b:L=n)(f:n<=2199023255552)(w:Vz):
 (Instr.makeSlice 139 (.int .i64 0) (.int .i64 L)).run prog w=.ok (.slice (some ⟨w.heap.size,0,none⟩) 0 n) (w.alloc (.cells (wordCells .u64 (zeros n)) 170)):=by
 subst b;obtain⟨i,c,d,hs,e⟩:=Tryz.info64';have a:=run_make (P:=prog) w 139 170 i (.int .u64 0) underlying139 c d .i64 .i64 0 n (by omega) (by omega) (by rw[e];omega) (by omega);simp only[Int.toNat_natCast,hs,Nat.mul_one] at a;rw[<-Qea];exact a
theorem Qj5(l:Vu):decVal (48 :: l)=decVal l:=by
 unfold decVal;rw[List.foldl_cons];rfl
theorem Qsd(l:Vu):decVal (Lib.trimLeftB l 48)=decVal l:=by
 induction l with
 |nil=>rfl
 |cons c l a=>
  unfold Lib.trimLeftB at a ⊢;rw[List.dropWhile_cons]
  split
  .
   rename_i h;have:c=48:=by simpa using h
   rw[a,this,Qj5]
  . rfl
theorem Qse{l:Vu}(h:AllDigits l):AllDigits (Lib.trimLeftB l 48):=fun c a=>h c ((List.dropWhile_sublist _).mem a)
theorem Qsf(l:Vu):(Lib.trimLeftB l 48).length<=l.length:=(List.dropWhile_sublist _).length_le
theorem Qag(s:Vs):s.data.toList.length=s.size:=by simp
theorem Qj6(r:Vs)(N:Nat)(a:N<=r.size):r.data.toList=(r.extract 0 N).data.toList++(r.extract N r.size).data.toList/\(r.extract 0 N).size=N/\(r.extract N r.size).size=r.size - N:=by
 have hl:=Qag r;refine⟨?_,by simp;omega,by simp⟩;rw[Lib.extract_data,Lib.extract_data,List.drop_zero,Nat.sub_zero,List.take_of_length_le (l:=r.data.toList.drop N) (by rw[List.length_drop];omega),List.take_append_drop]
def strLen:Value->Nat
 | .string s=>s.size
 |_=>0
theorem Qsg(s:Vs)(w:Vz):
 Calls prog 165 #[.string s,.string ⟨#[48]⟩] w fun e w'=>e=.returned (.string ⟨(Lib.trimLeftB s.data.toList 48).toArray⟩)/\w'=w:=Any.strings_TrimLeft_one Tryz.lays161 s 48 (by decide) w
theorem Qj7(s:Vs)(w:Vz)(hs:s.size<=1073741824)(hd:AllDigits s.data.toList):
 Calls prog 134 #[.string s] w (Nat64 w (decVal s.data.toList)):=by
 obtain⟨t,Z⟩:=nm ((⟨(Lib.trimLeftB s.data.toList 48).toArray⟩:ByteArray));have B:t.data.toList=Lib.trimLeftB s.data.toList 48:=by rw[<-Z]
 have ag:t.size<=1073741824:=by
  have:=Qsf s.data.toList;rw[<-B,Qag,Qag] at this;omega
 obtain⟨HV,HD,H⟩:=Ib (show decVal t.data.toList=decVal s.data.toList by rw[B,Qsd]) (show AllDigits t.data.toList by rw[B];exact Qse hd) (Qsg s w);rw[Z] at H;clear Z B hd;obtain⟨q,hq⟩:∃q:Nat,t.size / 19=q:=⟨_,rfl⟩;have q1:(t.size:Int) / 19=(q:Int):=by omega
 have q2:Int.tdiv (t.size:Int) 19=(q:Int):=by rw[<-q1];exact Int.tdiv_eq_ediv_of_nonneg (by omega)
 have ah:q<=1073741824:=by omega
 have aa:∀w,(Instr.makeSlice 139 (.int .i64 0) (.int .i64 ((q:Int)+1))).run prog w=.ok (.slice (some ⟨w.heap.size,0,none⟩) 0 (q+1)) (w.alloc (.cells (wordCells .u64 (zeros (q+1))) 170)):=
  fun w=>Qsc _ (q+1) (by omega) (by omega) w
 go_enter func134,ntmps134;go_wp2_with fail;go_fit H.o;rintro e w ⟨rfl,hw⟩;subst hw;clear H;go_wp2_with fail;clear aa q1 q2;go_loopw [0,3] (fun sv xv wr=>∃(r:Vs) (b:Vu) (g cap:Nat) (D:Vy),sv=.string r/\xv=.slice (some ⟨g,0,none⟩) D.length cap/\t.data.toList=b++r.data.toList/\(b= []∨r.size % 19=0)/\OwnB wr w.heap.size g cap D/\Num 18446744073709551616 D (decVal b)/\D.length<=b.length/\Below w.heap.size w wr) (fun sv _ _=>strLen sv)
 case atStart=>
  refine⟨t,[],w.heap.size,q+1,[],rfl,rfl,rfl,.inl rfl,⟨Nat.le_refl _,by simp,by unfold maxLen;omega,_,SB.new _ _ _,by simp[wordCells,zeros],by simp⟩,Num.zero _,by simp,bR.alloc lZ _⟩
 case round=>
  obtain⟨r,b,g,cap,D,rfl,rfl,a,E,F,G,af,hb⟩:=hrel;have HF:=Hi E;clear E;obtain⟨HC,Y,HN,S⟩:=Ic a F G hb;have ai:b.length+r.size=t.size:=by rw[<-Qag r,<-Qag t,a,List.length_append]
  have T:O (AllDigits r.data.toList):=Hi (fun c U=>HD.o c (by rw[a];exact List.mem_append_right _ U));clear a F G hb;by_cases h0:r.toList= []
  .
   go_wp2;go_ret;have ab:r.data.toList= []:=(Qed r).1 h0;have n:b=t.data.toList:=by have:=HC.o;rw[ab,List.append_nil] at this;exact this.symm
   refine⟨⟨_,_,D,rfl,Y.o.pre.row _ Y.o.fit,?_,by omega⟩,S.o⟩;rw[<-HV.o,<-n];exact HN.o
  .
   have aj:0<r.size:=by
    rcases Nat.eq_zero_or_pos r.size with h|h
    . exact absurd ((Qed r).2 (List.length_eq_zero_iff.1 (by rw[Qag];exact h))) h0
    . exact h
   have ak:r.toList.isEmpty=false:=by simp[h0]
   obtain⟨m,hm⟩:∃m:Nat,r.size % 19=m:=⟨_,rfl⟩;have m1:(r.size:Int) % 19=(m:Int):=by omega
   have m2:Int.tmod (r.size:Int) 19=(m:Int):=by rw[<-m1];exact Int.tmod_eq_emod_of_nonneg (by omega)
   by_cases ad:m=0
   .
    subst ad;obtain⟨a,k,I⟩:=Qj6 r 19 (by omega);have j:=Hi a;have p:O (AllDigits (r.extract 0 19).data.toList):=Hi (fun c U=>T.o c (by rw[a];exact List.mem_append_left _ U));have d:=Hi (fun w=>Qkb (r.extract 0 19) w (by omega) p.o);obtain⟨V,C⟩:=nm (decVal (r.extract 0 19).data.toList);have J:V<18446744073709551616:=by
     have h1:=Qa3 _ p.o;rw[C,Qag,k] at h1;have h3:10 ^ 19<=10 ^ 19:=Nat.pow_le_pow_right (by decide) (by omega);omega
    rw[C] at d;obtain⟨u,l⟩:=Ia C (k.trans rfl);obtain⟨CH,f⟩:=nm (r.extract 0 19);obtain⟨RS,i⟩:=nm (r.extract 19 r.size);rw[f,i] at j;rw[f] at l u d;rw[i] at I;obtain⟨K,L,v⟩:=Ib f i (Qj4 w.heap.size g cap D (decVal b) V wr Y.o HN.o J (by omega) S.o.size);clear a k C f i;go_wp2_with fail;rw[K.o];go_fit (d.o _);rintro e w2 ⟨rfl,M⟩;subst M;clear d;go_wp2_with fail;go_fit v.o;rintro e w3 ⟨⟨g3,x,N,rfl,y,z,ae⟩,A,W⟩;obtain⟨P,Q,R⟩:=Ib y z (S.o.trans A);clear v y z A;go_wp2;rw[L.o];go_roundw
    case rel=>
     refine⟨RS,b++CH.data.toList,g3,x,N,rfl,rfl,?_,.inr (by omega),P.o,?_,?_,R.o⟩
     . rw[HC.o,j.o,List.append_assoc]
     . rw[Qb9,u.o,Qag,l.o,show (10:Nat) ^ 19=10000000000000000000 from rfl]
       exact Q.o
     . rw[List.length_append,Qag,l.o];omega
    case measure=>simp[strLen];omega
   .
    have z0:((m:Int) == 0)=false:=by rw[beq_eq_false_iff_ne];omega
    have n:decVal b*10 ^ m=decVal b*10000000000000000000:=by rcases HF.o with h|h;rw[h];simp[decVal];omega
    have X:=Hi n;clear n;obtain⟨a,k,I⟩:=Qj6 r m (by omega);have j:=Hi a;have p:O (AllDigits (r.extract 0 m).data.toList):=Hi (fun c U=>T.o c (by rw[a];exact List.mem_append_left _ U));have d:=Hi (fun w=>Qkb (r.extract 0 m) w (by omega) p.o);obtain⟨V,C⟩:=nm (decVal (r.extract 0 m).data.toList);have J:V<18446744073709551616:=by
     have h1:=Qa3 _ p.o;rw[C,Qag,k] at h1;have h3:10 ^ m<=10 ^ 19:=Nat.pow_le_pow_right (by decide) (by omega);omega
    rw[C] at d;obtain⟨u,l⟩:=Ia C (k.trans rfl);obtain⟨CH,f⟩:=nm (r.extract 0 m);obtain⟨RS,i⟩:=nm (r.extract m r.size);rw[f,i] at j;rw[f] at l u d;rw[i] at I;obtain⟨K,L,v⟩:=Ib f i (Qj4 w.heap.size g cap D (decVal b) V wr Y.o HN.o J (by omega) S.o.size);clear a k C f i;go_wp2_with fail;rw[K.o];go_fit (d.o _);rintro e w2 ⟨rfl,M⟩;subst M;clear d;go_wp2_with fail;go_fit v.o;rintro e w3 ⟨⟨g3,x,N,rfl,y,z,ae⟩,A,W⟩;obtain⟨P,Q,R⟩:=Ib y z (S.o.trans A);clear v y z A;go_wp2;rw[L.o];go_roundw
    case rel=>
     refine⟨RS,b++CH.data.toList,g3,x,N,rfl,rfl,?_,.inr (by omega),P.o,?_,?_,R.o⟩
     . rw[HC.o,j.o,List.append_assoc]
     . rw[Qb9,u.o,Qag,l.o,X.o]
       exact Q.o
     . rw[List.length_append,Qag,l.o];omega
    case measure=>simp[strLen];omega
theorem FracAt.drew{w:Vz}{neg:Bool}{a b:Vx}{n c m d:Nat}{q:Rat}(h:FracAt w neg a n c b m d q):FracAt w.drew neg a n c b m d q:=h.below bR.drew
theorem Qo6{p q:Rat}{a c r:Bool}{t:Nat}(d:a=decide (p.num<0))(f:c=decide (q.num<0))(h:sgn r t=sgn a (p.num.natAbs*(q.den / Nat.gcd p.den q.den))+sgn c (q.num.natAbs*(p.den / Nat.gcd p.den q.den))):
 mkRat (sgn r (t / Nat.gcd t (Nat.gcd p.den q.den))) (p.den / Nat.gcd p.den q.den*(q.den / Nat.gcd t (Nat.gcd p.den q.den)))=p+q/\Nat.Coprime (t / Nat.gcd t (Nat.gcd p.den q.den)) (p.den / Nat.gcd p.den q.den*(q.den / Nat.gcd t (Nat.gcd p.den q.den))):=by
 refine Qo5 p q rfl ?_ rfl;have e:∀(b:Bool) (u v:Nat),sgn b (u*v)=sgn b u*(v:Int):=fun b u v=>by have:=Qcc b false u v;rw[Bool.bne_false] at this;exact this
 rw[h,e,e,d,f,Qbx,Qbx]
theorem Qo7(L M:Bool)(N bx P Q:Vx)(R S T U V W X Y i j:Nat)(p q:Rat)(w:Vz)(hx:FracAt w L N R S bx T U p)(hy:FracAt w M P V W Q X Y q)(hp:Fits p i)(hq:Fits q j)(ar:i+j<68719476000):
 Calls prog 146 #[.agg #[.bool L,.slice N R S,.slice bx T U],.agg #[.bool M,.slice P V W,.slice Q X Y]] w (FNew w (p+q)):=by
 obtain⟨HX,HY,ag,ah⟩:=Ic hx hy hp hq;obtain⟨CX,ai⟩:=nm (#[Value.bool L,.slice N R S,.slice bx T U]);obtain⟨CY,aj⟩:=nm (#[Value.bool M,.slice P V W,.slice Q X Y]);obtain⟨a,G,y,z,b⟩:=Id ((((((NBag.start hx.top hy.top hp.1 hq.1).alloc (.cells CX 141)).alloc (.cells CY 141)).alloc (.cells zeroFrac 141)).rebase)) (SB.new3 w 141 141 141 CX CY zeroFrac) ((SB.new2 w 141 141 CX CY).alloc (.cells zeroFrac 141)) (((SB.new w 141 CX).alloc (.cells CY 141)).alloc (.cells zeroFrac 141)) (Below.new3 w (.cells CX 141) (.cells CY 141) (.cells zeroFrac 141));obtain⟨d,Z⟩:=nm ((((w.alloc (.cells CX 141)).alloc (.cells CY 141)).alloc (.cells zeroFrac 141)));rw[Z] at a G y z b;subst ai aj;obtain⟨ak,al⟩:=Ia (hx.low.below b.o) (hy.low.below b.o);have s:=z.o.lt
 have u:=y.o.lt;obtain⟨f,g,h,k,l,m⟩:=Ie (z.o.cell 0) (z.o.cell 1) (z.o.cell 2) (y.o.cell 0) (y.o.cell 1) (y.o.cell 2);simp at f g h k l m;have am:=Hi Z;have au:w.heap.size+1+1≠w.heap.size:=by omega
 have av:w.heap.size+1+1≠w.heap.size+1:=by omega
 clear hx hy hp hq Z;have x:=Hi (show 0<Nat.gcd p.den q.den from Nat.gcd_pos_of_pos_right _ q.den_pos);go_enter func146,ntmps146;obtain⟨A,B,C⟩:=Jb a.o.base s f.o g.o h.o;obtain⟨D,E,F⟩:=Jb a.o.base u k.o l.o m.o;go_wp2_with fail;rw[show (((w.alloc (.cells #[.bool L,.slice N R S,.slice bx T U] 141)).alloc (.cells #[.bool M,.slice P V W,.slice Q X Y] 141)).alloc (.cells #[.bool false,.slice none 0 0,.slice none 0 0] 141))=d from am.o];go_region_held3
  (fun w'=>w'.cell? ⟨w.heap.size,0,none⟩=some (.bool L)/\w'.cell? ⟨w.heap.size,1,none⟩=some (.slice N R S)/\w'.cell? ⟨w.heap.size,2,none⟩=some (.slice bx T U)/\w'.cell? ⟨w.heap.size+1,0,none⟩=some (.bool M)/\w'.cell? ⟨w.heap.size+1,1,none⟩=some (.slice P V W)/\w'.cell? ⟨w.heap.size+1,2,none⟩=some (.slice Q X Y)) ((first|(simp [*];done)|go_keep))
  (first
  |
   (go_at_call_of 161 (Value.agg #[.bool L,.slice N R S,.slice bx T U])
    apply cM;apply NBag.under (w0:=d) (hl:=ak.o) (hk:=ag.o.2);(focus(first|exact a.o|exact a.o.drew|exact a.o.drew.drew));rintro e w3 ⟨aA,nA,cA,rfl,c⟩;clear a;have a:=Hi c;clear c;obtain⟨A,B,C⟩:=Jb a.o.base s f.o g.o h.o;obtain⟨D,E,F⟩:=Jb a.o.base u k.o l.o m.o
    skip)
  |
   (go_at_call_of 161 (Value.agg #[.bool M,.slice P V W,.slice Q X Y])
    apply cM;apply NBag.under (w0:=d) (hl:=al.o) (hk:=ah.o.2);(focus(first|exact a.o|exact a.o.drew|exact a.o.drew.drew));rintro e w4 ⟨aB,nB,cB,rfl,c⟩;clear a;have a:=Hi c;clear c;obtain⟨A,B,C⟩:=Jb a.o.base s f.o g.o h.o;obtain⟨D,E,F⟩:=Jb a.o.base u k.o l.o m.o
    skip)
  )
 go_wp2_with
  ((skip
    first
     |(
      go_at_call 168;apply cM
      apply NBag.gcd (w0:=d))
     |(
      go_at_call 169;apply cM
      apply NBag.quot (w0:=d))
     |(
      go_at_call 177;apply cM
      apply NBag.mul (w0:=d))
     |(
      go_at_call 176;apply cM
      apply NBag.addSigned (w0:=d))
    (focus(first|exact a.o|exact a.o.drew|exact a.o.drew.drew));repeat(first|exact mH|apply mT);omega
    try (focus(exact x.o))
    first
     |rintro e wn ⟨an,nn,cn,rfl,c⟩
     |(
      rintro e wn ⟨r,aT,nT,cT,t,rfl,c,J⟩;have HT:=Hi J
      clear J)
    clear a;have a:=Hi c;clear c;obtain⟨A,B,C⟩:=Jb a.o.base s f.o g.o h.o;obtain⟨D,E,F⟩:=Jb a.o.base u k.o l.o m.o
    skip))
 go_region_held3
  (fun w'=>w'.cell? ⟨w.heap.size,0,none⟩=some (.bool L)/\w'.cell? ⟨w.heap.size,1,none⟩=some (.slice N R S)/\w'.cell? ⟨w.heap.size,2,none⟩=some (.slice bx T U)/\w'.cell? ⟨w.heap.size+1,0,none⟩=some (.bool M)/\w'.cell? ⟨w.heap.size+1,1,none⟩=some (.slice P V W)/\w'.cell? ⟨w.heap.size+1,2,none⟩=some (.slice Q X Y)) ((first|(simp [*];done)|go_keep))
  ((skip
    first
     |(
      go_at_call 168;apply cM
      apply NBag.gcd (w0:=d))
     |(
      go_at_call 169;apply cM
      apply NBag.quot (w0:=d))
     |(
      go_at_call 177;apply cM
      apply NBag.mul (w0:=d))
     |(
      go_at_call 176;apply cM
      apply NBag.addSigned (w0:=d))
    (focus(first|exact a.o|exact a.o.drew|exact a.o.drew.drew));repeat(first|exact mH|apply mT);omega
    try (focus(exact x.o))
    first
     |rintro e wn ⟨an,nn,cn,rfl,c⟩
     |(
      rintro e wn ⟨r,aT,nT,cT,t,rfl,c,J⟩;have HT:=Hi J
      clear J)
    clear a;have a:=Hi c;clear c;obtain⟨A,B,C⟩:=Jb a.o.base s f.o g.o h.o;obtain⟨D,E,F⟩:=Jb a.o.base u k.o l.o m.o
    skip))
 have hE:=Qo6 HX.o.neg HY.o.neg HT.o;have aa:0<Nat.gcd t (Nat.gcd p.den q.den):=Nat.gcd_pos_of_pos_right _ x.o;have HZ:=Hi (a.o.get (List.Mem.head _)).1.zero_iff;obtain⟨ao,HE,ae,ap⟩:=Ic aa hE.1 hE.2 (show 0<p.den / Nat.gcd p.den q.den*(q.den / Nat.gcd t (Nat.gcd p.den q.den)) from Nat.mul_pos (Nat.div_pos (Nat.gcd_le_left _ p.den_pos) x.o) (Nat.div_pos (Nat.le_trans (Nat.gcd_le_right _ x.o) (Nat.gcd_le_right _ q.den_pos)) aa));clear hE aa;by_cases H:t=0
 .
  have aq:((nT:Int) == 0)=true:=by have:=HZ.o.1 H;simp[this]
  have ab:O (p+q=0):=Hi (by rw[<-HE.o,H,Nat.zero_div,Qim,Rat.zero_mkRat]);clear HE ae H;have hs:=G.o.below a.o.base G.o.lt;have k0:=hs.cell 0;have k1:=hs.cell 1;have k2:=hs.cell 2;have f0:=hs.free 0;have f1:=hs.free 1;have f2:=hs.free 2;simp[zeroFrac] at k0 k1 k2;obtain⟨I,ad⟩:=Ia hs (b.o.trans (a.o.base.mono b.o.size));clear hs a;go_wp2;refine bodyPost_ret (v:=.agg #[.bool false,.slice none 0 0,.slice none 0 0]) (results_cell_row rfl _ _ (w.heap.size+1+1) 141 #[.bool false,.slice none 0 0,.slice none 0 0] (0,0) _ rfl (((I.o.set 0 _).set 1 _).set 2 _) underlying141 rfl Tryz.fracInfo) rfl ?_;have ho:=(((Only.refl (w.heap.size+1+1) wn).setCell 0 (.bool false)).setCell 1 (.slice none 0 0)).setCell 2 (.slice none 0 0);exact⟨⟨_,rfl,by first|exact FracV.zero _|(rw [ab.o];exact FracV.zero _)⟩,Only.fresh ad.o ho (by omega)⟩
 .
  have aq:((nT:Int) == 0)=false:=by rw[beq_eq_false_iff_ne];have:=HZ.o.2;omega
  clear H;go_wp2_with
   ((skip
     first
      |(
       go_at_call 168;apply cM
       apply NBag.gcd (w0:=d))
      |(
       go_at_call 169;apply cM
       apply NBag.quot (w0:=d))
      |(
       go_at_call 177;apply cM
       apply NBag.mul (w0:=d))
      |(
       go_at_call 176;apply cM
       apply NBag.addSigned (w0:=d))
     (focus(first|exact a.o|exact a.o.drew|exact a.o.drew.drew));repeat(first|exact mH|apply mT);omega
     try (focus(first|exact x.o|exact ao.o))
     first
      |rintro e wn ⟨an,nn,cn,rfl,c⟩
      |(
       rintro e wn ⟨r,aT,nT,cT,t,rfl,c,J⟩;have HT:=Hi J
       clear J)
     clear a;have a:=Hi c;clear c;obtain⟨A,B,C⟩:=Jb a.o.base s f.o g.o h.o;obtain⟨D,E,F⟩:=Jb a.o.base u k.o l.o m.o
     skip))
  have af:=Hi (G.o.below a.o.base G.o.lt);have K:=Hi (b.o.trans (a.o.base.mono b.o.size));clear G b;have G:=af;have b:=K;clear af K;apply cM;apply NBag.built (w0:=d) a.o;repeat(first|exact mH|apply mT);(focus(exact ap.o));(focus(exact ae.o));rw[HE.o];rintro e w9 ⟨⟨v9,rfl,hv⟩,c⟩;obtain⟨n,a9,n9,c9,b9,m9,d9,rfl,hv⟩:=hv;have hs:=G.o.below c G.o.lt;have k0:=hs.cell 0;have k1:=hs.cell 1;have k2:=hs.cell 2;have f0:=hs.free 0;have f1:=hs.free 1;have f2:=hs.free 2;simp[zeroFrac] at k0 k1 k2;obtain⟨HV,I,ad⟩:=Ib hv hs (b.o.trans (c.mono b.o.size));clear hv hs c;go_wp2
  refine bodyPost_ret (v:=.agg #[.bool n,.slice a9 n9 c9,.slice b9 m9 d9]) (results_cell_row rfl _ _ (w.heap.size+1+1) 141 #[.bool n,.slice a9 n9 c9,.slice b9 m9 d9] (0,0) _ rfl (((I.o.set 0 _).set 1 _).set 2 _) underlying141 rfl Tryz.fracInfo) rfl ?_;have ho:=(((Only.refl (w.heap.size+1+1) w9).setCell 0 (.bool n)).setCell 1 (.slice a9 n9 c9)).setCell 2 (.slice b9 m9 d9);exact⟨⟨_,rfl,n,a9,n9,c9,b9,m9,d9,rfl,HV.o.only ho I.o Qbi⟩,Only.fresh ad.o ho (by omega)⟩
theorem Qfp{d e:Value}{i j:Nat}{p q:Rat}{w:Vz}(a:FracV w d p)(b:FracV w e q)(f:Fits p i)(g:Fits q j)(c:i+j<68719476000):Calls prog 160 #[d,e] w (FNew w (p*q)):=by
 obtain⟨h,k,l,m,bx,n,o,rfl,a⟩:=a;obtain⟨r,s,t,u,v,x,y,rfl,b⟩:=b;exact Qil h r k bx s v l m n o t u x y i j p q w a b f g c
theorem Qo8(F G:Bool)(H bx I J:Vx)(K L M N P Q R S i j:Nat)(p q:Rat)(w:Vz)(hx:FracAt w F H K L bx M N p)(hy:FracAt w G I P Q J R S q)(hp:Fits p i)(hq:Fits q j)(al:i+j<68719476000):
 Calls prog 101 #[.agg #[.bool F,.slice H K L,.slice bx M N],.agg #[.bool G,.slice I P Q,.slice J R S]] w (FNew w (p - q)):=by
 rw[Rat.sub_eq_add_neg];obtain⟨HX,HY,aa,ab⟩:=Ic hx hy hp hq;obtain⟨D,ad⟩:=nm (#[Value.bool F,.slice H K L,.slice bx M N]);obtain⟨E,ae⟩:=nm (#[Value.bool G,.slice I P Q,.slice J R S]);obtain⟨HR,HS,f,g,b⟩:=Id ((((((NBag.start hx.top hy.top hp.1 hq.1).alloc (.cells D 141)).alloc (.cells E 141)).alloc (.cells zeroFrac 141)).rebase)) (SB.new3 w 141 141 141 D E zeroFrac) ((SB.new2 w 141 141 D E).alloc (.cells zeroFrac 141)) (((SB.new w 141 D).alloc (.cells E 141)).alloc (.cells zeroFrac 141)) (Below.new3 w (.cells D 141) (.cells E 141) (.cells zeroFrac 141));obtain⟨h,x⟩:=nm ((((w.alloc (.cells D 141)).alloc (.cells E 141)).alloc (.cells zeroFrac 141)));rw[x] at HR HS f g b;subst ad ae;obtain⟨am,an⟩:=Ia (hx.low.below b.o) (hy.low.below b.o)
 have y:=g.o.lt;have z:=f.o.lt;obtain⟨k,l,m,n,r,s⟩:=Ie (g.o.cell 0) (g.o.cell 1) (g.o.cell 2) (f.o.cell 0) (f.o.cell 1) (f.o.cell 2);simp at k l m n r s;have af:=Hi x;have ao:w.heap.size+1+1≠w.heap.size:=by omega
 have ap:w.heap.size+1+1≠w.heap.size+1:=by omega
 clear hx hy hp hq x;go_enter func101,ntmps101;obtain⟨T,U,V⟩:=Jb HR.o.base y k.o l.o m.o;obtain⟨W,X,Y⟩:=Jb HR.o.base z n.o r.o s.o;go_wp2_with fail;rw[show (((w.alloc (.cells #[.bool F,.slice H K L,.slice bx M N] 141)).alloc (.cells #[.bool G,.slice I P Q,.slice J R S] 141)).alloc (.cells #[.bool false,.slice none 0 0,.slice none 0 0] 141))=h from af.o];have ag:=aa;obtain⟨ah,ai,A⟩:=Ib ab.o.neg (HX.o.below b.o) (HY.o.below b.o);go_region_held3
  (fun w'=>w'.cell? ⟨w.heap.size,0,none⟩=some (.bool F)/\w'.cell? ⟨w.heap.size,1,none⟩=some (.slice H K L)/\w'.cell? ⟨w.heap.size,2,none⟩=some (.slice bx M N)/\w'.cell? ⟨w.heap.size+1,0,none⟩=some (.bool G)/\w'.cell? ⟨w.heap.size+1,1,none⟩=some (.slice I P Q)/\w'.cell? ⟨w.heap.size+1,2,none⟩=some (.slice J R S)) ((first|(simp [*];done)|go_keep))
  (first
  |(
   go_at_call 79;apply cM;apply Qik;(focus(first|exact A.o|exact A.o.drew|exact A.o.drew.drew));rintro e w4 ⟨⟨v4,rfl,t⟩,u⟩;obtain⟨ak,a4,n4,c4,b4,m4,d4,rfl,t⟩:=t;have B:=Hi t
   first
    |have a:O (Bl h w4):=Hi u
    |have a:O (Bl h w4):=Hi ((Below.refl _ h).drew.trans u)
    |have a:O (Bl h w4):=Hi ((Below.refl _ h).drew.drew.trans u)
   have C:=Hi (ai.o.below a.o);clear t u HR;obtain⟨T,U,V⟩:=Jb a.o y k.o l.o m.o;obtain⟨W,X,Y⟩:=Jb a.o z n.o r.o s.o
   skip)
  |
   (go_at_call 146
    apply cM;apply Qo7 (i:=i) (j:=j);(focus(first|exact C.o|exact C.o.drew|exact C.o.drew.drew));(focus(first|exact B.o|exact B.o.drew|exact B.o.drew.drew));(focus(exact ag.o));(focus(exact ah.o));omega;rintro e w9 ⟨⟨v9,rfl,t⟩,u⟩;obtain⟨d,a9,n9,c9,b9,m9,d9,rfl,t⟩:=t
    first
     |have c:=a.o.trans (u.mono a.o.size)
     |have c:=a.o.drew.trans (u.mono a.o.size)
     |have c:=a.o.drew.drew.trans (u.mono a.o.size)
    have hs:=HS.o.below c HS.o.lt;have k0:=hs.cell 0;have k1:=hs.cell 1;have k2:=hs.cell 2;have f0:=hs.free 0;have f1:=hs.free 1;have f2:=hs.free 2;obtain⟨T,U,V⟩:=Jb c y k.o l.o m.o;obtain⟨W,X,Y⟩:=Jb c z n.o r.o s.o;simp[zeroFrac] at k0 k1 k2;obtain⟨HV,Z,aj⟩:=Ib t hs (b.o.trans (c.mono b.o.size))
    clear t hs u c)
  )
 all_goals
  go_wp2;refine bodyPost_ret (v:=.agg #[.bool d,.slice a9 n9 c9,.slice b9 m9 d9]) (results_cell_row rfl _ _ (w.heap.size+1+1) 141 #[.bool d,.slice a9 n9 c9,.slice b9 m9 d9] (0,0) _ rfl (((Z.o.set 0 _).set 1 _).set 2 _) underlying141 rfl Tryz.fracInfo) rfl ?_;have ho:=(((Only.refl (w.heap.size+1+1) w9).setCell 0 (.bool d)).setCell 1 (.slice a9 n9 c9)).setCell 2 (.slice b9 m9 d9);exact⟨⟨_,rfl,d,a9,n9,c9,b9,m9,d9,rfl,HV.o.only ho Z.o Qbi⟩,Only.fresh aj.o ho (by omega)⟩
theorem Qo9(q:Rat)(b:q≠0){a:Bool}(c:a=decide (q.num<0)):mkRat (sgn a q.den) q.num.natAbs=q⁻¹:=by rw[c];exact(Qio b).1
theorem Fits.inv{q:Rat}{j:Nat}(h:Fits q j)(c:q≠0):Fits q⁻¹ j:=by
 obtain⟨d,e,f⟩:=Qio c;obtain⟨a,b⟩:=Qin (neg:=decide (q.num<0)) f e;rw[d] at a b;exact⟨by rw[a,Qd6];exact h.2,by rw[b];exact h.1⟩
theorem Qpa(W K:Bool)(X bx L M:Vx)(Y Z mx dx N P Q R i j:Nat)(p q:Rat)(w:Vz)(hx:FracAt w W X Y Z bx mx dx p)(hy:FracAt w K L N P M Q R q)(hp:Fits p i)(hq:Fits q j)(ao:i+j<68719476000):
 Calls prog 129 #[.agg #[.bool W,.slice X Y Z,.slice bx mx dx],.agg #[.bool K,.slice L N P,.slice M Q R]] w (FNew w (p / q)):=by
 obtain⟨HX,HY,ad,aa⟩:=Ic hx hy hp hq;obtain⟨CX,ae⟩:=nm (#[Value.bool W,.slice X Y Z,.slice bx mx dx]);obtain⟨CY,af⟩:=nm (#[Value.bool K,.slice L N P,.slice M Q R]);obtain⟨a,HS,x,y,d⟩:=Id ((((((NBag.start hx.top hy.top hp.1 hq.1).alloc (.cells CX 141)).alloc (.cells CY 141)).alloc (.cells zeroFrac 141)).rebase)) (SB.new3 w 141 141 141 CX CY zeroFrac) ((SB.new2 w 141 141 CX CY).alloc (.cells zeroFrac 141)) (((SB.new w 141 CX).alloc (.cells CY 141)).alloc (.cells zeroFrac 141)) (Below.new3 w (.cells CX 141) (.cells CY 141) (.cells zeroFrac 141));obtain⟨G,S⟩:=nm ((((w.alloc (.cells CX 141)).alloc (.cells CY 141)).alloc (.cells zeroFrac 141)));rw[S] at a HS x y d;subst ae af;obtain⟨ap,ag⟩:=Ia (hx.low.below d.o) (hy.low.below d.o);have t:=y.o.lt
 have u:=x.o.lt;obtain⟨f,g,k,l,m,n⟩:=Ie (y.o.cell 0) (y.o.cell 1) (y.o.cell 2) (x.o.cell 0) (x.o.cell 1) (x.o.cell 2);simp at f g k l m n;have ab:=Hi S;have aq:w.heap.size+1+1≠w.heap.size:=by omega
 have ar:w.heap.size+1+1≠w.heap.size+1:=by omega
 clear hx hy hp hq S;by_cases H:q.num.natAbs=0
 .
  have z:q=0:=Rat.num_eq_zero.1 (by omega);rw[show p / q=0 by rw[z,Rat.div_def,Rat.inv_zero,Rat.mul_zero]];go_enter func129,ntmps129;obtain⟨A,B,C⟩:=Jb a.o.base t f.o g.o k.o;obtain⟨D,E,F⟩:=Jb a.o.base u l.o m.o n.o;go_wp2_with fail;rw[show (((w.alloc (.cells #[.bool W,.slice X Y Z,.slice bx mx dx] 141)).alloc (.cells #[.bool K,.slice L N P,.slice M Q R] 141)).alloc (.cells #[.bool false,.slice none 0 0,.slice none 0 0] 141))=G from ab.o];apply cM;apply NBag.isZero (w0:=G) a.o
  repeat(first|exact mH|apply mT);rw[(decide_eq_true H)];rintro e w2 ⟨rfl,c⟩;have hs:=HS.o.below c.base HS.o.lt;have k0:=hs.cell 0;have k1:=hs.cell 1;have k2:=hs.cell 2;have f0:=hs.free 0;have f1:=hs.free 1;have f2:=hs.free 2;simp[zeroFrac] at k0 k1 k2;obtain⟨I,T⟩:=Ia hs (d.o.trans (c.base.mono d.o.size));clear c hs a;go_wp2;refine bodyPost_ret (v:=.agg #[.bool false,.slice none 0 0,.slice none 0 0]) (results_cell_row rfl _ _ (w.heap.size+1+1) 141 #[.bool false,.slice none 0 0,.slice none 0 0] (0,0) _ rfl (((I.o.set 0 _).set 1 _).set 2 _) underlying141 rfl Tryz.fracInfo) rfl ?_;have ho:=(((Only.refl (w.heap.size+1+1) w2).setCell 0 (.bool false)).setCell 1 (.slice none 0 0)).setCell 2 (.slice none 0 0);exact⟨⟨_,rfl,FracV.zero _⟩,Only.fresh T.o ho (by omega)⟩
 .
  have z:q≠0:=fun h=>H (by rw[h];rfl)
  go_enter func129,ntmps129;obtain⟨A,B,C⟩:=Jb a.o.base t f.o g.o k.o;obtain⟨D,E,F⟩:=Jb a.o.base u l.o m.o n.o;go_wp2_with fail;rw[show (((w.alloc (.cells #[.bool W,.slice X Y Z,.slice bx mx dx] 141)).alloc (.cells #[.bool K,.slice L N P,.slice M Q R] 141)).alloc (.cells #[.bool false,.slice none 0 0,.slice none 0 0] 141))=G from ab.o];apply cM;apply NBag.isZero (w0:=G) a.o;repeat(first|exact mH|apply mT);rw[(decide_eq_false H)];rintro e w2 ⟨rfl,c⟩;clear a
  have a:=Hi c;clear c;obtain⟨A,B,C⟩:=Jb a.o.base t f.o g.o k.o;obtain⟨D,E,F⟩:=Jb a.o.base u l.o m.o n.o;go_wp2_with fail;rw[Rat.div_def];obtain⟨ah,ai,aj⟩:=Ib (Qo9 q z HY.o.neg) (Nat.Coprime.symm q.reduced) (show 0<q.num.natAbs by omega);have ak:=ad;obtain⟨al,am⟩:=Ia (aa.o.inv z) (HX.o.below d.o);clear z H;go_region_held3
   (fun w'=>w'.cell? ⟨w.heap.size,0,none⟩=some (.bool W)/\w'.cell? ⟨w.heap.size,1,none⟩=some (.slice X Y Z)/\w'.cell? ⟨w.heap.size,2,none⟩=some (.slice bx mx dx)/\w'.cell? ⟨w.heap.size+1,0,none⟩=some (.bool K)/\w'.cell? ⟨w.heap.size+1,1,none⟩=some (.slice L N P)/\w'.cell? ⟨w.heap.size+1,2,none⟩=some (.slice M Q R)) ((first|(simp [*];done)|go_keep))
   (first
   |
    (go_at_call_of 161 (Value.agg #[.bool K,.slice L N P,.slice M Q R])
     apply cM;apply NBag.under (w0:=G) (hl:=ag.o) (hk:=aa.o.2);(focus(first|exact a.o|exact a.o.drew|exact a.o.drew.drew));rintro e w3 ⟨aB,nB,cB,rfl,c⟩;clear a;have a:=Hi c;clear c;obtain⟨A,B,C⟩:=Jb a.o.base t f.o g.o k.o;obtain⟨D,E,F⟩:=Jb a.o.base u l.o m.o n.o
     skip)
   |(
    go_at_call 130;apply cM;apply NBag.built (w0:=G);(focus(first|exact a.o|exact a.o.drew|exact a.o.drew.drew));repeat(first|exact mH|apply mT);(focus(exact aj.o));(focus(exact ai.o));rw[ah.o];rintro e w4 ⟨⟨v4,rfl,J⟩,c⟩;obtain⟨an,a4,n4,c4,b4,m4,d4,rfl,J⟩:=J;have U:=Hi J
    first
     |have b:=Hi (a.o.base.trans (c.mono a.o.base.size))
     |have b:O (Bl G w4):=Hi (a.o.base.drew.trans (c.mono a.o.base.size))
     |have b:O (Bl G w4):=Hi (a.o.base.drew.drew.trans (c.mono a.o.base.size))
    have V:=Hi (am.o.below b.o);clear J c a;obtain⟨A,B,C⟩:=Jb b.o t f.o g.o k.o;obtain⟨D,E,F⟩:=Jb b.o u l.o m.o n.o
    skip)
   |
    (go_at_call 160
     apply cM;apply Qil (i:=i) (j:=j);(focus(first|exact V.o|exact V.o.drew|exact V.o.drew.drew));(focus(first|exact U.o|exact U.o.drew|exact U.o.drew.drew));(focus(exact ak.o));(focus(exact al.o));omega;rintro e w9 ⟨⟨v9,rfl,J⟩,c⟩;obtain⟨s,a9,n9,c9,b9,m9,d9,rfl,J⟩:=J
     first
      |have r:=b.o.trans (c.mono b.o.size)
      |have r:=b.o.drew.trans (c.mono b.o.size)
      |have r:=b.o.drew.drew.trans (c.mono b.o.size)
     have hs:=HS.o.below r HS.o.lt;have k0:=hs.cell 0;have k1:=hs.cell 1;have k2:=hs.cell 2;have f0:=hs.free 0;have f1:=hs.free 1;have f2:=hs.free 2;obtain⟨A,B,C⟩:=Jb r t f.o g.o k.o;obtain⟨D,E,F⟩:=Jb r u l.o m.o n.o;simp[zeroFrac] at k0 k1 k2;obtain⟨HV,I,T⟩:=Ib J hs (d.o.trans (r.mono d.o.size))
     clear J hs c r)
   )
  all_goals
   go_wp2;refine bodyPost_ret (v:=.agg #[.bool s,.slice a9 n9 c9,.slice b9 m9 d9]) (results_cell_row rfl _ _ (w.heap.size+1+1) 141 #[.bool s,.slice a9 n9 c9,.slice b9 m9 d9] (0,0) _ rfl (((I.o.set 0 _).set 1 _).set 2 _) underlying141 rfl Tryz.fracInfo) rfl ?_;have ho:=(((Only.refl (w.heap.size+1+1) w9).setCell 0 (.bool s)).setCell 1 (.slice a9 n9 c9)).setCell 2 (.slice b9 m9 d9);exact⟨⟨_,rfl,s,a9,n9,c9,b9,m9,d9,rfl,HV.o.only ho I.o Qbi⟩,Only.fresh T.o ho (by omega)⟩
theorem Qbj{d e:Value}{i j:Nat}{p q:Rat}{w:Vz}(a:FracV w d p)(b:FracV w e q)(f:Fits p i)(g:Fits q j)(c:i+j<68719476000):Calls prog 101 #[d,e] w (FNew w (p - q)):=by
 obtain⟨h,k,l,m,bx,n,o,rfl,a⟩:=a;obtain⟨r,s,t,u,v,x,y,rfl,b⟩:=b;exact Qo8 h r k bx s v l m n o t u x y i j p q w a b f g c
theorem Qc2{d e:Value}{i j:Nat}{p q:Rat}{w:Vz}(a:FracV w d p)(b:FracV w e q)(f:Fits p i)(g:Fits q j)(c:i+j<68719476000):Calls prog 129 #[d,e] w (FNew w (p / q)):=by
 obtain⟨h,k,l,m,bx,n,o,rfl,a⟩:=a;obtain⟨r,s,t,u,v,x,y,rfl,b⟩:=b;exact Qpa h r k bx s v l m n o t u x y i j p q w a b f g c
theorem Qc3{b:Value}{p:Rat}{w:Vz}(a:FracV w b p):Calls prog 79 #[b] w (FNew w (-p)):=by
 obtain⟨c,d,e,f,bx,g,h,rfl,a⟩:=a;exact Qik c d bx e f g h p w a
theorem Qcd{b:Value}{p:Rat}{w:Vz}(a:FracV w b p):Calls prog 127 #[b] w fun e w'=>e=.returned (.bool (decide (p=0)))/\Below w.heap.size w w':=by
 obtain⟨c,d,f,g,bx,i,j,rfl,a⟩:=a;have e:decide (p.num.natAbs=0)=decide (p=0):=by
  by_cases h:p=0
  . subst h;rfl
  . have:p.num≠0:=fun k=>h (Rat.num_eq_zero.1 k)
    rw[decide_eq_false h,decide_eq_false (by omega)]
 rw[<-e];exact Qij c d bx f g i j _ w a.top
end Go.Proofs.YtppkmifkpjkgpaaGreatDoor
