import Derived.Test.YtppkmifkpjkgpaaGreatDoorC15FracA
namespace Go.Proofs.YtppkmifkpjkgpaaGreatDoor
open Go.RowKit
open Go.Proofs.Tryz
set_option linter.unusedSimpArgs false
set_option linter.unusedVariables false
set_option maxHeartbeats 8000000
set_option maxRecDepth 1000000
theorem Qn6{p q:Bool}{x y:Nat}(h:p≠q)(a:x<=y):sgn q (y - x)=sgn p x+sgn q y:=by
 cases p<;>cases q<;>simp[sgn] at h ⊢ <;>omega
theorem Qn7{p q:Bool}{x y:Nat}(h:p≠q)(a:y<=x):sgn p (x - y)=sgn p x+sgn q y:=by
 cases p<;>cases q<;>simp[sgn] at h ⊢ <;>omega
theorem Qn8(p:Bool)(x y:Nat):sgn p (x+y)=sgn p x+sgn p y:=by
 cases p<;>simp[sgn]<;>omega
theorem Qn9{x j k:Nat}(h:x<2 ^ j)(hk:j<=k):x<2 ^ k:=Nat.lt_of_lt_of_le h (Nat.pow_le_pow_right (by decide) hk)
theorem NBag.grow{w0 w:Vz}{L:List Ent}{a:Vx}{n c x j k:Nat}(h:NBag w0 w (⟨a,n,c,x,j⟩ :: L))(hk:j<=k):NBag w0 w (⟨a,n,c,x,k⟩ :: L):=
 ⟨h.base,fun t b=>by
   rcases List.mem_cons.1 b with rfl|b
   . exact⟨(h.ts _ (List.Mem.head _)).1,Qn9 (h.ts _ (List.Mem.head _)).2 hk⟩
   . exact h.ts t (List.mem_cons_of_mem _ b)⟩
theorem NBag.rebase{w0 w:Vz}{L:List Ent}(h:NBag w0 w L):NBag w w L:=⟨Below.refl _ _,h.ts⟩
def Signed(w0:Vz)(L:List Ent)(k:Nat)(z:Int)(e:Ending)(w':Vz):Prop:=∃r a n c t,e=.returned (.tuple #[.bool r,.slice a n c])/\NBag w0 w' (⟨a,n,c,t,k⟩ :: L)/\sgn r t=z
theorem NBag.addSigned{w0 w:Vz}{L:List Ent}{u v:Vx}{n1 z c1 c2 x y j k:Nat}{p q:Bool}(h:NBag w0 w L)(g:⟨u,n1,c1,x,j⟩∈ L)(i:⟨v,z,c2,y,k⟩∈ L)(s:j+k<274877906000):
 Calls prog 176 #[.bool p,.slice u n1 c1,.bool q,.slice v z c2] w (Signed w0 L (j+k+1) (sgn p x+sgn q y)):=by
 by_cases d:p=q
 .
  subst d;have f:=Hi (h.add g i s);clear h g i s;go_enter func176,ntmps176;go_wp2_with fail;go_fit f.o;rintro e w1 ⟨a,n,c,rfl,b⟩;have l:=Hi b;clear b f;go_wp2;go_ret2;exact⟨p,a,n,c,x+y,rfl,l.o,Qn8 p x y⟩
 .
  have A:(p == q)=false:=by simpa using d
  obtain⟨r,B,C,D⟩:=Ic (h.compare g i) g i d;clear h g i s d;by_cases t:x<y
  .
   have m:cmp3 x y<0:=(Qay x y).2 t;go_enter func176,ntmps176;go_wp2_with fail;go_fit r.o;rintro e w1 ⟨rfl,b⟩;have f:=Hi (b.sub C.o B.o (by omega));clear b r;go_wp2_with fail;go_fit f.o;rintro e w1 ⟨a,n,c,rfl,b⟩;have l:=Hi b;clear b f;go_wp2;go_ret2;exact⟨q,a,n,c,y - x,rfl,l.o.grow (by omega),Qn6 D.o (by omega)⟩
  .
   have m:¬(cmp3 x y<0):=fun h=>by have:=(Qay x y).1 h;omega
   go_enter func176,ntmps176;go_wp2_with fail;go_fit r.o;rintro e w1 ⟨rfl,b⟩;have f:=Hi (b.sub B.o C.o (by omega));clear b r;go_wp2_with fail;go_fit f.o;rintro e w1 ⟨a,n,c,rfl,b⟩;have l:=Hi b;clear b f;go_wp2;go_ret2;exact⟨p,a,n,c,x - y,rfl,l.o.grow (by omega),Qn7 D.o (by omega)⟩
theorem Qoa{neg:Bool}{t k g:Nat}(hk:0<k)(b:Nat.gcd t k=g):mkRat (sgn neg (t / g)) (k / g)=mkRat (sgn neg t) k/\Nat.Coprime (t / g) (k / g)/\0<k / g/\0<g:=by
 have d:0<g:=by rw[<-b];exact Nat.gcd_pos_of_pos_right _ hk
 have d1:g ∣ t:=b ▸ Nat.gcd_dvd_left _ _;have d2:g ∣ k:=b ▸ Nat.gcd_dvd_right _ _;have e:=Nat.div_mul_cancel d1;have c:=Nat.div_mul_cancel d2;refine⟨?_,by have:=Nat.coprime_div_gcd_div_gcd (m:=t) (n:=k) (by omega);rw[b] at this;exact this,?_,d⟩
 .
  rw[<-Rat.mkRat_mul_right (a:=g) (by omega),c]
  congr 1
  have:=Qce neg false (t / g) g;rw[show sgn false g=(g:Int) from rfl,e,Bool.bne_false] at this;exact this.symm
 .
  rcases Nat.eq_zero_or_pos (k / g) with h|h
  . rw[h] at c;omega
  . exact h
theorem NBag.start{w:Vz}{a b:Vx}{n c m d t k i j:Nat}(f:NumV w a n c t)(hk:NumV w b m d k)(g:t<2 ^ i)(h:k<2 ^ j):NBag w w [⟨a,n,c,t,i⟩,⟨b,m,d,k,j⟩]:=by
 refine⟨Below.refl _ _,fun s e=>?_⟩;simp only[List.mem_cons,List.not_mem_nil,or_false] at e;rcases e with rfl|rfl
 . exact⟨f,g⟩
 . exact⟨hk,h⟩
theorem Qob(neg:Bool)(a b:Vx)(n c m d t k i j:Nat)(w:Vz)(F:NumV w a n c t)(hk:NumV w b m d k)(H:t<2 ^ i)(I:k<2 ^ j)(J:i+j<137438953000):
 Calls prog 135 #[.bool neg,.slice a n c,.slice b m d] w (FNew w (mkRat (sgn neg t) k)):=by
 have K:=hk.zero_iff;by_cases L:k=0
 .
  have P:m=0:=K.1 L;subst L P;rw[Rat.mkRat_zero];have T:=Hi ((Below.refl w.heap.size w).alloc lZ (.cells #[.bool false,.slice none 0 0,.slice none 0 0] 141));clear F hk H I J K;go_enter func135,ntmps135;go_wp2;refine bodyPost_ret (v:=.agg #[.bool false,.slice none 0 0,.slice none 0 0]) (results_cell_row rfl _ _ w.heap.size 141 #[.bool false,.slice none 0 0,.slice none 0 0] (0,0) _ rfl (SB.new w _ _) underlying141 rfl Tryz.fracInfo) rfl ?_;exact⟨⟨_,rfl,FracV.zero _⟩,T.o⟩
 .
  have P:((m:Int) == 0)=false:=by rw[beq_eq_false_iff_ne];omega
  obtain⟨G,hG⟩:=nm (Nat.gcd t k);obtain⟨Q,R,M,U⟩:=Qoa (neg:=neg) (by omega) hG;rw[<-Q];have g:=Hi (((NBag.start F hk H I).alloc (.cells zeroFrac 141)).rebase);obtain⟨y,r⟩:=nm (w.alloc (.cells zeroFrac 141));obtain⟨s,f⟩:=Ia (SB.new w 141 zeroFrac) ((Below.refl w.heap.size w).alloc lZ (.cells zeroFrac 141));rw[r] at g s f;obtain⟨V,W,N⟩:=Ib R hG r;clear F hk H I K L R hG Q r;go_enter func135,ntmps135;go_wp2_with fail;rw[show w.alloc (.cells #[.bool false,.slice none 0 0,.slice none 0 0] 141)=y from N.o];apply cM;apply NBag.gcd (w0:=y) g.o;(focus(repeat(first|exact mH|apply mT)));(focus(repeat(first|exact mH|apply mT)));omega;rw[W.o];rintro e w1 ⟨aG,nG,cG,rfl,l⟩;clear g;have g:=Hi l;clear l;go_wp2_with fail
  apply cM;apply NBag.quot (w0:=y) g.o;(focus(repeat(first|exact mH|apply mT)));(focus(repeat(first|exact mH|apply mT)));omega;(first|assumption|omega);rintro e w2 ⟨X,Y,Z,rfl,l⟩;clear g;have g:=Hi l;clear l;go_wp2_with fail;apply cM;apply NBag.quot (w0:=y) g.o;(focus(repeat(first|exact mH|apply mT)));(focus(repeat(first|exact mH|apply mT)));omega;(first|assumption|omega);rintro e w3 ⟨aL,nL,cL,rfl,l⟩;clear g;have g:=Hi l;clear l;go_wp2_with fail;have u:=Hi (s.o.below g.o.base s.o.lt);have p:=Hi (f.o.trans (g.o.base.mono f.o.size));clear s f;have s:=u;have f:=p;clear u p
  go_fit (Qdw neg X aL Y Z nL cL (t / G) (k / G) _ (g.o.get (List.Mem.tail _ (List.Mem.head _))).1 (.inr ⟨M,(g.o.get (List.Mem.head _)).1⟩) V.o);rintro e w9 ⟨⟨v9,rfl,z⟩,l⟩;obtain⟨h,A,B,C,D,E,d9,rfl,z⟩:=z;have q:=s.o.below l s.o.lt;have k0:=q.cell 0;have k1:=q.cell 1;have k2:=q.cell 2;have f0:=q.free 0;have f1:=q.free 1;have f2:=q.free 2;simp[zeroFrac] at k0 k1 k2;obtain⟨HV,x,O⟩:=Ib z q (f.o.trans (l.mono f.o.size));clear z q l;go_wp2;refine bodyPost_ret (v:=.agg #[.bool h,.slice A B C,.slice D E d9]) (results_cell_row rfl _ _ (w.heap.size) 141 #[.bool h,.slice A B C,.slice D E d9] (0,0) _ rfl (((x.o.set 0 _).set 1 _).set 2 _) underlying141 rfl Tryz.fracInfo) rfl ?_;have S:=(((Only.refl (w.heap.size) w9).setCell 0 (.bool h)).setCell 1 (.slice A B C)).setCell 2 (.slice D E d9)
  exact⟨⟨_,rfl,h,A,B,C,D,E,d9,rfl,HV.o.only S x.o Qbk⟩,Only.fresh O.o S (by omega)⟩
theorem NBag.under{w0 w:Vz}{L:List Ent}{neg:Bool}{a b:Vx}{n c m d k e:Nat}(h:NBag w0 w L)(hl:Low w0 b m d k)(hk:k<2 ^ e):
 Calls prog 161 #[.agg #[.bool neg,.slice a n c,.slice b m d]] w (NNew w0 L k e):=Qn5 neg a b n c m d k e w0 w L h (hl.below h.base) hk
theorem NBag.built{w0 w:Vz}{L:List Ent}{neg:Bool}{a b:Vx}{n c m d t k i j:Nat}(h:NBag w0 w L)(e:⟨a,n,c,t,i⟩∈ L)(f:⟨b,m,d,k,j⟩∈ L)(hk:0<k)(g:Nat.Coprime t k):
 Calls prog 130 #[.bool neg,.slice a n c,.slice b m d] w (FNew w (mkRat (sgn neg t) k)):=Qdw neg a b n c m d t k w (h.get e).1 (.inr ⟨hk,(h.get f).1⟩) g
theorem NBag.isZero{w0 w:Vz}{L:List Ent}{a b:Vx}{n c t k m d:Nat}{neg:Bool}(h:NBag w0 w L)(f:⟨a,n,c,t,k⟩∈ L):
 Calls prog 127 #[.agg #[.bool neg,.slice a n c,.slice b m d]] w (fun e w'=>e=.returned (.bool (decide (t=0)))/\NBag w0 w' L):=by
 refine(Qid neg a b n c m d t w (h.get f).1).mono ?_;rintro e w' ⟨rfl,g⟩;exact⟨rfl,h.below g⟩
theorem Qif(D E:Bool)(J bx K b2:Vx)(L M N P Q R S T i j:Nat)(p q:Rat)(w:Vz)(hx:FracAt w D J L M bx N P p)(hy:FracAt w E K Q R b2 S T q)(hp:Fits p i)(hq:Fits q j)(ap:i+j<68719476000):
 Calls prog 160 #[.agg #[.bool D,.slice J L M,.slice bx N P],.agg #[.bool E,.slice K Q R,.slice b2 S T]] w (FNew w (p*q)):=by
 obtain⟨HX,HY,ae,af⟩:=Ic hx hy hp hq;obtain⟨CX,ag⟩:=nm (#[Value.bool D,.slice J L M,.slice bx N P]);obtain⟨CY,ah⟩:=nm (#[Value.bool E,.slice K Q R,.slice b2 S T]);obtain⟨a,F,G,H,c⟩:=Id ((((((NBag.start hx.top hy.top hp.1 hq.1).alloc (.cells CX 141)).alloc (.cells CY 141)).alloc (.cells zeroFrac 141)).rebase)) (SB.new3 w 141 141 141 CX CY zeroFrac) ((SB.new2 w 141 141 CX CY).alloc (.cells zeroFrac 141)) (((SB.new w 141 CX).alloc (.cells CY 141)).alloc (.cells zeroFrac 141)) (Below.new3 w (.cells CX 141) (.cells CY 141) (.cells zeroFrac 141));obtain⟨A,V⟩:=nm ((((w.alloc (.cells CX 141)).alloc (.cells CY 141)).alloc (.cells zeroFrac 141)));rw[V] at a F G H c;subst ag ah;obtain⟨ai,aj⟩:=Ia (hx.low.below c.o) (hy.low.below c.o);have d:=H.o.lt
 have g:=G.o.lt;obtain⟨h,k,l,m,n,r⟩:=Ie (H.o.cell 0) (H.o.cell 1) (H.o.cell 2) (G.o.cell 0) (G.o.cell 1) (G.o.cell 2);simp at h k l m n r;have W:=Hi V;have aq:w.heap.size+1+1≠w.heap.size:=by omega
 have ar:w.heap.size+1+1≠w.heap.size+1:=by omega
 clear hx hy hp hq V;by_cases X:p.num.natAbs=0
 .
  have ak:p=0:=Rat.num_eq_zero.1 (by omega);rw[show p*q=0 by rw[ak,Rat.zero_mul]];go_enter func160,ntmps160;obtain⟨s,t,u⟩:=Jb a.o.base d h.o k.o l.o;obtain⟨x,y,z⟩:=Jb a.o.base g m.o n.o r.o;go_wp2_with fail;rw[show (((w.alloc (.cells #[.bool D,.slice J L M,.slice bx N P] 141)).alloc (.cells #[.bool E,.slice K Q R,.slice b2 S T] 141)).alloc (.cells #[.bool false,.slice none 0 0,.slice none 0 0] 141))=A from W.o];apply cM;apply NBag.isZero (w0:=A) a.o
  (focus(repeat(first|exact mH|apply mT)));rw[(decide_eq_true X)];rintro e w1 ⟨rfl,b⟩;have f:=F.o.below b.base F.o.lt;have k0:=f.cell 0;have k1:=f.cell 1;have k2:=f.cell 2;have f0:=f.free 0;have f1:=f.free 1;have f2:=f.free 2;simp[zeroFrac] at k0 k1 k2;obtain⟨C,I⟩:=Ia f (c.o.trans (b.base.mono c.o.size));clear b f a;go_wp2;refine bodyPost_ret (v:=.agg #[.bool false,.slice none 0 0,.slice none 0 0]) (results_cell_row rfl _ _ (w.heap.size+1+1) 141 #[.bool false,.slice none 0 0,.slice none 0 0] (0,0) _ rfl (((C.o.set 0 _).set 1 _).set 2 _) underlying141 rfl Tryz.fracInfo) rfl ?_;have ho:=(((Only.refl (w.heap.size+1+1) w1).setCell 0 (.bool false)).setCell 1 (.slice none 0 0)).setCell 2 (.slice none 0 0);exact⟨⟨_,rfl,FracV.zero _⟩,Only.fresh I.o ho (by omega)⟩
 .
  by_cases aa:q.num.natAbs=0
  .
   have al:q=0:=Rat.num_eq_zero.1 (by omega);rw[show p*q=0 by rw[al,Rat.mul_zero]];go_enter func160,ntmps160;obtain⟨s,t,u⟩:=Jb a.o.base d h.o k.o l.o;obtain⟨x,y,z⟩:=Jb a.o.base g m.o n.o r.o;go_wp2_with fail;rw[show (((w.alloc (.cells #[.bool D,.slice J L M,.slice bx N P] 141)).alloc (.cells #[.bool E,.slice K Q R,.slice b2 S T] 141)).alloc (.cells #[.bool false,.slice none 0 0,.slice none 0 0] 141))=A from W.o];apply cM;apply NBag.isZero (w0:=A) a.o
   (focus(repeat(first|exact mH|apply mT)));rw[(decide_eq_false X)];rintro e w1 ⟨rfl,b⟩;clear a;have a:=Hi b;clear b;obtain⟨s,t,u⟩:=Jb a.o.base d h.o k.o l.o;obtain⟨x,y,z⟩:=Jb a.o.base g m.o n.o r.o;go_wp2_with fail;apply cM;apply NBag.isZero (w0:=A) a.o;(focus(repeat(first|exact mH|apply mT)));rw[(decide_eq_true aa)];rintro e w2 ⟨rfl,b⟩;have f:=F.o.below b.base F.o.lt;have k0:=f.cell 0;have k1:=f.cell 1;have k2:=f.cell 2;have f0:=f.free 0
   have f1:=f.free 1;have f2:=f.free 2;simp[zeroFrac] at k0 k1 k2;obtain⟨C,I⟩:=Ia f (c.o.trans (b.base.mono c.o.size));clear b f a;go_wp2;refine bodyPost_ret (v:=.agg #[.bool false,.slice none 0 0,.slice none 0 0]) (results_cell_row rfl _ _ (w.heap.size+1+1) 141 #[.bool false,.slice none 0 0,.slice none 0 0] (0,0) _ rfl (((C.o.set 0 _).set 1 _).set 2 _) underlying141 rfl Tryz.fracInfo) rfl ?_;have ho:=(((Only.refl (w.heap.size+1+1) w2).setCell 0 (.bool false)).setCell 1 (.slice none 0 0)).setCell 2 (.slice none 0 0);exact⟨⟨_,rfl,FracV.zero _⟩,Only.fresh I.o ho (by omega)⟩
  .
   obtain⟨he,ab⟩:=Qoe p q rfl rfl;rw[<-HX.o.neg,<-HY.o.neg] at he;have HE:O (mkRat (sgn (!D == E) (p.num.natAbs / Nat.gcd p.num.natAbs q.den*(q.num.natAbs / Nat.gcd q.num.natAbs p.den))) (p.den / Nat.gcd q.num.natAbs p.den*(q.den / Nat.gcd p.num.natAbs q.den))=p*q):=Hi he;obtain⟨am,ao⟩:=Ia ab (show 0<p.den / Nat.gcd q.num.natAbs p.den*(q.den / Nat.gcd p.num.natAbs q.den) from Nat.mul_pos (Nat.div_pos (Nat.gcd_le_right _ p.den_pos) (Nat.gcd_pos_of_pos_right _ p.den_pos)) (Nat.div_pos (Nat.gcd_le_right _ q.den_pos) (Nat.gcd_pos_of_pos_right _ q.den_pos)));clear he ab;obtain⟨Y,Z⟩:=Ia (show 0<Nat.gcd p.num.natAbs q.den from Nat.gcd_pos_of_pos_right _ q.den_pos) (show 0<Nat.gcd q.num.natAbs p.den from Nat.gcd_pos_of_pos_right _ p.den_pos);go_enter func160,ntmps160;have s:=ce a.o.base d h.o
   obtain⟨t,u⟩:=Ja a.o.base d k.o l.o;obtain⟨x,y,z⟩:=Jb a.o.base g m.o n.o r.o;go_wp2_with fail;rw[show (((w.alloc (.cells #[.bool D,.slice J L M,.slice bx N P] 141)).alloc (.cells #[.bool E,.slice K Q R,.slice b2 S T] 141)).alloc (.cells #[.bool false,.slice none 0 0,.slice none 0 0] 141))=A from W.o];apply cM;apply NBag.isZero (w0:=A) a.o;(focus(repeat(first|exact mH|apply mT)));rw[(decide_eq_false X)];rintro e w1 ⟨rfl,b⟩;clear a;have a:=Hi b;clear b;have s:=ce a.o.base d h.o
   obtain⟨t,u⟩:=Ja a.o.base d k.o l.o;obtain⟨x,y,z⟩:=Jb a.o.base g m.o n.o r.o;go_wp2_with fail;apply cM;apply NBag.isZero (w0:=A) a.o;(focus(repeat(first|exact mH|apply mT)));rw[(decide_eq_false aa)];rintro e w2 ⟨rfl,b⟩;clear a;have a:=Hi b;clear b;obtain⟨s,t,u⟩:=Jb a.o.base d h.o k.o l.o;have x:=ce a.o.base g m.o
   obtain⟨y,z⟩:=Ja a.o.base g n.o r.o;go_wp2_with fail;go_region_held3
    (fun w'=>w'.cell? ⟨w.heap.size,0,none⟩=some (.bool D)/\w'.cell? ⟨w.heap.size,1,none⟩=some (.slice J L M)/\w'.cell? ⟨w.heap.size,2,none⟩=some (.slice bx N P)/\w'.cell? ⟨w.heap.size+1,0,none⟩=some (.bool E)/\w'.cell? ⟨w.heap.size+1,1,none⟩=some (.slice K Q R)/\w'.cell? ⟨w.heap.size+1,2,none⟩=some (.slice b2 S T)) ((first|(simp [*];done)|go_keep))
    (first
    |
     (go_at_call_of 161 (Value.agg #[.bool D,.slice J L M,.slice bx N P])
      apply cM;apply NBag.under (w0:=A) (hl:=ai.o) (hk:=ae.o.2);(focus(first|exact a.o|exact a.o.drew|exact a.o.drew.drew));rintro e w3 ⟨aA,nA,cA,rfl,b⟩;clear a;have a:=Hi b;clear b;obtain⟨s,t,u⟩:=Jb a.o.base d h.o k.o l.o;obtain⟨x,y,z⟩:=Jb a.o.base g m.o n.o r.o
      skip)
    |
     (go_at_call_of 161 (Value.agg #[.bool E,.slice K Q R,.slice b2 S T])
      apply cM;apply NBag.under (w0:=A) (hl:=aj.o) (hk:=af.o.2);(focus(first|exact a.o|exact a.o.drew|exact a.o.drew.drew));rintro e w4 ⟨aB,nB,cB,rfl,b⟩;clear a;have a:=Hi b;clear b;obtain⟨s,t,u⟩:=Jb a.o.base d h.o k.o l.o;obtain⟨x,y,z⟩:=Jb a.o.base g m.o n.o r.o
      skip)
    )
   go_wp2_with fail;go_region_held3
    (fun w'=>w'.cell? ⟨w.heap.size,0,none⟩=some (.bool D)/\w'.cell? ⟨w.heap.size,1,none⟩=some (.slice J L M)/\w'.cell? ⟨w.heap.size,2,none⟩=some (.slice bx N P)/\w'.cell? ⟨w.heap.size+1,0,none⟩=some (.bool E)/\w'.cell? ⟨w.heap.size+1,1,none⟩=some (.slice K Q R)/\w'.cell? ⟨w.heap.size+1,2,none⟩=some (.slice b2 S T)) ((first|(simp [*];done)|go_keep))
    ((skip
      first
       |(
        go_at_call 168;apply cM
        apply NBag.gcd (w0:=A))
       |(
        go_at_call 169;apply cM
        apply NBag.quot (w0:=A))
       |(
        go_at_call 177;apply cM
        apply NBag.mul (w0:=A))
      (focus(first|exact a.o|exact a.o.drew|exact a.o.drew.drew));(focus(repeat(first|exact mH|apply mT)));(focus(repeat(first|exact mH|apply mT)));omega
      try (focus(first|exact Y.o|exact Z.o))
      rintro e wn ⟨an,nn,cn,rfl,b⟩;clear a;have a:=Hi b;clear b;obtain⟨s,t,u⟩:=Jb a.o.base d h.o k.o l.o;obtain⟨x,y,z⟩:=Jb a.o.base g m.o n.o r.o
      skip))
   go_wp2_with fail;go_region_held3
    (fun w'=>w'.cell? ⟨w.heap.size,0,none⟩=some (.bool D)/\w'.cell? ⟨w.heap.size,1,none⟩=some (.slice J L M)/\w'.cell? ⟨w.heap.size,2,none⟩=some (.slice bx N P)/\w'.cell? ⟨w.heap.size+1,0,none⟩=some (.bool E)/\w'.cell? ⟨w.heap.size+1,1,none⟩=some (.slice K Q R)/\w'.cell? ⟨w.heap.size+1,2,none⟩=some (.slice b2 S T)) ((first|(simp [*];done)|go_keep))
    ((skip
      first
       |(
        go_at_call 168;apply cM
        apply NBag.gcd (w0:=A))
       |(
        go_at_call 169;apply cM
        apply NBag.quot (w0:=A))
       |(
        go_at_call 177;apply cM
        apply NBag.mul (w0:=A))
      (focus(first|exact a.o|exact a.o.drew|exact a.o.drew.drew));(focus(repeat(first|exact mH|apply mT)));(focus(repeat(first|exact mH|apply mT)));omega
      try (focus(first|exact Y.o|exact Z.o))
      rintro e wn ⟨an,nn,cn,rfl,b⟩;clear a;have a:=Hi b;clear b;obtain⟨s,t,u⟩:=Jb a.o.base d h.o k.o l.o;obtain⟨x,y,z⟩:=Jb a.o.base g m.o n.o r.o
      skip))
   go_wp2_with
    ((skip
      first
       |(
        go_at_call 168;apply cM
        apply NBag.gcd (w0:=A))
       |(
        go_at_call 169;apply cM
        apply NBag.quot (w0:=A))
       |(
        go_at_call 177;apply cM
        apply NBag.mul (w0:=A))
      (focus(first|exact a.o|exact a.o.drew|exact a.o.drew.drew));(focus(repeat(first|exact mH|apply mT)));(focus(repeat(first|exact mH|apply mT)));omega
      try (focus(first|exact Y.o|exact Z.o))
      rintro e wn ⟨an,nn,cn,rfl,b⟩;clear a;have a:=Hi b;clear b;obtain⟨s,t,u⟩:=Jb a.o.base d h.o k.o l.o;obtain⟨x,y,z⟩:=Jb a.o.base g m.o n.o r.o
      skip))
   have ad:=Hi (F.o.below a.o.base F.o.lt);have U:=Hi (c.o.trans (a.o.base.mono c.o.size));clear F c;have F:=ad;have c:=U;clear ad U;apply cM;apply NBag.built (w0:=A) a.o;(focus(repeat(first|exact mH|apply mT)));(focus(repeat(first|exact mH|apply mT)));(focus(exact ao.o));(focus(exact am.o));rw[HE.o];rintro e w9 ⟨⟨v9,rfl,hv⟩,b⟩;obtain⟨B,a9,n9,c9,b9,m9,d9,rfl,hv⟩:=hv;have f:=F.o.below b F.o.lt;have k0:=f.cell 0;have k1:=f.cell 1;have k2:=f.cell 2;have f0:=f.free 0;have f1:=f.free 1;have f2:=f.free 2;simp[zeroFrac] at k0 k1 k2;obtain⟨HV,C,I⟩:=Ib hv f (c.o.trans (b.mono c.o.size));clear hv f b;go_wp2
   refine bodyPost_ret (v:=.agg #[.bool B,.slice a9 n9 c9,.slice b9 m9 d9]) (results_cell_row rfl _ _ (w.heap.size+1+1) 141 #[.bool B,.slice a9 n9 c9,.slice b9 m9 d9] (0,0) _ rfl (((C.o.set 0 _).set 1 _).set 2 _) underlying141 rfl Tryz.fracInfo) rfl ?_;have ho:=(((Only.refl (w.heap.size+1+1) w9).setCell 0 (.bool B)).setCell 1 (.slice a9 n9 c9)).setCell 2 (.slice b9 m9 d9);exact⟨⟨_,rfl,B,a9,n9,c9,b9,m9,d9,rfl,HV.o.only ho C.o Qbk⟩,Only.fresh I.o ho (by omega)⟩
theorem Qd8(s:Vs):s.toList= []↔s.data.toList= []:=by rw[Lib.toList_data]
def DigAns(s:Vs)(w:Vz)(e:Ending)(w':Vz):Prop:=(∃v,e=.returned (.bool v)/\(v=true↔IsDig s.data.toList))/\w'=w
theorem Qjz(s:Vs)(w:Vz)(q:s.size<=1073741824):
 Calls prog 133 #[.string s] w (DigAns s w):=by
 go_enter func133,ntmps133;go_wp2;go_loop [6] (fun i=>∃k:Nat,k<=s.size/\i=.int .i64 k/\AllDigits (s.data.toList.take k)) (fun i=>s.size - (intOf i).toNat)
 case atStart=>exact⟨0,by omega,rfl,fun c a=>by simp at a⟩
 case round=>
  obtain⟨k,hk,rfl,f⟩:=hrel;have g:=Hi f;clear f;by_cases b:k<s.size
  .
   have l:=Hi (Qfb s k b);have r:(0:Int)<=(k:Int):=by omega
   have b1:(k:Int)<(s.size:Int):=by omega
   have j:O (s[k]∈ s.data.toList):=Hi (List.mem_iff_getElem.2 ⟨k,by simpa using b,rfl⟩);by_cases t:s[k].toNat<48
   .
    have m:((s[k].toNat:Int)<48):=by omega
    go_wp2;go_ret;refine⟨⟨false,rfl,?_⟩,rfl⟩;constructor
    . intro h;cases h
    . intro h;have:=(h.2 _ j.o).1;omega
   .
    have m:¬((s[k].toNat:Int)<48):=by omega
    by_cases u:57<s[k].toNat
    .
     have n:((57:Int)<(s[k].toNat:Int)):=by omega
     go_wp2;go_ret;refine⟨⟨false,rfl,?_⟩,rfl⟩;constructor
     . intro h;cases h
     . intro h;have:=(h.2 _ j.o).2;omega
    .
     have n:¬((57:Int)<(s[k].toNat:Int)):=by omega
     go_wp2;go_round
     case rel=>
      refine⟨k+1,by omega,by go_num,?_⟩;rw[l.o];intro c a;rcases List.mem_append.1 a with a|a
      . exact g.o c a
      . rw[List.mem_singleton.1 a];omega
     case measure=>simp[intOf];omega
  .
   have e:k=s.size:=by omega
   subst e;have p:O (AllDigits s.data.toList):=Hi (by have:=g.o;rwa [List.take_of_length_le (by simp)] at this);by_cases d:s.toList= []
   .
    go_wp2;go_ret;refine⟨⟨_,rfl,?_⟩,rfl⟩;have:¬IsDig s.data.toList:=fun h=>h.1 ((Qd8 s).1 d)
    simp[d,this]
   .
    go_wp2;go_ret;refine⟨⟨_,rfl,?_⟩,rfl⟩;have:IsDig s.data.toList:=⟨fun h=>d ((Qd8 s).2 h),p.o⟩;simp[d,this]
theorem Qj0(s:Vs)(w:Vz)(C:s.size<=19)(n:AllDigits s.data.toList):
 Calls prog 167 #[.string s] w fun e w'=>e=.returned (.int .u64 ((decVal s.data.toList:Nat):Int))/\w'=w:=by
 have p:=Hi n;clear n;go_enter func167,ntmps167;go_wp2;go_loop [3,7] (fun r i=>∃k v:Nat,k<=s.size/\i=.int .i64 k/\r=.int .u64 v/\decVal (s.data.toList.take k)=v) (fun _ i=>s.size - (intOf i).toNat)
 case atStart=>exact⟨0,0,by omega,rfl,rfl,by simp[decVal]⟩
 case round=>
  obtain⟨k,v,hk,rfl,rfl,b⟩:=hrel;have j:=Hi b;clear b;by_cases c:k<s.size
  .
   have a:=Qfc p.o k c;have q:=Hi (Qfb s k c);obtain⟨d,t,f,u⟩:=Qim s[k] a.1 a.2;have l:=Hi f;have D:(0:Int)<=(k:Int):=by omega
   have b1:(k:Int)<(s.size:Int):=by omega
   have x:(48:Int)+(d:Int) - 48=d:=by omega
   have y:v<1000000000000000000:=by
    have z:=Qa5 _ (p.o.take k);rw[j.o] at z;have A:(s.data.toList.take k).length<=18:=by rw[List.length_take];omega
    have E:10 ^ (s.data.toList.take k).length<=10 ^ 18:=Nat.pow_le_pow_right (by decide) A;omega
   obtain⟨h,g⟩:∃h,v*10+d=h:=⟨_,rfl⟩;have B:=Hi g;have F:(v:Int)*10+(d:Int)=(h:Int):=by omega
   clear f a g;go_wp2;go_round
   case rel=>exact⟨k+1,h,by omega,by go_num,by go_num,by rw[q.o,Qfa,j.o,l.o,<-B.o];omega⟩
   case measure=>simp[intOf];omega
  .
   have m:k=s.size:=by omega
   subst m;go_wp2;go_ret;have b:=j.o;rw[List.take_of_length_le (by simp)] at b;exact⟨by rw[b];rfl,rfl⟩
structure OwnB (w:Vz) (B g cap:Nat) (ws:Vy):Prop where
 base:B<=g
 fit:ws.length<=cap
 most:cap<=maxLen
 blk:∃C,SB w g 170 C/\C.size=cap/\C.toList.take ws.length=ws.map (fun n:Nat=>Value.int .u64 n)
theorem OwnB.lt{w:Vz}{B g cap:Nat}{a:Vy}(h:OwnB w B g cap a):g<w.heap.size:=by obtain⟨C,h,_⟩:=h.blk;exact h.lt
theorem OwnB.owns{w:Vz}{B g cap:Nat}{a:Vy}(h:OwnB w B g cap a):w.ownsRow B 170 1 (.slice (some ⟨g,0,none⟩) a.length cap) a.length (a.map (fun n:Nat=>Value.int .u64 n)):=by
 obtain⟨C,b,d,c⟩:=h.blk;exact⟨by simp,.inr ⟨g,cap,C,rfl,h.base,b,h.fit,h.most,by omega,by rw[Nat.mul_one];exact c⟩⟩
theorem OwnB.of{w:Vz}{B g n cap:Nat}{b:Vy}(e:b.length=n)(h:w.ownsRow B 170 1 (.slice (some ⟨g,0,none⟩) n cap) n (b.map (fun n:Nat=>Value.int .u64 n))):OwnB w B g cap b:=by
 rcases h.2 with ⟨h,_⟩|⟨m,cap',C,f,i,j,o,k,c,d⟩
 . cases h
 .
  injection f with a p l
  injection a with a
  injection a with a _ _
  subst a;subst l;rw[Nat.mul_one] at c d;exact⟨i,by omega,k,C,j,c,by rw[e];exact d⟩
theorem OwnB.at{w:Vz}{B g cap:Nat}{a:Vy}(h:OwnB w B g cap a)(i:Nat)(b:i<a.length):w.cell? ⟨g,i,none⟩=some (.int .u64 ((a.getD i 0:Nat):Int)):=by
 obtain⟨C,c,f,d⟩:=h.blk;rw[c.cell];have e:(C.toList.take a.length)[i]?=(a.map (fun n:Nat=>Value.int .u64 (n:Int)))[i]?:=by rw[d]
 rw[List.getElem?_take_of_lt b,List.getElem?_map,gE b] at e;rw[Array.getElem?_toList] at e;rw[e,List.getD_eq_getElem?_getD,gE b];rfl
theorem OwnB.free{w:Vz}{B g cap:Nat}{a:Vy}(h:OwnB w B g cap a)(i:Nat):w.frozen? ⟨g,i,none⟩=false:=by
 obtain⟨C,b,_⟩:=h.blk;exact b.free i
theorem OwnB.set{w:Vz}{B g cap:Nat}{a:Vy}(h:OwnB w B g cap a)(i x:Nat):OwnB (w.setCell ⟨g,i,none⟩ (.int .u64 (x:Int))) B g cap (a.set i x):=by
 obtain⟨C,b,c,d⟩:=h.blk;refine⟨h.base,by rw[List.length_set];exact h.fit,h.most,_,b.set i _,by rw[Array.size_setIfInBounds];exact c,?_⟩;rw[List.length_set,Array.toList_setIfInBounds,List.take_set,d,List.map_set]
theorem OwnB.pre{w:Vz}{B g cap:Nat}{a:Vy}(h:OwnB w B g cap a):Pre w g a:=by
 have c:=h;obtain⟨C,b,e,f⟩:=h.blk;exact⟨C,b,fun i d=>by rw[<-b.cell];exact c.at i d⟩
theorem Qrd{a:Vy}{x:Nat}(c:Small 18446744073709551616 a)(d:val 18446744073709551616 a=x)(b:a.length=0∨18446744073709551616 ^ (a.length - 1)<=x):Num 18446744073709551616 a x:=by
 refine⟨c,?_,d⟩;rcases b with b|b
 . left;exact List.length_eq_zero_iff.1 b
 .
  by_cases f:a.length=0
  . left;exact List.length_eq_zero_iff.1 f
  right;intro e;obtain⟨j,g⟩:∃j,a.length=j+1:=⟨a.length - 1,by omega⟩;have h:=Qbz 18446744073709551616 a j (by omega);rw[g,Nat.add_sub_cancel] at e b;rw[e,Nat.mul_zero,Nat.add_zero,List.take_of_length_le (by omega),d] at h;have i:=Qaa (B:=18446744073709551616) (by decide) (c.take j);rw[List.length_take,Nat.min_eq_left (by omega)] at i;omega
theorem Qre{B k over d R h l a:Nat}{rs b:Vy}(hk:k<rs.length)(c:b.getD k 0=d)(e:l+B*h=d*R+over)(g:val B (rs.take k)+B ^ k*over=val B (b.take k)*R+a):
 val B ((rs.set k l).take (k+1))+B ^ (k+1)*h=val B (b.take (k+1))*R+a:=by
 rw[take_set _ _ _ hk,Qaj,List.length_take,Nat.min_eq_left (by omega),Qac,c,Nat.pow_succ];have f:B ^ k*(l+B*h)=B ^ k*(d*R+over):=by rw[e]
 rw[Nat.mul_add,Nat.mul_add,<-Nat.mul_assoc] at f;rw[Nat.add_mul,Nat.mul_assoc (B ^ k) d R];omega
theorem Tryz.info64':∃i,prog.info? 170=some i/\i.zero=some (.int .u64 0)/\i.size=1/\i.bytes=8:=info_parts Tryz.info64
theorem Qjt(B g cap:Nat)(c:Vy)(x a:Nat)(w:Vz)(h:OwnB w B g cap c)(hx:Num 18446744073709551616 c x)(hc:a<18446744073709551616)(hl:c.length<1099511627770)(y:B<=w.heap.size):
 Calls prog 166 #[.slice (some ⟨g,0,none⟩) c.length cap,.int .u64 a] w fun e w'=>(∃g' cap' s,e=.returned (.slice (some ⟨g',0,none⟩) (List.length s) cap')/\OwnB w' B g' cap' s/\Num 18446744073709551616 s (x*10000000000000000000+a)/\s.length<=c.length+1)/\Below B w w'/\w.heap.size<=w'.heap.size:=by
 obtain⟨i0,hi,z,A,hz2⟩:=Tryz.info64';obtain⟨HI,T,U,V⟩:=Ic hi z A hz2;have ag:=h.fit;obtain⟨Q,C⟩:=Ia h hx;clear h hx hi z A hz2;go_enter func166,ntmps166;go_wp2;go_loopw [5,10] (fun ov W wr=>∃(k over:Nat) (rs:Vy),k<=c.length/\W=.int .i64 k/\ov=.int .u64 over/\over<18446744073709551616/\OwnB wr B g cap rs/\rs.length=c.length/\Small 18446744073709551616 rs/\(∀p,k<=p->rs.getD p 0=c.getD p 0)/\val 18446744073709551616 (rs.take k)+18446744073709551616 ^ k*over=val 18446744073709551616 (c.take k)*10000000000000000000+a/\Only g w wr) (fun _ W _=>c.length - (intOf W).toNat)
 case atStart=>exact⟨0,a,c,by omega,rfl,rfl,hc,Q.o,rfl,C.o.small,fun _ _=>rfl,by simp[val],Only.refl _ _⟩
 case round=>
  obtain⟨k,over,rs,hk,rfl,rfl,D,f,E,F,G,hv,H⟩:=hrel;obtain⟨i,b,v,I,HV,j⟩:=Ie f E F G hv H;have ai:=f.lt;clear f E F G hv H;by_cases aj:k<c.length
  .
   obtain⟨d,R⟩:=nm (c.getD k 0);have X:d<18446744073709551616:=by rw[<-R];exact C.o.small.getD (by omega) k
   have g1:=i.o.free k;have S:=i.o.at k (by have:=b.o;omega);rw[I.o k lZ,R] at S;obtain⟨h,l,hh,Y,J,K⟩:=Qc8 d 10000000000000000000 over X (by decide) D;obtain⟨L,HD,Z⟩:=Ib K R J;clear K R J;go_wp2_with fail;go_fit (L.o _);rintro e w2 ⟨rfl,aa⟩;subst aa;clear L;go_wp2;go_roundw
   case rel=>
    refine⟨k+1,h,rs.set k l,by omega,by go_num,rfl,hh,i.o.set k l,by rw[List.length_set];exact b.o,v.o.set _ Y,?_,Qre (by have:=b.o;omega) HD.o Z.o HV.o,j.o.setCell _ _⟩;intro p hp;rw[getD_set_ne _ _ _ _ (by omega)];exact I.o p (by omega)
   case measure=>simp[intOf];omega
  .
   have ab:k=c.length:=by omega
   subst ab;have M:O (val 18446744073709551616 rs+18446744073709551616 ^ rs.length*over=x*10000000000000000000+a):=Hi (by
    have:=HV.o;rw[List.take_of_length_le (by rw[b.o];exact Nat.le_refl _),List.take_length,C.o.eq] at this
    rw[b.o];exact this)
   by_cases ad:over=0
   .
    subst ad;go_wp2;go_ret;have hv3:=M.o;rw[Nat.mul_zero,Nat.add_zero] at hv3;refine⟨⟨g,cap,rs,by rw[b.o];rfl,i.o,Qrd v.o hv3 ?_,by rw[b.o];omega⟩,j.o.below Q.o.base y,j.o.size⟩;by_cases hz:rs.length=0
    . exact .inl hz
    right;rw[b.o] at hz ⊢;have h1:18446744073709551616 ^ (c.length - 1)<=x:=by have:=C.o.trim.pow_le (B:=18446744073709551616) (by omega);rw[C.o.eq] at this;exact this
    omega
   .
    have q0:((over:Int) != 0)=true:=by rw[bne_iff_ne];omega
    have ak:=Hi b.o;have al:=j.o.size;rw[<-b.o];have ah:rs.length<1099511627770:=by rw[b.o];exact hl
    go_wp2_with (at_builtin;refine wpList_append_lies _ rfl _ _ 139 rfl B 170 i0 (.int .u64 0) 1 8 underlying139 HI.o T.o U.o V.o rfl (by decide) _ rs.length (rs.map (fun n:Nat=>Value.int .u64 n)) rfl (Qbn i.o.owns (bR.alloc lZ _)) ⟨wr.heap.size,0,none⟩ 1 1 [Value.int .u64 (over:Int)] rfl rfl ?c1 ?c2 (by decide) ?c3 ?c4 ?c5 _ rfl ?_)
    case c1=>exact World.news_of_block (heap_alloc_new wr _)
    case c2=>intro u hu;rw[List.mem_singleton.1 hu];rfl
    case c3=>unfold maxLen;omega
    case c4=>omega
    case c5=>rw[World.size_alloc];omega
    intro S t w3 m r ae N;have af:O (OwnB w3 B S t (rs++ [over])):=Hi (OwnB.of (n:=rs.length+1) (by simp) (by rw[List.map_append];exact m));have HG:=Hi r;clear m r ae N;go_wp2;go_ret;have P:Below B w w3:=Below.grown ((j.o.below Q.o.base y).alloc (by omega) _) HG.o (by rw[World.size_alloc];omega) (fun q hq=>by
     simp[Value.ownBlock] at hq;subst hq;exact Q.o.base)
    refine⟨⟨S,t,rs++ [over],by simp,af.o,?_,by rw[List.length_append,b.o];simp⟩,P,P.size⟩;refine⟨v.o.append (fun e he=>by rw[List.mem_singleton.1 he];exact D),.inr ?_,by rw[Qaj];exact M.o⟩;simp;omega
theorem Qrf(L:Int)(n:Nat)(b:L=n)(g:n<=2199023255552)(w:Vz):
 (Instr.makeSlice 139 (.int .i64 0) (.int .i64 L)).run prog w=.ok (.slice (some ⟨w.heap.size,0,none⟩) 0 n) (w.alloc (.cells (wordCells .u64 (zeros n)) 170)):=by
 subst b;obtain⟨i,c,d,e,f⟩:=Tryz.info64';have a:=run_make (P:=prog) w 139 170 i (.int .u64 0) underlying139 c d .i64 .i64 0 n (by omega) (by omega) (by rw[f];omega) (by omega);simp only[Int.toNat_natCast,e,Nat.mul_one] at a;rw[<-Qd6];exact a
theorem Qju(l:Vu):decVal (48 :: l)=decVal l:=by
 unfold decVal;rw[List.foldl_cons];rfl
theorem Qrg(l:Vu):decVal (Lib.trimLeftB l 48)=decVal l:=by
 induction l with
 |nil=>rfl
 |cons c l a=>
  unfold Lib.trimLeftB at a ⊢;rw[List.dropWhile_cons]
  split
  .
   rename_i h;have:c=48:=by simpa using h
   rw[a,this,Qju]
  . rfl
theorem Qrh{l:Vu}(h:AllDigits l):AllDigits (Lib.trimLeftB l 48):=fun c a=>h c ((List.dropWhile_sublist _).mem a)
theorem Qri(l:Vu):(Lib.trimLeftB l 48).length<=l.length:=(List.dropWhile_sublist _).length_le
theorem Qag(s:Vs):s.data.toList.length=s.size:=by simp
theorem Qjv(r:Vs)(N:Nat)(a:N<=r.size):r.data.toList=(r.extract 0 N).data.toList++(r.extract N r.size).data.toList/\(r.extract 0 N).size=N/\(r.extract N r.size).size=r.size - N:=by
 have hl:=Qag r;refine⟨?_,by simp;omega,by simp⟩;rw[Lib.extract_data,Lib.extract_data,List.drop_zero,Nat.sub_zero,List.take_of_length_le (l:=r.data.toList.drop N) (by rw[List.length_drop];omega),List.take_append_drop]
def strLen:Value->Nat
 | .string s=>s.size
 |_=>0
theorem Qrj(s:Vs)(w:Vz):
 Calls prog 165 #[.string s,.string ⟨#[48]⟩] w fun e w'=>e=.returned (.string ⟨(Lib.trimLeftB s.data.toList 48).toArray⟩)/\w'=w:=Any.strings_TrimLeft_one Tryz.lays161 s 48 (by decide) w
theorem Qjw(s:Vs)(w:Vz)(hs:s.size<=1073741824)(hd:AllDigits s.data.toList):
 Calls prog 134 #[.string s] w (Nat64 w (decVal s.data.toList)):=by
 obtain⟨t,Z⟩:=nm ((⟨(Lib.trimLeftB s.data.toList 48).toArray⟩:ByteArray));have B:t.data.toList=Lib.trimLeftB s.data.toList 48:=by rw[<-Z]
 have ag:t.size<=1073741824:=by
  have:=Qri s.data.toList;rw[<-B,Qag,Qag] at this;omega
 obtain⟨HV,HD,H⟩:=Ib (show decVal t.data.toList=decVal s.data.toList by rw[B,Qrg]) (show AllDigits t.data.toList by rw[B];exact Qrh hd) (Qrj s w);rw[Z] at H;clear Z B hd;obtain⟨q,hq⟩:∃q:Nat,t.size / 19=q:=⟨_,rfl⟩;have q1:(t.size:Int) / 19=(q:Int):=by omega
 have q2:Int.tdiv (t.size:Int) 19=(q:Int):=by rw[<-q1];exact Int.tdiv_eq_ediv_of_nonneg (by omega)
 have ah:q<=1073741824:=by omega
 have aa:∀w,(Instr.makeSlice 139 (.int .i64 0) (.int .i64 ((q:Int)+1))).run prog w=.ok (.slice (some ⟨w.heap.size,0,none⟩) 0 (q+1)) (w.alloc (.cells (wordCells .u64 (zeros (q+1))) 170)):=
  fun w=>Qrf _ (q+1) (by omega) (by omega) w
 go_enter func134,ntmps134;go_wp2_with fail;go_fit H.o;rintro e w ⟨rfl,hw⟩;subst hw;clear H;go_wp2_with fail;clear aa q1 q2;go_loopw [0,3] (fun sv xv wr=>∃(r:Vs) (b:Vu) (g cap:Nat) (D:Vy),sv=.string r/\xv=.slice (some ⟨g,0,none⟩) D.length cap/\t.data.toList=b++r.data.toList/\(b= []∨r.size % 19=0)/\OwnB wr w.heap.size g cap D/\Num 18446744073709551616 D (decVal b)/\D.length<=b.length/\Below w.heap.size w wr) (fun sv _ _=>strLen sv)
 case atStart=>
  refine⟨t,[],w.heap.size,q+1,[],rfl,rfl,rfl,.inl rfl,⟨Nat.le_refl _,by simp,by unfold maxLen;omega,_,SB.new _ _ _,by simp[wordCells,zeros],by simp⟩,Num.zero _,by simp,bR.alloc lZ _⟩
 case round=>
  obtain⟨r,b,g,cap,D,rfl,rfl,a,E,F,G,af,hb⟩:=hrel;have HF:=Hi E;clear E;obtain⟨HC,Y,HN,S⟩:=Ic a F G hb;have ai:b.length+r.size=t.size:=by rw[<-Qag r,<-Qag t,a,List.length_append]
  have T:O (AllDigits r.data.toList):=Hi (fun c U=>HD.o c (by rw[a];exact List.mem_append_right _ U));clear a F G hb;by_cases h0:r.toList= []
  .
   go_wp2;go_ret;have ab:r.data.toList= []:=(Qd8 r).1 h0;have n:b=t.data.toList:=by have:=HC.o;rw[ab,List.append_nil] at this;exact this.symm
   refine⟨⟨_,_,D,rfl,Y.o.pre.row _ Y.o.fit,?_,by omega⟩,S.o⟩;rw[<-HV.o,<-n];exact HN.o
  .
   have aj:0<r.size:=by
    rcases Nat.eq_zero_or_pos r.size with h|h
    . exact absurd ((Qd8 r).2 (List.length_eq_zero_iff.1 (by rw[Qag];exact h))) h0
    . exact h
   have ak:r.toList.isEmpty=false:=by simp[h0]
   obtain⟨m,hm⟩:∃m:Nat,r.size % 19=m:=⟨_,rfl⟩;have m1:(r.size:Int) % 19=(m:Int):=by omega
   have m2:Int.tmod (r.size:Int) 19=(m:Int):=by rw[<-m1];exact Int.tmod_eq_emod_of_nonneg (by omega)
   by_cases ad:m=0
   .
    subst ad;obtain⟨a,k,I⟩:=Qjv r 19 (by omega);have j:=Hi a;have p:O (AllDigits (r.extract 0 19).data.toList):=Hi (fun c U=>T.o c (by rw[a];exact List.mem_append_left _ U));have d:=Hi (fun w=>Qj0 (r.extract 0 19) w (by omega) p.o);obtain⟨V,C⟩:=nm (decVal (r.extract 0 19).data.toList);have J:V<18446744073709551616:=by
     have h1:=Qa5 _ p.o;rw[C,Qag,k] at h1;have h3:10 ^ 19<=10 ^ 19:=Nat.pow_le_pow_right (by decide) (by omega);omega
    rw[C] at d;obtain⟨u,l⟩:=Ia C (k.trans rfl);obtain⟨CH,f⟩:=nm (r.extract 0 19);obtain⟨RS,i⟩:=nm (r.extract 19 r.size);rw[f,i] at j;rw[f] at l u d;rw[i] at I;obtain⟨K,L,v⟩:=Ib f i (Qjt w.heap.size g cap D (decVal b) V wr Y.o HN.o J (by omega) S.o.size);clear a k C f i;go_wp2_with fail;rw[K.o];go_fit (d.o _);rintro e w2 ⟨rfl,M⟩;subst M;clear d;go_wp2_with fail;go_fit v.o;rintro e w3 ⟨⟨g3,x,N,rfl,y,z,ae⟩,A,W⟩;obtain⟨P,Q,R⟩:=Ib y z (S.o.trans A);clear v y z A;go_wp2;rw[L.o];go_roundw
    case rel=>
     refine⟨RS,b++CH.data.toList,g3,x,N,rfl,rfl,?_,.inr (by omega),P.o,?_,?_,R.o⟩
     . rw[HC.o,j.o,List.append_assoc]
     . rw[Qcc,u.o,Qag,l.o,show (10:Nat) ^ 19=10000000000000000000 from rfl]
       exact Q.o
     . rw[List.length_append,Qag,l.o];omega
    case measure=>simp[strLen];omega
   .
    have z0:((m:Int) == 0)=false:=by rw[beq_eq_false_iff_ne];omega
    have n:decVal b*10 ^ m=decVal b*10000000000000000000:=by rcases HF.o with h|h;rw[h];simp[decVal];omega
    have X:=Hi n;clear n;obtain⟨a,k,I⟩:=Qjv r m (by omega);have j:=Hi a;have p:O (AllDigits (r.extract 0 m).data.toList):=Hi (fun c U=>T.o c (by rw[a];exact List.mem_append_left _ U));have d:=Hi (fun w=>Qj0 (r.extract 0 m) w (by omega) p.o);obtain⟨V,C⟩:=nm (decVal (r.extract 0 m).data.toList);have J:V<18446744073709551616:=by
     have h1:=Qa5 _ p.o;rw[C,Qag,k] at h1;have h3:10 ^ m<=10 ^ 19:=Nat.pow_le_pow_right (by decide) (by omega);omega
    rw[C] at d;obtain⟨u,l⟩:=Ia C (k.trans rfl);obtain⟨CH,f⟩:=nm (r.extract 0 m);obtain⟨RS,i⟩:=nm (r.extract m r.size);rw[f,i] at j;rw[f] at l u d;rw[i] at I;obtain⟨K,L,v⟩:=Ib f i (Qjt w.heap.size g cap D (decVal b) V wr Y.o HN.o J (by omega) S.o.size);clear a k C f i;go_wp2_with fail;rw[K.o];go_fit (d.o _);rintro e w2 ⟨rfl,M⟩;subst M;clear d;go_wp2_with fail;go_fit v.o;rintro e w3 ⟨⟨g3,x,N,rfl,y,z,ae⟩,A,W⟩;obtain⟨P,Q,R⟩:=Ib y z (S.o.trans A);clear v y z A;go_wp2;rw[L.o];go_roundw
    case rel=>
     refine⟨RS,b++CH.data.toList,g3,x,N,rfl,rfl,?_,.inr (by omega),P.o,?_,?_,R.o⟩
     . rw[HC.o,j.o,List.append_assoc]
     . rw[Qcc,u.o,Qag,l.o,X.o]
       exact Q.o
     . rw[List.length_append,Qag,l.o];omega
    case measure=>simp[strLen];omega
end Go.Proofs.YtppkmifkpjkgpaaGreatDoor
