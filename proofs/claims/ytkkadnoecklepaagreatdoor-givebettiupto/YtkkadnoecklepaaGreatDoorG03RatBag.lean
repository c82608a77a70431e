import Derived.Test.YtkkadnoecklepaaGreatDoorG02IntSet
namespace Go.Proofs.YtkkadnoecklepaaGreatDoor
open Go.RowKit
open Go.Proofs.Tryz
set_option linter.unusedSimpArgs false
set_option linter.unusedVariables false
set_option maxHeartbeats 8000000
set_option maxRecDepth 1000000
structure RatAt (w:Vz) (b:Nat) (P D:Int) (a1:Vx) (c1:Nat) (l1:Vy) (a2:Vx) (c2:Nat) (l2:Vy):Prop where
 sb:SB w b 123 #[.bool (decide (P<0)),.slice a1 l1.length c1,.bool (decide (D<0)),.slice a2 l2.length c2]
 num:U32 w a1 c1 l1 P.natAbs
 den:U32 w a2 c2 l2 D.natAbs
theorem Qan(n1 a:Bool)(b c:Vx)(d e c1 c2:Nat):NoInt #[Value.bool n1,Value.slice b d c1,Value.bool a,Value.slice c e c2]:=by
 intro i k n
 match i with
 |0=>simp
 |1=>simp
 |2=>simp
 |3=>simp
 |i+4=>simp
theorem RatAt.below{w c:Vz}{b:Nat}{P D:Int}{d e:Vx}{c1 c2:Nat}{f g:Vy}(h:RatAt w b P D d c1 f e c2 g)(a:Bl w c):RatAt c b P D d c1 f e c2 g:=
 ⟨h.sb.below a h.sb.lt,h.num.below a,h.den.below a⟩
theorem RatAt.drew{w:Vz}{b:Nat}{P D:Int}{a c:Vx}{c1 c2:Nat}{d e:Vy}(h:RatAt w b P D a c1 d c c2 e):RatAt w.drew b P D a c1 d c c2 e:=h.below bR.drew
theorem RatAt.c0{w:Vz}{b:Nat}{P D:Int}{a c:Vx}{c1 c2:Nat}{d e:Vy}(h:RatAt w b P D a c1 d c c2 e):w.cell? ⟨b,0,none⟩=some (.bool (decide (P<0))):=by rw[h.sb.cell];rfl
theorem RatAt.c1{w:Vz}{b:Nat}{P D:Int}{a d:Vx}{c1 c2:Nat}{c e:Vy}(h:RatAt w b P D a c1 c d c2 e):w.cell? ⟨b,1,none⟩=some (.slice a c.length c1):=by rw[h.sb.cell];rfl
theorem RatAt.c2{w:Vz}{b:Nat}{P D:Int}{a c:Vx}{c1 c2:Nat}{d e:Vy}(h:RatAt w b P D a c1 d c c2 e):w.cell? ⟨b,2,none⟩=some (.bool (decide (D<0))):=by rw[h.sb.cell];rfl
theorem RatAt.c3{w:Vz}{b:Nat}{P D:Int}{d a:Vx}{c1 c2:Nat}{e c:Vy}(h:RatAt w b P D d c1 e a c2 c):w.cell? ⟨b,3,none⟩=some (.slice a c.length c2):=by rw[h.sb.cell];rfl
theorem RatAt.upper{w:Vz}{b:Nat}{P D:Int}{a d:Vx}{c1 c2:Nat}{c e:Vy}(h:RatAt w b P D a c1 c d c2 e):IntAt w b 0 P a c1 c:=⟨h.c0,h.c1,h.num,h.sb.lt⟩
theorem RatAt.lower{w:Vz}{b:Nat}{P D:Int}{d a:Vx}{c1 c2:Nat}{e c:Vy}(h:RatAt w b P D d c1 e a c2 c):IntAt w b 2 D a c2 c:=⟨h.c2,h.c3,h.den,h.sb.lt⟩
def RatOk(w:Vz)(b:Nat)(q:Rat)(e:Ending)(w':Vz):Prop:=
 e=.returned (.pointer (some ⟨b,0,none⟩))/\Only b w w'/\∃a1 c1 l1 a2 c2 l2,RatAt w' b q.num q.den a1 c1 l1 a2 c2 l2
theorem RatOk.of{w w1 a:Vz}{b:Nat}{q:Rat}{e:Ending}(h:Only b w w1)(k:RatOk w1 b q e a):RatOk w b q e a:=⟨k.1,h.trans k.2.1,k.2.2⟩
theorem Qee{l:Vy}(h:Num 4294967296 l 1):l= [1]:=h.inj (by decide) ⟨fun d a=>by simp at a;omega,.inr (by simp),by simp[val]⟩
theorem Qsu(b:Nat)(D:Int)(g j:Vx)(c1 c2:Nat)(d i:Vy)(w:Vz)(h:RatAt w b 0 D g c1 d j c2 i)(m:0<D):
 Calls prog 151 #[.pointer (some ⟨b,0,none⟩)] w (RatOk w b 0):=by
 have n:=h.c0;have k1:=h.c1;have k2:=h.c2;have p:=h.c3;have c:decide (D<0)=false:=by simp;omega
 have k:decide ((0:Int)<0)=false:=by simp
 rw[c] at k2;have q:((i.length:Int) == 0)=false:=by
  rw[beq_eq_false_iff_ne];have:=(h.den.num.len_zero (by decide)).2;omega
 have r:((d.length:Int) == 0)=true:=by
  have:=(h.num.num.len_zero (by decide)).1 rfl;simp[this]
 have H:=Hi h;clear h c;go_enter func151,ntmps151;go_wp2_with fail;refine(Qiz b 2 123 _ 1 _ H.o.sb (Qan _ _ _ _ _ _ _ _) (by simp) (by decide) (by decide)).mono ?_;rintro e w1 ⟨rfl,a,f,l,hl⟩;go_wp2;go_ret;refine⟨rfl,hl.only,g,c1,d,a,f,l,?_,?_,hl.num⟩
 . have:=hl.sb
   simpa [putInt] using this
 . exact H.o.num.only hl.only H.o.sb (Qan _ _ _ _ _ _ _ _)
theorem Qsv(b:Nat)(P:Int)(g i:Vx)(c1 c2:Nat)(e f:Vy)(w:Vz)(h:RatAt w b P 1 g c1 e i c2 f)(n:P≠0):
 Calls prog 151 #[.pointer (some ⟨b,0,none⟩)] w (RatOk w b (P:Rat)):=by
 have d:f= [1]:=Qee h.den.num;subst d;have p:=h.c0;have k1:=h.c1;have k2:=h.c2;have j:=h.c3;obtain⟨k,l,rfl,m,a⟩:=h.den.row.cell 0 (by simp);have a:w.cell? ⟨k,l,none⟩=some (.int .u32 1):=by simpa using a
 have c:decide ((1:Int)<0)=false:=by simp
 rw[c] at k2;simp only[List.length_singleton] at j;have q:((e.length:Int) == 0)=false:=by
  rw[beq_eq_false_iff_ne];have:=(h.num.num.len_zero (by decide)).2;omega
 have H:=Hi h;clear h c;go_enter func151,ntmps151;go_wp2;go_ret;exact⟨rfl,Only.refl _ _,_,_,_,_,_,_,H.o⟩
theorem Qkk{P D:Int}(b:0<D)(a:Nat.gcd P.natAbs D.natAbs=1):(mkRat P D.natAbs).num=P/\(((mkRat P D.natAbs).den:Nat):Int)=D:=by
 rw[Rat.num_mkRat,Rat.den_mkRat,if_neg (by omega),if_neg (by omega),Nat.gcd_comm,a];constructor
 . simp
 . simp;omega
theorem Qef(P:Int)(g:Nat)(b:0<g)(a:g ∣ P.natAbs):(P / (g:Int)).natAbs=P.natAbs / g:=by
 rw[Int.natAbs_ediv_of_dvd (Int.ofNat_dvd_left.2 a),Int.natAbs_natCast]
theorem Qeg(P:Int)(g:Nat)(c:0<g)(b:g ∣ P.natAbs):decide (P / (g:Int)<0)=decide (P<0):=by
 apply decide_eq_decide.2;obtain⟨k,hk⟩:=Int.ofNat_dvd_left.2 b;have a:(0:Int)<(g:Int):=by omega
 rw[hk,Int.mul_ediv_cancel_left _ (by omega)];constructor
 . intro h
   exact Int.mul_neg_of_pos_of_neg a h
 .
  intro h;apply bC;intro d;have:=Int.mul_nonneg (Int.le_of_lt a) (show 0<=k by omega);omega
theorem Qeh{P D:Int}{g:Nat}(b:0<D)(a:Nat.gcd P.natAbs D.natAbs=g):(mkRat P D.natAbs).num=P / (g:Int)/\(mkRat P D.natAbs).den=D.natAbs / g:=by
 rw[Rat.num_mkRat,Rat.den_mkRat,if_neg (by omega),if_neg (by omega),Nat.gcd_comm,a];exact⟨rfl,rfl⟩
theorem Qkl{l:Vy}{g:Nat}(h:Num 4294967296 l g)(a:g≠1):((l.length:Int) == 1)=false∨∃d,l= [d]/\d≠1:=by
 by_cases hl:l.length=1
 .
  right
  match l,hl,h with
  | [d],_,h=>
    refine⟨d,rfl,?_⟩;have:=h.eq;simp[val] at this;omega
 . left;rw[beq_eq_false_iff_ne];omega
theorem Qsw(b:Nat)(P D:Int)(R a2:Vx)(c1 c2:Nat)(G F:Vy)(w:Vz)(h:RatAt w b P D R c1 G a2 c2 F)(hP:P≠0)(hD:0<D)(al:D≠1)(s:G.length<1099511627770)(c:F.length<1099511627770):
 Calls prog 151 #[.pointer (some ⟨b,0,none⟩)] w (RatOk w b (mkRat P D.natAbs)):=by
 have k0:=h.c0;have k1:=h.c1;have k2:=h.c2;have k3:=h.c3;have T:decide (D<0)=false:=by simp;omega
 rw[T] at k2;have q1:((F.length:Int) == 0)=false:=by
  rw[beq_eq_false_iff_ne];have:=(h.den.num.len_zero (by decide)).2;omega
 have q2:((G.length:Int) == 0)=false:=by
  rw[beq_eq_false_iff_ne];have:=(h.num.num.len_zero (by decide)).2;omega
 by_cases hl:F.length=1
 .
  obtain⟨d,rfl⟩:∃d,F= [d]:=by
   match F,hl with
   | [d],_=>exact⟨d,rfl⟩
  have hd:d≠1:=by
   have:=h.den.num.eq;simp[val] at this;omega
  obtain⟨b',o',rfl,am,U⟩:=h.den.row.cell 0 (by simp);have U:w.cell? ⟨b',o',none⟩=some (.int .u32 (d:Int)):=by simpa using U
  have V:((d:Int) == 1)=false:=by rw[beq_eq_false_iff_ne];omega
  simp only[List.length_singleton] at k3 q1;obtain⟨H,HG⟩:=Ia h (Qhf R (some ⟨b',o',none⟩) c1 c2 G ([d]) P.natAbs D.natAbs w.drew h.num.drew h.den.drew (by omega) (by omega));have I:=h.sb.lt;clear h T;go_enter func151,ntmps151;go_wp2;go_region_held3 (fun w'=>w'.cell? ⟨b,1,none⟩=some (.slice R G.length c1)/\w'.cell? ⟨b,3,none⟩=some (.slice (some ⟨b',o',none⟩) (1) c2)) ((simp [*]))
   (first
     |(go_at_call 202;refine HG.o.mono ?_;rintro e w1 ⟨⟨ag,W,X,rfl,a⟩,s⟩;have d1:=ce s I k1;have d3:=ce s I k3;have HU:=Hi a;have n:=Hi ((Below.refl w.heap.size w).drew.trans s);clear a s))
  clear k0 k1 k2 k3 HG U V;obtain⟨g,t⟩:=nm (Nat.gcd P.natAbs D.natAbs);have a:=HU.o;rw[t] at a;obtain⟨J,p⟩:=Ia a t;have f:0<g:=by rw[<-t];exact Nat.gcd_pos_of_pos_right _ (by omega)
  have S:=H.o.below n.o;have ah:X.length<=([d]).length:=a.len_mono H.o.den (by rw[<-t];exact Nat.le_of_dvd (by omega) (Nat.gcd_dvd_right _ _));clear HU;by_cases K:g=1
  .
   subst K;have Y:X= [1]:=Qee a.num;subst Y;obtain⟨Z,og,rfl,aa,q⟩:=a.row.cell 0 (by simp);have q:w1.cell? ⟨Z,og,none⟩=some (.int .u32 1):=by simpa using q
   clear a t S;go_wp2;go_ret;obtain⟨u,L⟩:=Qkk (P:=P) hD p.o;refine RatOk.of (Only.of_below n.o) ⟨rfl,Only.refl _ _,R,c1,G,some ⟨b',o',none⟩,c2,[d],?_⟩;rw[u,L];exact H.o.below n.o
  .
   have m:g ∣ P.natAbs:=by rw[<-t];exact Nat.gcd_dvd_left _ _
   have M:=Hi (Qbd R ag c1 W G X P.natAbs g w1 S.num a f (by omega));rcases Qkl a.num K with ai|⟨dd,rfl,aj⟩
   .
    clear a t S;go_wp2_with fail;refine M.o.mono ?_;rintro e w2 ⟨⟨v,x,y,ar,cr,rr,rfl,N,hr⟩,c⟩;have z:=(H.o.below n.o).below c;have ab:=z.c3;obtain⟨HQ,i,A⟩:=Ib N c (Qbd (some ⟨b',o',none⟩) _ c2 W ([d]) _ D.natAbs g w2 z.den (J.o.below c) f (by omega));clear N hr c z;go_wp2_with fail;refine A.o.mono ?_;rintro e B ⟨⟨j,C,rs,ad,ct,rt,rfl,O,ht⟩,k⟩;have H3:=((H.o.below n.o).below i.o).below k;have f1:=H3.sb.free 1;have f3:=H3.sb.free 3;have ae:=H3.c1;have af:=H3.c3;obtain⟨HS,r,l⟩:=Ib O k H3;clear O ht k H3;go_wp2;go_ret;have E:Only b B ((B.setCell ⟨b,1,none⟩ (.slice v y.length x)).setCell ⟨b,3,none⟩ (.slice j rs.length C)):=((Only.refl b B).setCell _ _).setCell _ _;have Q:g ∣ D.natAbs:=by rw[<-p.o];exact Nat.gcd_dvd_right _ _
    obtain⟨u,L⟩:=Qeh (P:=P) hD p.o;refine RatOk.of (Only.of_below (n.o.trans ((i.o.mono n.o.size).trans (r.o.mono (Nat.le_trans n.o.size i.o.size))))) ⟨rfl,E,v,x,y,j,C,rs,?_,?_,?_⟩
    .
     have:=(l.o.sb.set 1 (.slice v y.length x)).set 3 (.slice j rs.length C);have en:decide ((((mkRat P D.natAbs).den:Nat):Int)<0)=decide (D<0):=by
      apply decide_eq_decide.2;omega
     rw[u,Qeg P g f m,en]
     simpa using this
    . rw[u,Qef P g f m]
      exact(HQ.o.below r.o).only E l.o.sb (Qan _ _ _ _ _ _ _ _)
    . rw[L,Int.natAbs_natCast]
      exact HS.o.only E l.o.sb (Qan _ _ _ _ _ _ _ _)
   .
    obtain⟨Z,og,rfl,aa,q⟩:=a.row.cell 0 (by simp);have q:w1.cell? ⟨Z,og,none⟩=some (.int .u32 (dd:Int)):=by simpa using q
    have ak:((dd:Int) == 1)=false:=by rw[beq_eq_false_iff_ne];omega
    clear a t S;go_wp2_with fail;refine M.o.mono ?_;rintro e w2 ⟨⟨v,x,y,ar,cr,rr,rfl,N,hr⟩,c⟩;have z:=(H.o.below n.o).below c;have ab:=z.c3;obtain⟨HQ,i,A⟩:=Ib N c (Qbd (some ⟨b',o',none⟩) _ c2 W ([d]) _ D.natAbs g w2 z.den (J.o.below c) f (by omega));clear N hr c z;go_wp2_with fail;refine A.o.mono ?_;rintro e B ⟨⟨j,C,rs,ad,ct,rt,rfl,O,ht⟩,k⟩;have H3:=((H.o.below n.o).below i.o).below k;have f1:=H3.sb.free 1;have f3:=H3.sb.free 3;have ae:=H3.c1;have af:=H3.c3;obtain⟨HS,r,l⟩:=Ib O k H3;clear O ht k H3;go_wp2;go_ret;have E:Only b B ((B.setCell ⟨b,1,none⟩ (.slice v y.length x)).setCell ⟨b,3,none⟩ (.slice j rs.length C)):=((Only.refl b B).setCell _ _).setCell _ _;have Q:g ∣ D.natAbs:=by rw[<-p.o];exact Nat.gcd_dvd_right _ _
    obtain⟨u,L⟩:=Qeh (P:=P) hD p.o;refine RatOk.of (Only.of_below (n.o.trans ((i.o.mono n.o.size).trans (r.o.mono (Nat.le_trans n.o.size i.o.size))))) ⟨rfl,E,v,x,y,j,C,rs,?_,?_,?_⟩
    .
     have:=(l.o.sb.set 1 (.slice v y.length x)).set 3 (.slice j rs.length C);have en:decide ((((mkRat P D.natAbs).den:Nat):Int)<0)=decide (D<0):=by
      apply decide_eq_decide.2;omega
     rw[u,Qeg P g f m,en]
     simpa using this
    . rw[u,Qef P g f m]
      exact(HQ.o.below r.o).only E l.o.sb (Qan _ _ _ _ _ _ _ _)
    . rw[L,Int.natAbs_natCast]
      exact HS.o.only E l.o.sb (Qan _ _ _ _ _ _ _ _)
 .
  have V:((F.length:Int) == 1)=false:=by rw[beq_eq_false_iff_ne];omega
  obtain⟨H,HG⟩:=Ia h (Qhf R (a2) c1 c2 G (F) P.natAbs D.natAbs w.drew h.num.drew h.den.drew (by omega) (by omega));have I:=h.sb.lt;clear h T;go_enter func151,ntmps151;go_wp2;go_region_held3 (fun w'=>w'.cell? ⟨b,1,none⟩=some (.slice R G.length c1)/\w'.cell? ⟨b,3,none⟩=some (.slice (a2) (F.length) c2)) ((simp [*]))
   (first
     |(go_at_call 202;refine HG.o.mono ?_;rintro e w1 ⟨⟨ag,W,X,rfl,a⟩,s⟩;have d1:=ce s I k1;have d3:=ce s I k3;have HU:=Hi a;have n:=Hi ((Below.refl w.heap.size w).drew.trans s);clear a s))
  clear k0 k1 k2 k3 HG V;obtain⟨g,t⟩:=nm (Nat.gcd P.natAbs D.natAbs);have a:=HU.o;rw[t] at a;obtain⟨J,p⟩:=Ia a t;have f:0<g:=by rw[<-t];exact Nat.gcd_pos_of_pos_right _ (by omega)
  have S:=H.o.below n.o;have ah:X.length<=(F).length:=a.len_mono H.o.den (by rw[<-t];exact Nat.le_of_dvd (by omega) (Nat.gcd_dvd_right _ _));clear HU;by_cases K:g=1
  .
   subst K;have Y:X= [1]:=Qee a.num;subst Y;obtain⟨Z,og,rfl,aa,q⟩:=a.row.cell 0 (by simp);have q:w1.cell? ⟨Z,og,none⟩=some (.int .u32 1):=by simpa using q
   clear a t S;go_wp2;go_ret;obtain⟨u,L⟩:=Qkk (P:=P) hD p.o;refine RatOk.of (Only.of_below n.o) ⟨rfl,Only.refl _ _,R,c1,G,a2,c2,F,?_⟩;rw[u,L];exact H.o.below n.o
  .
   have m:g ∣ P.natAbs:=by rw[<-t];exact Nat.gcd_dvd_left _ _
   have M:=Hi (Qbd R ag c1 W G X P.natAbs g w1 S.num a f (by omega));rcases Qkl a.num K with ai|⟨dd,rfl,aj⟩
   .
    clear a t S;go_wp2_with fail;refine M.o.mono ?_;rintro e w2 ⟨⟨v,x,y,ar,cr,rr,rfl,N,hr⟩,c⟩;have z:=(H.o.below n.o).below c;have ab:=z.c3;obtain⟨HQ,i,A⟩:=Ib N c (Qbd (a2) _ c2 W (F) _ D.natAbs g w2 z.den (J.o.below c) f (by omega));clear N hr c z;go_wp2_with fail;refine A.o.mono ?_;rintro e B ⟨⟨j,C,rs,ad,ct,rt,rfl,O,ht⟩,k⟩;have H3:=((H.o.below n.o).below i.o).below k;have f1:=H3.sb.free 1;have f3:=H3.sb.free 3;have ae:=H3.c1;have af:=H3.c3;obtain⟨HS,r,l⟩:=Ib O k H3;clear O ht k H3;go_wp2;go_ret;have E:Only b B ((B.setCell ⟨b,1,none⟩ (.slice v y.length x)).setCell ⟨b,3,none⟩ (.slice j rs.length C)):=((Only.refl b B).setCell _ _).setCell _ _;have Q:g ∣ D.natAbs:=by rw[<-p.o];exact Nat.gcd_dvd_right _ _
    obtain⟨u,L⟩:=Qeh (P:=P) hD p.o;refine RatOk.of (Only.of_below (n.o.trans ((i.o.mono n.o.size).trans (r.o.mono (Nat.le_trans n.o.size i.o.size))))) ⟨rfl,E,v,x,y,j,C,rs,?_,?_,?_⟩
    .
     have:=(l.o.sb.set 1 (.slice v y.length x)).set 3 (.slice j rs.length C);have en:decide ((((mkRat P D.natAbs).den:Nat):Int)<0)=decide (D<0):=by
      apply decide_eq_decide.2;omega
     rw[u,Qeg P g f m,en]
     simpa using this
    . rw[u,Qef P g f m]
      exact(HQ.o.below r.o).only E l.o.sb (Qan _ _ _ _ _ _ _ _)
    . rw[L,Int.natAbs_natCast]
      exact HS.o.only E l.o.sb (Qan _ _ _ _ _ _ _ _)
   .
    obtain⟨Z,og,rfl,aa,q⟩:=a.row.cell 0 (by simp);have q:w1.cell? ⟨Z,og,none⟩=some (.int .u32 (dd:Int)):=by simpa using q
    have ak:((dd:Int) == 1)=false:=by rw[beq_eq_false_iff_ne];omega
    clear a t S;go_wp2_with fail;refine M.o.mono ?_;rintro e w2 ⟨⟨v,x,y,ar,cr,rr,rfl,N,hr⟩,c⟩;have z:=(H.o.below n.o).below c;have ab:=z.c3;obtain⟨HQ,i,A⟩:=Ib N c (Qbd (a2) _ c2 W (F) _ D.natAbs g w2 z.den (J.o.below c) f (by omega));clear N hr c z;go_wp2_with fail;refine A.o.mono ?_;rintro e B ⟨⟨j,C,rs,ad,ct,rt,rfl,O,ht⟩,k⟩;have H3:=((H.o.below n.o).below i.o).below k;have f1:=H3.sb.free 1;have f3:=H3.sb.free 3;have ae:=H3.c1;have af:=H3.c3;obtain⟨HS,r,l⟩:=Ib O k H3;clear O ht k H3;go_wp2;go_ret;have E:Only b B ((B.setCell ⟨b,1,none⟩ (.slice v y.length x)).setCell ⟨b,3,none⟩ (.slice j rs.length C)):=((Only.refl b B).setCell _ _).setCell _ _;have Q:g ∣ D.natAbs:=by rw[<-p.o];exact Nat.gcd_dvd_right _ _
    obtain⟨u,L⟩:=Qeh (P:=P) hD p.o;refine RatOk.of (Only.of_below (n.o.trans ((i.o.mono n.o.size).trans (r.o.mono (Nat.le_trans n.o.size i.o.size))))) ⟨rfl,E,v,x,y,j,C,rs,?_,?_,?_⟩
    .
     have:=(l.o.sb.set 1 (.slice v y.length x)).set 3 (.slice j rs.length C);have en:decide ((((mkRat P D.natAbs).den:Nat):Int)<0)=decide (D<0):=by
      apply decide_eq_decide.2;omega
     rw[u,Qeg P g f m,en]
     simpa using this
    . rw[u,Qef P g f m]
      exact(HQ.o.below r.o).only E l.o.sb (Qan _ _ _ _ _ _ _ _)
    . rw[L,Int.natAbs_natCast]
      exact HS.o.only E l.o.sb (Qan _ _ _ _ _ _ _ _)
theorem Qsx(b:Nat)(P D:Int)(d f:Vx)(c1 c2:Nat)(a c:Vy)(w:Vz)(h:RatAt w b P D d c1 a f c2 c)(k:0<D)(g:a.length<1099511627770)(i:c.length<1099511627770):
 Calls prog 151 #[.pointer (some ⟨b,0,none⟩)] w (RatOk w b (mkRat P D.natAbs)):=by
 by_cases j:P=0
 .
  subst j;rw[Rat.zero_mkRat];exact Qsu b D d f c1 c2 a c w h k
 by_cases l:D=1
 .
  subst l;have e:mkRat P (1:Int).natAbs=(P:Rat):=by
   apply Rat.ext
   . rw[Rat.num_mkRat];simp
   . rw[Rat.den_mkRat];simp
  rw[e];exact Qsv b P d f c1 c2 a c w h j
 . exact Qsw b P D d f c1 c2 a c w h j k l g i
theorem Qce(b:Nat)(H I J K:Value)(L M:Nat)(A:Int)(V:Vx)(c1:Nat)(E:Vy)(N O:Nat)(B:Int)(W:Vx)(c2:Nat)(n:Vy)(w:Vz)
 (P:SB w b 123 #[H,I,J,K]) (X:NoInt #[H,I,J,K]) (Q:IntAt w L M A V c1 E) (p:IntAt w N O B W c2 n) (hB:0<B) (h1:E.length<1099511627770) (h2:n.length<1099511627770):
 Calls prog 91 #[.pointer (some ⟨b,0,none⟩),.pointer (some ⟨L,M,none⟩),.pointer (some ⟨N,O,none⟩)] w (RatOk w b (mkRat A B.natAbs)):=by
 have k1:=p.abs;have q1:((n.length:Int) == 0)=false:=by
  rw[beq_eq_false_iff_ne];have:=(p.num.num.len_zero (by decide)).2;omega
 obtain⟨Y,Z,HA,q⟩:=Ic P X Q p;have aa:=P.lt;have ab:=Q.lt;have ad:=p.lt;clear P X Q p;go_enter func91,ntmps91;go_wp2_with fail;have i:Bl w (w.alloc (.cells #[.bool false,.slice none 0 0] 121)):=bR.alloc lZ _;refine(Qi2 w.heap.size 0 121 _ L M A V c1 E _ (SB.new w 121 _) Tryz.int_zero (by simp) (HA.o.below i) (by omega)).mono ?_;rintro e w1 ⟨rfl,r,s,l,F⟩;have j:Bl w w1:=Only.fresh i F.only lZ;have ae:w.heap.size<w1.heap.size:=by have:=F.only.size;simp at this;omega
 have f:Bl w1 (w1.alloc (.cells #[.bool false,.slice none 0 0] 121)):=bR.alloc lZ _;obtain⟨R,HP,t,u⟩:=Ic (Qi2 w1.heap.size 0 121 _ N O B W c2 n _ (SB.new w1 121 _) Tryz.int_zero (by simp) ((q.o.below j).below f) (by omega)) F j f;clear F j i f;go_wp2_with fail;refine R.o.mono ?_;rintro e w2 ⟨rfl,v,x,m,S⟩;have g:Bl w1 w2:=Only.fresh u.o S.only lZ;have c:=(HP.o.at (by simp)).below g;have d:=S.at (by simp);have a:=((Y.o.below t.o Y.o.lt).below g (by omega));have p0:=c.neg;have p1:=c.abs;have r0:=d.neg;have r1:=d.abs;have z0:w2.cell? ⟨b,0,none⟩=some H:=by rw[a.cell];rfl
 have z1:w2.cell? ⟨b,1,none⟩=some I:=by rw[a.cell];rfl
 have z2:w2.cell? ⟨b,2,none⟩=some J:=by rw[a.cell];rfl
 have z3:w2.cell? ⟨b,3,none⟩=some K:=by rw[a.cell];rfl
 have f0:=a.free 0;have f1:=a.free 1;have f2:=a.free 2;have f3:=a.free 3;obtain⟨y,z,k,T⟩:=Ic c d a g;clear S c d a g;simp only[Nat.zero_add] at p1 r1;go_wp2_with fail;have G:Only b w2 ((((w2.setCell ⟨b,0,none⟩ (.bool (decide (A<0)))).setCell ⟨b,1,none⟩ (.slice r l.length s)).setCell ⟨b,2,none⟩ (.bool (decide (B<0)))).setCell ⟨b,3,none⟩ (.slice v m.length x)):=
  ((((Only.refl b w2).setCell _ _).setCell _ _).setCell _ _).setCell _ _
 have h:RatAt ((((w2.setCell ⟨b,0,none⟩ (.bool (decide (A<0)))).setCell ⟨b,1,none⟩ (.slice r l.length s)).setCell ⟨b,2,none⟩ (.bool (decide (B<0)))).setCell ⟨b,3,none⟩ (.slice v m.length x)) b A B r s l v x m:=by
  refine⟨?_,y.o.num.only G k.o Z.o,z.o.num.only G k.o Z.o⟩;have:=(((k.o.set 0 (.bool (decide (A<0)))).set 1 (.slice r l.length s)).set 2 (.bool (decide (B<0)))).set 3 (.slice v m.length x)
  simpa using this
 have af:l.length<=E.length:=y.o.num.len_mono HA.o.num lZ;have ag:m.length<=n.length:=z.o.num.len_mono q.o.num lZ;refine(Qsx b A B r v s x l m _ h hB (by omega) (by omega)).mono ?_;rintro e w3 C;have D:RatOk w b (mkRat A B.natAbs) e w3:=RatOk.of ((Only.of_below (t.o.trans (T.o.mono (by omega)))).trans G) C;obtain⟨rfl,U,hr⟩:=D;clear C G h;go_wp2;go_ret;exact⟨rfl,U,hr⟩
structure Step (b:Nat) (w w':Vz):Prop where
 only:Only b w w'
 noint:∀(i:Nat) (k:IntKind) (n:Int),w.cell? ⟨b,i,none⟩≠some (Value.int k n)
theorem Step.of_only{b:Nat}{w a:Vz}{t:Vr}{C:Vw}(h:Only b w a)(c:SB w b t C)(d:NoInt C):Step b w a:=⟨h,fun i k n=>by rw[c.cell];exact d i k n⟩
theorem Step.of_below{w a:Vz}(h:Bl w a):Step w.heap.size w a:=
 ⟨Only.of_below h,fun i k n e=>by have:=World.block_lt_of_cell? w _ e;simp at this⟩
theorem Step.alloc(w:Vz)(o:Obj):Step w.heap.size w (w.alloc o):=Step.of_below (bR.alloc lZ _)
theorem Step.drew(w:Vz):Step w.heap.size w w.drew:=Step.of_below bR.drew
theorem Step.size{b:Nat}{w a:Vz}(h:Step b w a):w.heap.size<=a.heap.size:=h.only.size
theorem SB.step{w d:Vz}{b c:Nat}{t:Vr}{C:Vw}(h:SB w b t C)(k:Step c w d)(a:b≠c):SB d b t C:=h.only k.only a
theorem Row.step{k:IntKind}{w m:Vz}{a:Vx}{d:Nat}{l:Vy}{b:Nat}(h:Row k w a d l)(f:Step b w m):Row k m a d l:=by
 refine⟨h.fit,?_,fun i p=>?_⟩
 .
  rcases h.shape with g|⟨e,c,rfl,n⟩
  . exact .inl g
  . exact .inr ⟨e,c,rfl,by have:=f.size;omega⟩
 .
  obtain⟨e,c,g,n,o⟩:=h.cell i p;have j:e≠b:=by
   rintro rfl;exact f.noint _ _ _ o
  exact⟨e,c,g,by have:=f.size;omega,(World.cell?_of_block (w:=w) (f.only.block e n j)).trans o⟩
theorem U32.step{w d:Vz}{a:Vx}{c:Nat}{l:Vy}{n b:Nat}(h:U32 w a c l n)(e:Step b w d):U32 d a c l n:=⟨h.row.step e,h.num,h.short⟩
theorem IntAt.step{w g:Vz}{b o c:Nat}{z:Int}{a:Vx}{d:Nat}{l:Vy}(h:IntAt w b o z a d l)(f:Step c w g)(e:b≠c):IntAt g b o z a d l:=
 ⟨(World.cell?_of_block (w:=w) (a:=⟨b,o,none⟩) (f.only.block b h.lt e)).trans h.neg,(World.cell?_of_block (w:=w) (a:=⟨b,o+1,none⟩) (f.only.block b h.lt e)).trans h.abs,h.num.step f,by have:=h.lt;have:=f.size;omega⟩
theorem RatAt.step{w e:Vz}{b c:Nat}{P D:Int}{f g:Vx}{c1 c2:Nat}{i j:Vy}(h:RatAt w b P D f c1 i g c2 j)(a:Step c w e)(d:b≠c):RatAt e b P D f c1 i g c2 j:=
 ⟨h.sb.step a d,h.num.step a,h.den.step a⟩
theorem SB.drew{w:Vz}{b:Nat}{t:Vr}{C:Vw}(h:SB w b t C):SB w.drew b t C:=h
theorem IntAt.alloc{w:Vz}{b o:Nat}{z:Int}{a:Vx}{c:Nat}{l:Vy}(h:IntAt w b o z a c l)(x:Obj):IntAt (w.alloc x) b o z a c l:=h.below (bR.alloc lZ _)
def DenOk(w:Vz)(b:Nat)(d:Int)(e:Ending)(w':Vz):Prop:=
 (∃b' o a cap l,e=.returned (.pointer (some ⟨b',o,none⟩))/\IntAt w' b' o d a cap l/\(b'=b∨w.heap.size<=b'))/\Below w.heap.size w w'
theorem Qs8(b:Nat)(P D d:Int)(p k:Vx)(c1 c2:Nat)(q c:Vy)(w:Vz)(h:RatAt w b P D p c1 q k c2 c)(m:D=d∨D=0/\d=1)(r:0<d):
 Calls prog 80 #[.pointer (some ⟨b,0,none⟩)] w (DenOk w b d):=by
 have x:=h.c3;by_cases n:D=0
 .
  have s:((c.length:Int) == 0)=true:=by
   have:=(h.den.num.len_zero (by decide)).1 (by omega);simp[this]
  have f:=Hi (show d=1 by omega);clear h m n;go_enter func80,ntmps80;go_wp2_with fail;refine(Qbu 1 _ (by decide) (by decide)).mono ?_;rintro e w1 ⟨⟨t,a,g,l,rfl,i,j,u⟩,v⟩;go_wp2;go_ret;refine⟨⟨t,0,a,g,l,rfl,?_,.inr i⟩,v⟩;rw[f.o];exact⟨by rw[j.cell];rfl,by rw[j.cell];rfl,u,j.lt⟩
 .
  have s:((c.length:Int) == 0)=false:=by
   rw[beq_eq_false_iff_ne];have:=(h.den.num.len_zero (by decide)).2;omega
  obtain⟨f,H⟩:=Ia (show D=d by omega) h;clear h m n;go_enter func80,ntmps80;go_wp2;go_ret;exact⟨⟨b,2,k,c2,c,rfl,by rw[<-f.o];exact H.o.lower,.inl rfl⟩,Below.refl _ _⟩
def zeroInt:Array Value:=#[.bool false,.slice none 0 0]
structure Thing where
 kind:Nat
 b:Nat
 o:Nat
 X:Int
 L:Nat
abbrev Thing.int(b o:Nat)(X:Int)(L:Nat):Thing:=⟨0,b,o,X,L⟩
abbrev Thing.rat(b:Nat)(d:Int)(L:Nat):Thing:=⟨1,b,0,d,L⟩
abbrev Thing.room(b:Nat):Thing:=⟨2,b,0,0,0⟩
def Thing.block:Thing->Nat
 |⟨_,b,_,_,_⟩=>b
def Thing.holds(w:Vz):Thing->Prop
 |⟨0,b,o,X,L⟩=>∃a cap l,IntAt w b o X a cap l/\l.length<=L
 |⟨1,b,_,d,L⟩=>∃P D a1 c1 l1 a2 c2 l2,RatAt w b P D a1 c1 l1 a2 c2 l2/\(D=d∨D=0/\d=1)/\0<d/\l2.length<=L
 |⟨_+2,b,_,_,_⟩=>∃s0 s1 s2 s3,SB w b 123 #[s0,s1,s2,s3]/\NoInt #[s0,s1,s2,s3]
theorem Thing.lt{w:Vz}{t:Thing}(h:t.holds w):t.block<w.heap.size:=by
 obtain⟨c,b,o,X,L⟩:=t
 match c,h with
 |0,h=>obtain⟨a,d,l,h,_⟩:=h;exact h.lt
 |1,h=>obtain⟨P,D,e,c1,f,g,c2,i,h,_⟩:=h;exact h.sb.lt
 |n+2,h=>obtain⟨j,k,m,p,h,_⟩:=h;exact SB.lt h
theorem Thing.step{w i:Vz}{t:Thing}{c:Nat}(h:t.holds w)(k:Step c w i)(d:t.block≠c):t.holds i:=by
 obtain⟨e,b,o,X,L⟩:=t
 match e,h with
 |0,h=>obtain⟨a,f,l,h,hl⟩:=h;exact⟨a,f,l,h.step k d,hl⟩
 |1,h=>obtain⟨P,D,j,c1,m,p,c2,q,h,g⟩:=h;exact⟨P,D,j,c1,m,p,c2,q,h.step k d,g⟩
 |n+2,h=>obtain⟨r,s,u,v,h,g⟩:=h;exact⟨r,s,u,v,SB.step h k d,g⟩
structure Bag (w0 w:Vz) (Z:Vy) (L:List Thing):Prop where
 base:Bl w0 w
 zs:∀n,n∈ Z->w0.heap.size<=n/\SB w n 121 zeroInt
 ts:∀t,t∈ L->t.holds w/\t.block ∉ Z
theorem Bag.drew{w0 w:Vz}{Z:Vy}{L:List Thing}(h:Bag w0 w Z L):Bag w0 w.drew Z L:=
 ⟨h.base.drew,fun n b=>⟨(h.zs n b).1,(h.zs n b).2.drew⟩,fun t a=>⟨Thing.step (h.ts t a).1 (Step.drew w) (by have:=Thing.lt (h.ts t a).1;omega),(h.ts t a).2⟩⟩
theorem Bag.alloc{w0 w:Vz}{Z:Vy}{L:List Thing}(h:Bag w0 w Z L):Bag w0 (w.alloc (.cells #[.bool false,.slice none 0 0] 121)) (w.heap.size :: Z) L:=by
 refine⟨h.base.alloc h.base.size _,fun n a=>?_,fun t b=>⟨Thing.step (h.ts t b).1 (Step.alloc w _) (by have:=Thing.lt (h.ts t b).1;omega),?_⟩⟩
 .
  rcases List.mem_cons.1 a with rfl|a
  . exact⟨h.base.size,SB.new w _ _⟩
  . exact⟨(h.zs n a).1,(h.zs n a).2.alloc _⟩
 .
  intro c;rcases List.mem_cons.1 c with c|c
  . have:=Thing.lt (h.ts t b).1;omega
  . exact(h.ts t b).2 c
def less(Z:Vy)(n:Nat):List Nat:=Z.filter fun m=>decide (m≠n)
theorem mem_less{Z:Vy}{n m:Nat}:m∈ less Z n↔m∈ Z/\m≠n:=by simp[less]
theorem Bag.lay{w0 w d:Vz}{Z:Vy}{L:List Thing}{n K:Nat}{X:Int}{e:Ending}(h:Bag w0 w Z L)(g:n∈ Z)(k:LaidOk w n 0 121 zeroInt X e d)(p:∀a b l,U32 d a b l X.natAbs->l.length<=K):
 e=.returned (.pointer (some ⟨n,0,none⟩))/\Bag w0 d (less Z n) (.int n 0 X K :: L):=by
 obtain⟨rfl,a,b,l,hl⟩:=k;have i:=h.zs n g;have j:Step n w d:=Step.of_only hl.only i.2 Tryz.int_zero;refine⟨rfl,h.base.trans (hl.only.below i.1 h.base.size),fun m q=>?_,fun t f=>?_⟩
 . obtain⟨o,r⟩:=mem_less.1 q
   exact⟨(h.zs m o).1,(h.zs m o).2.step j r⟩
 .
  rcases List.mem_cons.1 f with rfl|f
  . exact⟨⟨a,b,l,hl.at (by simp[zeroInt]),p a b l hl.num⟩,fun c=>(mem_less.1 c).2 rfl⟩
  . have:=h.ts t f
    exact⟨Thing.step this.1 j (fun c=>this.2 (c ▸ g)),fun c=>this.2 (mem_less.1 c).1⟩
theorem Bag.below{w0 w c:Vz}{Z:Vy}{L:List Thing}(h:Bag w0 w Z L)(k:Bl w c):Bag w0 c Z L:=by
 have d:=Step.of_below k;refine⟨h.base.trans (k.mono h.base.size),fun n a=>⟨(h.zs n a).1,(h.zs n a).2.below k (h.zs n a).2.lt⟩,fun t b=>⟨Thing.step (h.ts t b).1 d (by have:=Thing.lt (h.ts t b).1;omega),(h.ts t b).2⟩⟩
theorem Bag.put{w0 w:Vz}{Z:Vy}{L:List Thing}{t:Thing}(h:Bag w0 w Z L)(b:t.holds w)(c:t.block ∉ Z):Bag w0 w Z (t :: L):=
 ⟨h.base,h.zs,fun s a=>by
   rcases List.mem_cons.1 a with rfl|a
   . exact⟨b,c⟩
   . exact h.ts s a⟩
theorem U32.len_of{w w1 w2:Vz}{a b c:Vx}{k1 k2 f:Nat}{l m r:Vy}{x y z:Nat}(h:U32 w1 a k1 l x)(k:U32 w2 b k2 m y)(g:U32 w c f r z)(j:z<=x*y∨z<=x+y):r.length<=l.length+m.length+1:=by
 apply g.num.length_le_of_lt (by decide);have d:=Qab (B:=4294967296) (by decide) h.num.small;have e:=Qab (B:=4294967296) (by decide) k.num.small;rw[h.num.eq] at d;rw[k.num.eq] at e;have n:x*y<4294967296 ^ (l.length+m.length):=by rw[Nat.pow_add];exact Nat.mul_lt_mul'' d e
 have o:4294967296 ^ l.length<=4294967296 ^ (l.length+m.length):=Nat.pow_le_pow_right (by decide) (by omega);have q:4294967296 ^ m.length<=4294967296 ^ (l.length+m.length):=Nat.pow_le_pow_right (by decide) (by omega);have i:4294967296 ^ (l.length+m.length+1)=4294967296 ^ (l.length+m.length)*4294967296:=Nat.pow_succ _ _;rw[i];generalize 4294967296 ^ (l.length+m.length)=p at*;omega
def LayOk(w0 w:Vz)(Z:Vy)(L:List Thing)(n:Nat)(X:Int)(K:Nat)(e:Ending)(w':Vz):Prop:=
 e=.returned (.pointer (some ⟨n,0,none⟩))/\Bag w0 w' (less Z n) (.int n 0 X K :: L)/\w.heap.size<=w'.heap.size/\n<w'.heap.size
theorem Bag.layOk{w0 w c:Vz}{Z:Vy}{L:List Thing}{n K:Nat}{X:Int}{e:Ending}(h:Bag w0 w Z L)(f:n∈ Z)(k:LaidOk w n 0 121 zeroInt X e c)(g:∀a b l,U32 c a b l X.natAbs->l.length<=K):LayOk w0 w Z L n X K e c:=by
 have d:=h.lay f k g;refine⟨d.1,d.2,?_,?_⟩
 . obtain⟨_,a,b,l,hl⟩:=k;exact hl.only.size
 . obtain⟨_,a,b,l,hl⟩:=k;exact hl.sb.lt
theorem Bag.mul{w0 w:Vz}{Z:Vy}{L:List Thing}{n d f g i K1 K2:Nat}{X Y:Int}(h:Bag w0 w Z L)(c:n∈ Z)(s:.int d f X K1∈ L)(t:.int g i Y K2∈ L)(hl:K1+K2<1099511627770):
 Calls prog 82 #[.pointer (some ⟨n,0,none⟩),.pointer (some ⟨d,f,none⟩),.pointer (some ⟨g,i,none⟩)] w (LayOk w0 w Z L n (X*Y) (K1+K2+1)):=by
 obtain⟨⟨a,j,l,p,v⟩,k⟩:=h.ts _ s;obtain⟨⟨b,cap',m,q,x⟩,o⟩:=h.ts _ t;refine(Qp4 n 0 121 _ d f X a j l g i Y b cap' m w (h.zs n c).2 Tryz.int_zero (by simp[zeroInt]) p q (fun e=>k (e ▸ c)) (fun e=>o (e ▸ c)) (by omega)).mono ?_;intro e y hk;refine h.layOk c hk fun z A r u=>?_
 have:=p.num.len_of q.num u (.inl (by rw[Int.natAbs_mul];exact Nat.le_refl _));omega
theorem Bag.add{w0 w:Vz}{Z:Vy}{L:List Thing}{n d f g i K1 K2:Nat}{X Y:Int}(h:Bag w0 w Z L)(c:n∈ Z)(s:.int d f X K1∈ L)(t:.int g i Y K2∈ L)(hl:K1+K2<1099511627770):
 Calls prog 134 #[.pointer (some ⟨n,0,none⟩),.pointer (some ⟨d,f,none⟩),.pointer (some ⟨g,i,none⟩)] w (LayOk w0 w Z L n (X+Y) (K1+K2+1)):=by
 obtain⟨⟨a,j,l,p,v⟩,k⟩:=h.ts _ s;obtain⟨⟨b,cap',m,q,x⟩,o⟩:=h.ts _ t;refine(Qp3 n 0 121 _ d f X a j l g i Y b cap' m w (h.zs n c).2 Tryz.int_zero (by simp[zeroInt]) p q (fun e=>k (e ▸ c)) (fun e=>o (e ▸ c)) (by omega)).mono ?_;intro e y hk;refine h.layOk c hk fun z A r u=>?_
 have:=p.num.len_of q.num u (.inr (by omega));omega
def DenLeft(w0 w:Vz)(Z:Vy)(L:List Thing)(d:Int)(K:Nat)(e:Ending)(w':Vz):Prop:=
 ∃b o,e=.returned (.pointer (some ⟨b,o,none⟩))/\Bag w0 w' Z (.int b o d K :: L)/\w.heap.size<=w'.heap.size
theorem Bag.den{w0 w:Vz}{Z:Vy}{L:List Thing}{b K:Nat}{d:Int}(h:Bag w0 w Z L)(r:.rat b d K∈ L):
 Calls prog 80 #[.pointer (some ⟨b,0,none⟩)] w (DenLeft w0 w Z L d (K+1)):=by
 obtain⟨⟨P,D,s,c1,t,u,c2,v,m,c,g,hl⟩,i⟩:=h.ts _ r;refine(Qs8 b P D d s u c1 c2 t v w m c g).mono ?_;rintro e x ⟨⟨j,o,a,k,l,rfl,n,p⟩,f⟩;refine⟨j,o,rfl,(h.below f).put ⟨a,k,l,n,?_⟩ ?_,f.size⟩
 .
  have:=n.num;rcases c with c|⟨_,c⟩
  .
   subst c;have:=this.len_mono m.den lZ;omega
  .
   subst c;have:=Qee this.num;rw[this];simp
 .
  intro q
  show False
  rcases p with rfl|p
  . exact i q
  .
   have:=(h.zs _ q).2.lt;have e:Thing.block (.int j o d (K+1))=j:=rfl;rw[e] at this;omega
theorem Bag.setFrac{w0 w:Vz}{Z:Vy}{L:List Thing}{c d f g i K1 K2:Nat}{A B:Int}(h:Bag w0 w Z L)(o:.room c∈ L)(j:.int d f A K1∈ L)(k:.int g i B K2∈ L)(hB:0<B)(v:K1<1099511627770)(x:K2<1099511627770):
 Calls prog 91 #[.pointer (some ⟨c,0,none⟩),.pointer (some ⟨d,f,none⟩),.pointer (some ⟨g,i,none⟩)] w (RatOk w0 c (mkRat A B.natAbs)):=by
 obtain⟨⟨p,q,r,s,t,u⟩,_⟩:=h.ts _ o;obtain⟨⟨a,n,l,j,y⟩,_⟩:=h.ts _ j;obtain⟨⟨b,cap',m,k,z⟩,_⟩:=h.ts _ k;refine(Qce c p q r s d f A a n l g i B b cap' m w t u j k hB (by omega) (by omega)).mono ?_;intro e C hk;exact RatOk.of (Only.of_below h.base) hk
def RatVal(w:Vz)(b:Nat)(q:Rat):Prop:=∃D a1 c1 l1 a2 c2 l2,RatAt w b q.num D a1 c1 l1 a2 c2 l2/\(D=(q.den:Int)∨D=0/\(q.den:Int)=1)
def Fits(q:Rat)(k:Nat):Prop:=q.num.natAbs<2 ^ k/\q.den<2 ^ k
theorem Qcd(q:Rat):(0:Int)<(q.den:Int):=by have:=q.den_pos;omega
theorem RatVal.below{w a:Vz}{b:Nat}{q:Rat}(h:RatVal w b q)(c:Bl w a):RatVal a b q:=by
 obtain⟨D,d,c1,e,f,c2,g,h,i⟩:=h;exact⟨D,d,c1,e,f,c2,g,h.below c,i⟩
theorem RatVal.room{w:Vz}{b:Nat}{q:Rat}(h:RatVal w b q):(Thing.room b).holds w:=by
 obtain⟨D,a,c1,c,d,c2,e,h,f⟩:=h;exact⟨_,_,_,_,h.sb,Qan _ _ _ _ _ _ _ _⟩
theorem RatOk.val{w a:Vz}{b:Nat}{q:Rat}{e:Ending}(h:RatOk w b q e a):RatVal a b q:=by
 obtain⟨_,_,c,c1,d,f,c2,g,h⟩:=h;exact⟨_,c,c1,d,f,c2,g,h,.inl rfl⟩
theorem U32.len_bits{w:Vz}{a:Vx}{c:Nat}{l:Vy}{n k:Nat}(h:U32 w a c l n)(b:n<2 ^ k):l.length<=k:=by
 apply h.num.length_le_of_lt (by decide);refine Nat.lt_of_lt_of_le b ?_;exact Nat.pow_le_pow_left (by decide) k
theorem RatVal.int{w:Vz}{b:Nat}{q:Rat}{k:Nat}(h:RatVal w b q)(hk:Fits q k):(Thing.int b 0 q.num k).holds w:=by
 obtain⟨D,a,c1,c,d,c2,e,h,f⟩:=h;exact⟨a,c1,c,h.upper,h.num.len_bits hk.1⟩
theorem RatVal.rat{w:Vz}{b:Nat}{q:Rat}{k:Nat}(h:RatVal w b q)(hk:Fits q k):(Thing.rat b q.den k).holds w:=by
 obtain⟨D,c,c1,d,e,c2,f,h,a⟩:=h;refine⟨_,D,c,c1,d,e,c2,f,h,a,Qcd q,h.den.len_bits ?_⟩;rcases a with a|⟨a,_⟩
 . rw[a];exact hk.2
 . rw[a];exact Nat.two_pow_pos k
theorem Bag.two{w:Vz}{a b c j k:Nat}{p q:Rat}(d:RatVal w a p)(e:RatVal w b q)(i:(Thing.room c).holds w)(f:Fits p j)(g:Fits q k):
 Bag w w [] [.int a 0 p.num j,.rat a p.den j,.int b 0 q.num k,.rat b q.den k,.room c]:=by
 refine⟨Below.refl _ _,fun n l=>(by cases l),fun t h=>⟨?_,List.not_mem_nil⟩⟩;simp only[List.mem_cons,List.not_mem_nil,or_false] at h;rcases h with rfl|rfl|rfl|rfl|rfl
 . exact d.int f
 . exact d.rat f
 . exact e.int g
 . exact e.rat g
 . exact i
theorem Bag.one{w:Vz}{a b j:Nat}{p:Rat}(c:RatVal w a p)(f:(Thing.room b).holds w)(d:Fits p j):
 Bag w w [] [.int a 0 p.num j,.rat a p.den j,.room b]:=by
 refine⟨Below.refl _ _,fun n g=>(by cases g),fun t e=>⟨?_,List.not_mem_nil⟩⟩;simp only[List.mem_cons,List.not_mem_nil,or_false] at e;rcases e with rfl|rfl|rfl
 . exact c.int d
 . exact c.rat d
 . exact f
theorem Qgj(p q:Rat):mkRat (p.num*q.num) ((p.den:Int)*(q.den:Int)).natAbs=p*q:=by
 rw[Int.natAbs_mul,Int.natAbs_natCast,Int.natAbs_natCast,<-Rat.mkRat_mul_mkRat,Rat.mkRat_self,Rat.mkRat_self]
theorem Qgk(p q:Rat):mkRat (p.num*(q.den:Int)+q.num*(p.den:Int)) ((p.den:Int)*(q.den:Int)).natAbs=p+q:=by
 rw[Int.natAbs_mul,Int.natAbs_natCast,Int.natAbs_natCast,<-Rat.mkRat_add_mkRat _ _ p.den_nz q.den_nz,Rat.mkRat_self,Rat.mkRat_self]
end Go.Proofs.YtkkadnoecklepaaGreatDoor
