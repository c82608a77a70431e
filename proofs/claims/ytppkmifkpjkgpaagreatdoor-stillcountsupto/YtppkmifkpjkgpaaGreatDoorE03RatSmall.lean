import Derived.Test.YtppkmifkpjkgpaaGreatDoorE02IntSet
namespace Go.Proofs.YtppkmifkpjkgpaaGreatDoor
open Go.RowKit
open Go.Proofs.Tryz
set_option linter.unusedSimpArgs false
set_option linter.unusedVariables false
set_option maxHeartbeats 8000000
set_option maxRecDepth 1000000
structure RatAt (w:Vz) (b:Nat) (P D:Int) (a1:Vx) (c1:Nat) (l1:Vy) (a2:Vx) (c2:Nat) (l2:Vy):Prop where
 sb:SB w b 124 #[.bool (decide (P<0)),.slice a1 l1.length c1,.bool (decide (D<0)),.slice a2 l2.length c2]
 num:U32 w a1 c1 l1 P.natAbs
 den:U32 w a2 c2 l2 D.natAbs
theorem Qab(n1 a:Bool)(b c:Vx)(d e c1 c2:Nat):NoInt #[Value.bool n1,Value.slice b d c1,Value.bool a,Value.slice c e c2]:=by
 intro i k n
 match i with
 |0=>simp
 |1=>simp
 |2=>simp
 |3=>simp
 |i+4=>simp
theorem RatAt.below{w w':Vz}{b:Nat}{P D:Int}{c d:Vx}{c1 c2:Nat}{e f:Vy}(h:RatAt w b P D c c1 e d c2 f)(a:Bl w w'):RatAt w' b P D c c1 e d c2 f:=
 ⟨h.sb.below a h.sb.lt,h.num.below a,h.den.below a⟩
theorem RatAt.drew{w:Vz}{b:Nat}{P D:Int}{a c:Vx}{c1 c2:Nat}{d e:Vy}(h:RatAt w b P D a c1 d c c2 e):RatAt w.drew b P D a c1 d c c2 e:=h.below bR.drew
theorem RatAt.c0{w:Vz}{b:Nat}{P D:Int}{a c:Vx}{c1 c2:Nat}{d e:Vy}(h:RatAt w b P D a c1 d c c2 e):w.cell? ⟨b,0,none⟩=some (.bool (decide (P<0))):=by rw[h.sb.cell];rfl
theorem RatAt.c1{w:Vz}{b:Nat}{P D:Int}{a d:Vx}{c1 c2:Nat}{c e:Vy}(h:RatAt w b P D a c1 c d c2 e):w.cell? ⟨b,1,none⟩=some (.slice a c.length c1):=by rw[h.sb.cell];rfl
theorem RatAt.c2{w:Vz}{b:Nat}{P D:Int}{a c:Vx}{c1 c2:Nat}{d e:Vy}(h:RatAt w b P D a c1 d c c2 e):w.cell? ⟨b,2,none⟩=some (.bool (decide (D<0))):=by rw[h.sb.cell];rfl
theorem RatAt.c3{w:Vz}{b:Nat}{P D:Int}{d a:Vx}{c1 c2:Nat}{e c:Vy}(h:RatAt w b P D d c1 e a c2 c):w.cell? ⟨b,3,none⟩=some (.slice a c.length c2):=by rw[h.sb.cell];rfl
theorem RatAt.upper{w:Vz}{b:Nat}{P D:Int}{a d:Vx}{c1 c2:Nat}{c e:Vy}(h:RatAt w b P D a c1 c d c2 e):IntAt w b 0 P a c1 c:=⟨h.c0,h.c1,h.num,h.sb.lt⟩
theorem RatAt.lower{w:Vz}{b:Nat}{P D:Int}{d a:Vx}{c1 c2:Nat}{e c:Vy}(h:RatAt w b P D d c1 e a c2 c):IntAt w b 2 D a c2 c:=⟨h.c2,h.c3,h.den,h.sb.lt⟩
def RatOk(w:Vz)(b:Nat)(q:Rat)(e:Ending)(w':Vz):Prop:=
 e=.returned (.pointer (some ⟨b,0,none⟩))/\Only b w w'/\∃a1 c1 l1 a2 c2 l2,RatAt w' b q.num q.den a1 c1 l1 a2 c2 l2
theorem RatOk.of{w a w':Vz}{b:Nat}{q:Rat}{e:Ending}(h:Only b w a)(k:RatOk a b q e w'):RatOk w b q e w':=⟨k.1,h.trans k.2.1,k.2.2⟩
theorem Qb2{l:Vy}(h:Num 4294967296 l 1):l= [1]:=h.inj (by decide) ⟨fun d a=>by simp at a;omega,.inr (by simp),by simp[val]⟩
theorem Qth(b:Nat)(D:Int)(f i:Vx)(c1 c2:Nat)(d g:Vy)(w:Vz)(h:RatAt w b 0 D f c1 d i c2 g)(m:0<D):
 Calls prog 117 #[.pointer (some ⟨b,0,none⟩)] w (RatOk w b 0):=by
 have n:=h.c0;have p:=h.c1;have j:=h.c2;have q:=h.c3;have c:decide (D<0)=false:=by simp;omega
 have k:decide ((0:Int)<0)=false:=by simp
 rw[c] at j;have r:((g.length:Int) == 0)=false:=by
  rw[beq_eq_false_iff_ne];have:=(h.den.num.len_zero (by decide)).2;omega
 have s:((d.length:Int) == 0)=true:=by
  have:=(h.num.num.len_zero (by decide)).1 rfl;simp[this]
 have H:=Hi h;clear h c;go_enter func117,ntmps117;go_wp2_with fail;refine(Qfs b 2 124 _ 1 _ H.o.sb (Qab _ _ _ _ _ _ _ _) (by simp) (by decide) (by decide)).mono ?_;rintro e t ⟨rfl,a,cap,l,hl⟩;go_wp2;go_ret;refine⟨rfl,hl.only,f,c1,d,a,cap,l,?_,?_,hl.num⟩
 . have:=hl.sb
   simpa [putInt] using this
 . exact H.o.num.only hl.only H.o.sb (Qab _ _ _ _ _ _ _ _)
theorem Qti(b:Nat)(P:Int)(g i:Vx)(c1 c2:Nat)(e f:Vy)(w:Vz)(h:RatAt w b P 1 g c1 e i c2 f)(p:P≠0):
 Calls prog 117 #[.pointer (some ⟨b,0,none⟩)] w (RatOk w b (P:Rat)):=by
 have d:f= [1]:=Qb2 h.den.num;subst d;have q:=h.c0;have r:=h.c1;have j:=h.c2;have k:=h.c3;obtain⟨l,m,rfl,n,a⟩:=h.den.row.cell 0 (by simp);have a:w.cell? ⟨l,m,none⟩=some (.int .u32 1):=by simpa using a
 have c:decide ((1:Int)<0)=false:=by simp
 rw[c] at j;simp only[List.length_singleton] at k;have s:((e.length:Int) == 0)=false:=by
  rw[beq_eq_false_iff_ne];have:=(h.num.num.len_zero (by decide)).2;omega
 have H:=Hi h;clear h c;go_enter func117,ntmps117;go_wp2;go_ret;exact⟨rfl,Only.refl _ _,_,_,_,_,_,_,H.o⟩
theorem Qel{P D:Int}(b:0<D)(a:Nat.gcd P.natAbs D.natAbs=1):(mkRat P D.natAbs).num=P/\(((mkRat P D.natAbs).den:Nat):Int)=D:=by
 rw[Rat.num_mkRat,Rat.den_mkRat,if_neg (by omega),if_neg (by omega),Nat.gcd_comm,a];constructor
 . simp
 . simp;omega
theorem Qbo(P:Int)(g:Nat)(b:0<g)(a:g ∣ P.natAbs):(P / (g:Int)).natAbs=P.natAbs / g:=by
 rw[Int.natAbs_ediv_of_dvd (Int.ofNat_dvd_left.2 a),Int.natAbs_natCast]
theorem Qbp(P:Int)(g:Nat)(c:0<g)(b:g ∣ P.natAbs):decide (P / (g:Int)<0)=decide (P<0):=by
 apply decide_eq_decide.2;obtain⟨k,hk⟩:=Int.ofNat_dvd_left.2 b;have a:(0:Int)<(g:Int):=by omega
 rw[hk,Int.mul_ediv_cancel_left _ (by omega)];constructor
 . intro h
   exact Int.mul_neg_of_pos_of_neg a h
 .
  intro h;apply bC;intro d;have:=Int.mul_nonneg (Int.le_of_lt a) (show 0<=k by omega);omega
theorem Qbq{P D:Int}{g:Nat}(b:0<D)(a:Nat.gcd P.natAbs D.natAbs=g):(mkRat P D.natAbs).num=P / (g:Int)/\(mkRat P D.natAbs).den=D.natAbs / g:=by
 rw[Rat.num_mkRat,Rat.den_mkRat,if_neg (by omega),if_neg (by omega),Nat.gcd_comm,a];exact⟨rfl,rfl⟩
theorem Qem{l:Vy}{g:Nat}(h:Num 4294967296 l g)(a:g≠1):((l.length:Int) == 1)=false∨∃d,l= [d]/\d≠1:=by
 by_cases hl:l.length=1
 .
  right
  match l,hl,h with
  | [d],_,h=>
    refine⟨d,rfl,?_⟩;have:=h.eq;simp[val] at this;omega
 . left;rw[beq_eq_false_iff_ne];omega
theorem Qtj(b:Nat)(P D:Int)(Q a2:Vx)(c1 c2:Nat)(G F:Vy)(w:Vz)(h:RatAt w b P D Q c1 G a2 c2 F)(hP:P≠0)(hD:0<D)(al:D≠1)(s:G.length<1099511627770)(c:F.length<1099511627770):
 Calls prog 117 #[.pointer (some ⟨b,0,none⟩)] w (RatOk w b (mkRat P D.natAbs)):=by
 have k0:=h.c0;have k1:=h.c1;have k2:=h.c2;have k3:=h.c3;have S:decide (D<0)=false:=by simp;omega
 rw[S] at k2;have q1:((F.length:Int) == 0)=false:=by
  rw[beq_eq_false_iff_ne];have:=(h.den.num.len_zero (by decide)).2;omega
 have q2:((G.length:Int) == 0)=false:=by
  rw[beq_eq_false_iff_ne];have:=(h.num.num.len_zero (by decide)).2;omega
 by_cases hl:F.length=1
 .
  obtain⟨d,rfl⟩:∃d,F= [d]:=by
   match F,hl with
   | [d],_=>exact⟨d,rfl⟩
  have hd:d≠1:=by
   have:=h.den.num.eq;simp[val] at this;omega
  obtain⟨b',o',rfl,am,T⟩:=h.den.row.cell 0 (by simp);have T:w.cell? ⟨b',o',none⟩=some (.int .u32 (d:Int)):=by simpa using T
  have U:((d:Int) == 1)=false:=by rw[beq_eq_false_iff_ne];omega
  simp only[List.length_singleton] at k3 q1;obtain⟨H,HG⟩:=Ia h (Qdv Q (some ⟨b',o',none⟩) c1 c2 G ([d]) P.natAbs D.natAbs w.drew h.num.drew h.den.drew (by omega) (by omega));have I:=h.sb.lt;clear h S;go_enter func117,ntmps117;go_wp2;go_region_held3 (fun w'=>w'.cell? ⟨b,1,none⟩=some (.slice Q G.length c1)/\w'.cell? ⟨b,3,none⟩=some (.slice (some ⟨b',o',none⟩) (1) c2)) ((simp [*]))
   (first
     |(go_at_call 156;refine HG.o.mono ?_;rintro e V ⟨⟨ag,W,X,rfl,a⟩,s⟩;have d1:=ce s I k1;have d3:=ce s I k3;have HU:=Hi a;have n:=Hi ((Below.refl w.heap.size w).drew.trans s);clear a s))
  clear k0 k1 k2 k3 HG T U;obtain⟨g,t⟩:=nm (Nat.gcd P.natAbs D.natAbs);have a:=HU.o;rw[t] at a;obtain⟨J,p⟩:=Ia a t;have f:0<g:=by rw[<-t];exact Nat.gcd_pos_of_pos_right _ (by omega)
  have R:=H.o.below n.o;have ah:X.length<=([d]).length:=a.len_mono H.o.den (by rw[<-t];exact Nat.le_of_dvd (by omega) (Nat.gcd_dvd_right _ _));clear HU;by_cases K:g=1
  .
   subst K;have Y:X= [1]:=Qb2 a.num;subst Y;obtain⟨Z,og,rfl,aa,q⟩:=a.row.cell 0 (by simp);have q:V.cell? ⟨Z,og,none⟩=some (.int .u32 1):=by simpa using q
   clear a t R;go_wp2;go_ret;obtain⟨u,L⟩:=Qel (P:=P) hD p.o;refine RatOk.of (Only.of_below n.o) ⟨rfl,Only.refl _ _,Q,c1,G,some ⟨b',o',none⟩,c2,[d],?_⟩;rw[u,L];exact H.o.below n.o
  .
   have m:g ∣ P.natAbs:=by rw[<-t];exact Nat.gcd_dvd_left _ _
   have M:=Hi (Qas Q ag c1 W G X P.natAbs g V R.num a f (by omega));rcases Qem a.num K with ai|⟨dd,rfl,aj⟩
   .
    clear a t R;go_wp2_with fail;refine M.o.mono ?_;rintro e w2 ⟨⟨v,x,y,ar,cr,rr,rfl,N,hr⟩,c⟩;have z:=(H.o.below n.o).below c;have ab:=z.c3;obtain⟨HQ,i,A⟩:=Ib N c (Qas (some ⟨b',o',none⟩) _ c2 W ([d]) _ D.natAbs g w2 z.den (J.o.below c) f (by omega));clear N hr c z;go_wp2_with fail;refine A.o.mono ?_;rintro e B ⟨⟨j,C,rs,ad,ct,rt,rfl,hs,ht⟩,k⟩;have H3:=((H.o.below n.o).below i.o).below k;have f1:=H3.sb.free 1;have f3:=H3.sb.free 3;have ae:=H3.c1;have af:=H3.c3;obtain⟨HS,r,l⟩:=Ib hs k H3;clear hs ht k H3;go_wp2;go_ret;have E:Only b B ((B.setCell ⟨b,1,none⟩ (.slice v y.length x)).setCell ⟨b,3,none⟩ (.slice j rs.length C)):=((Only.refl b B).setCell _ _).setCell _ _;have O:g ∣ D.natAbs:=by rw[<-p.o];exact Nat.gcd_dvd_right _ _
    obtain⟨u,L⟩:=Qbq (P:=P) hD p.o;refine RatOk.of (Only.of_below (n.o.trans ((i.o.mono n.o.size).trans (r.o.mono (Nat.le_trans n.o.size i.o.size))))) ⟨rfl,E,v,x,y,j,C,rs,?_,?_,?_⟩
    .
     have:=(l.o.sb.set 1 (.slice v y.length x)).set 3 (.slice j rs.length C);have en:decide ((((mkRat P D.natAbs).den:Nat):Int)<0)=decide (D<0):=by
      apply decide_eq_decide.2;omega
     rw[u,Qbp P g f m,en]
     simpa using this
    . rw[u,Qbo P g f m]
      exact(HQ.o.below r.o).only E l.o.sb (Qab _ _ _ _ _ _ _ _)
    . rw[L,Int.natAbs_natCast]
      exact HS.o.only E l.o.sb (Qab _ _ _ _ _ _ _ _)
   .
    obtain⟨Z,og,rfl,aa,q⟩:=a.row.cell 0 (by simp);have q:V.cell? ⟨Z,og,none⟩=some (.int .u32 (dd:Int)):=by simpa using q
    have ak:((dd:Int) == 1)=false:=by rw[beq_eq_false_iff_ne];omega
    clear a t R;go_wp2_with fail;refine M.o.mono ?_;rintro e w2 ⟨⟨v,x,y,ar,cr,rr,rfl,N,hr⟩,c⟩;have z:=(H.o.below n.o).below c;have ab:=z.c3;obtain⟨HQ,i,A⟩:=Ib N c (Qas (some ⟨b',o',none⟩) _ c2 W ([d]) _ D.natAbs g w2 z.den (J.o.below c) f (by omega));clear N hr c z;go_wp2_with fail;refine A.o.mono ?_;rintro e B ⟨⟨j,C,rs,ad,ct,rt,rfl,hs,ht⟩,k⟩;have H3:=((H.o.below n.o).below i.o).below k;have f1:=H3.sb.free 1;have f3:=H3.sb.free 3;have ae:=H3.c1;have af:=H3.c3;obtain⟨HS,r,l⟩:=Ib hs k H3;clear hs ht k H3;go_wp2;go_ret;have E:Only b B ((B.setCell ⟨b,1,none⟩ (.slice v y.length x)).setCell ⟨b,3,none⟩ (.slice j rs.length C)):=((Only.refl b B).setCell _ _).setCell _ _;have O:g ∣ D.natAbs:=by rw[<-p.o];exact Nat.gcd_dvd_right _ _
    obtain⟨u,L⟩:=Qbq (P:=P) hD p.o;refine RatOk.of (Only.of_below (n.o.trans ((i.o.mono n.o.size).trans (r.o.mono (Nat.le_trans n.o.size i.o.size))))) ⟨rfl,E,v,x,y,j,C,rs,?_,?_,?_⟩
    .
     have:=(l.o.sb.set 1 (.slice v y.length x)).set 3 (.slice j rs.length C);have en:decide ((((mkRat P D.natAbs).den:Nat):Int)<0)=decide (D<0):=by
      apply decide_eq_decide.2;omega
     rw[u,Qbp P g f m,en]
     simpa using this
    . rw[u,Qbo P g f m]
      exact(HQ.o.below r.o).only E l.o.sb (Qab _ _ _ _ _ _ _ _)
    . rw[L,Int.natAbs_natCast]
      exact HS.o.only E l.o.sb (Qab _ _ _ _ _ _ _ _)
 .
  have U:((F.length:Int) == 1)=false:=by rw[beq_eq_false_iff_ne];omega
  obtain⟨H,HG⟩:=Ia h (Qdv Q (a2) c1 c2 G (F) P.natAbs D.natAbs w.drew h.num.drew h.den.drew (by omega) (by omega));have I:=h.sb.lt;clear h S;go_enter func117,ntmps117;go_wp2;go_region_held3 (fun w'=>w'.cell? ⟨b,1,none⟩=some (.slice Q G.length c1)/\w'.cell? ⟨b,3,none⟩=some (.slice (a2) (F.length) c2)) ((simp [*]))
   (first
     |(go_at_call 156;refine HG.o.mono ?_;rintro e V ⟨⟨ag,W,X,rfl,a⟩,s⟩;have d1:=ce s I k1;have d3:=ce s I k3;have HU:=Hi a;have n:=Hi ((Below.refl w.heap.size w).drew.trans s);clear a s))
  clear k0 k1 k2 k3 HG U;obtain⟨g,t⟩:=nm (Nat.gcd P.natAbs D.natAbs);have a:=HU.o;rw[t] at a;obtain⟨J,p⟩:=Ia a t;have f:0<g:=by rw[<-t];exact Nat.gcd_pos_of_pos_right _ (by omega)
  have R:=H.o.below n.o;have ah:X.length<=(F).length:=a.len_mono H.o.den (by rw[<-t];exact Nat.le_of_dvd (by omega) (Nat.gcd_dvd_right _ _));clear HU;by_cases K:g=1
  .
   subst K;have Y:X= [1]:=Qb2 a.num;subst Y;obtain⟨Z,og,rfl,aa,q⟩:=a.row.cell 0 (by simp);have q:V.cell? ⟨Z,og,none⟩=some (.int .u32 1):=by simpa using q
   clear a t R;go_wp2;go_ret;obtain⟨u,L⟩:=Qel (P:=P) hD p.o;refine RatOk.of (Only.of_below n.o) ⟨rfl,Only.refl _ _,Q,c1,G,a2,c2,F,?_⟩;rw[u,L];exact H.o.below n.o
  .
   have m:g ∣ P.natAbs:=by rw[<-t];exact Nat.gcd_dvd_left _ _
   have M:=Hi (Qas Q ag c1 W G X P.natAbs g V R.num a f (by omega));rcases Qem a.num K with ai|⟨dd,rfl,aj⟩
   .
    clear a t R;go_wp2_with fail;refine M.o.mono ?_;rintro e w2 ⟨⟨v,x,y,ar,cr,rr,rfl,N,hr⟩,c⟩;have z:=(H.o.below n.o).below c;have ab:=z.c3;obtain⟨HQ,i,A⟩:=Ib N c (Qas (a2) _ c2 W (F) _ D.natAbs g w2 z.den (J.o.below c) f (by omega));clear N hr c z;go_wp2_with fail;refine A.o.mono ?_;rintro e B ⟨⟨j,C,rs,ad,ct,rt,rfl,hs,ht⟩,k⟩;have H3:=((H.o.below n.o).below i.o).below k;have f1:=H3.sb.free 1;have f3:=H3.sb.free 3;have ae:=H3.c1;have af:=H3.c3;obtain⟨HS,r,l⟩:=Ib hs k H3;clear hs ht k H3;go_wp2;go_ret;have E:Only b B ((B.setCell ⟨b,1,none⟩ (.slice v y.length x)).setCell ⟨b,3,none⟩ (.slice j rs.length C)):=((Only.refl b B).setCell _ _).setCell _ _;have O:g ∣ D.natAbs:=by rw[<-p.o];exact Nat.gcd_dvd_right _ _
    obtain⟨u,L⟩:=Qbq (P:=P) hD p.o;refine RatOk.of (Only.of_below (n.o.trans ((i.o.mono n.o.size).trans (r.o.mono (Nat.le_trans n.o.size i.o.size))))) ⟨rfl,E,v,x,y,j,C,rs,?_,?_,?_⟩
    .
     have:=(l.o.sb.set 1 (.slice v y.length x)).set 3 (.slice j rs.length C);have en:decide ((((mkRat P D.natAbs).den:Nat):Int)<0)=decide (D<0):=by
      apply decide_eq_decide.2;omega
     rw[u,Qbp P g f m,en]
     simpa using this
    . rw[u,Qbo P g f m]
      exact(HQ.o.below r.o).only E l.o.sb (Qab _ _ _ _ _ _ _ _)
    . rw[L,Int.natAbs_natCast]
      exact HS.o.only E l.o.sb (Qab _ _ _ _ _ _ _ _)
   .
    obtain⟨Z,og,rfl,aa,q⟩:=a.row.cell 0 (by simp);have q:V.cell? ⟨Z,og,none⟩=some (.int .u32 (dd:Int)):=by simpa using q
    have ak:((dd:Int) == 1)=false:=by rw[beq_eq_false_iff_ne];omega
    clear a t R;go_wp2_with fail;refine M.o.mono ?_;rintro e w2 ⟨⟨v,x,y,ar,cr,rr,rfl,N,hr⟩,c⟩;have z:=(H.o.below n.o).below c;have ab:=z.c3;obtain⟨HQ,i,A⟩:=Ib N c (Qas (a2) _ c2 W (F) _ D.natAbs g w2 z.den (J.o.below c) f (by omega));clear N hr c z;go_wp2_with fail;refine A.o.mono ?_;rintro e B ⟨⟨j,C,rs,ad,ct,rt,rfl,hs,ht⟩,k⟩;have H3:=((H.o.below n.o).below i.o).below k;have f1:=H3.sb.free 1;have f3:=H3.sb.free 3;have ae:=H3.c1;have af:=H3.c3;obtain⟨HS,r,l⟩:=Ib hs k H3;clear hs ht k H3;go_wp2;go_ret;have E:Only b B ((B.setCell ⟨b,1,none⟩ (.slice v y.length x)).setCell ⟨b,3,none⟩ (.slice j rs.length C)):=((Only.refl b B).setCell _ _).setCell _ _;have O:g ∣ D.natAbs:=by rw[<-p.o];exact Nat.gcd_dvd_right _ _
    obtain⟨u,L⟩:=Qbq (P:=P) hD p.o;refine RatOk.of (Only.of_below (n.o.trans ((i.o.mono n.o.size).trans (r.o.mono (Nat.le_trans n.o.size i.o.size))))) ⟨rfl,E,v,x,y,j,C,rs,?_,?_,?_⟩
    .
     have:=(l.o.sb.set 1 (.slice v y.length x)).set 3 (.slice j rs.length C);have en:decide ((((mkRat P D.natAbs).den:Nat):Int)<0)=decide (D<0):=by
      apply decide_eq_decide.2;omega
     rw[u,Qbp P g f m,en]
     simpa using this
    . rw[u,Qbo P g f m]
      exact(HQ.o.below r.o).only E l.o.sb (Qab _ _ _ _ _ _ _ _)
    . rw[L,Int.natAbs_natCast]
      exact HS.o.only E l.o.sb (Qab _ _ _ _ _ _ _ _)
theorem Qtk(b:Nat)(P D:Int)(d f:Vx)(c1 c2:Nat)(a c:Vy)(w:Vz)(h:RatAt w b P D d c1 a f c2 c)(k:0<D)(g:a.length<1099511627770)(i:c.length<1099511627770):
 Calls prog 117 #[.pointer (some ⟨b,0,none⟩)] w (RatOk w b (mkRat P D.natAbs)):=by
 by_cases j:P=0
 .
  subst j;rw[Rat.zero_mkRat];exact Qth b D d f c1 c2 a c w h k
 by_cases l:D=1
 .
  subst l;have e:mkRat P (1:Int).natAbs=(P:Rat):=by
   apply Rat.ext
   . rw[Rat.num_mkRat];simp
   . rw[Rat.den_mkRat];simp
  rw[e];exact Qti b P d f c1 c2 a c w h j
 . exact Qtj b P D d f c1 c2 a c w h j k l g i
theorem Qcn(b:Nat)(J K L M:Value)(N O:Nat)(A:Int)(W:Vx)(c1:Nat)(G:Vy)(P Q:Nat)(B:Int)(X:Vx)(c2:Nat)(q:Vy)(w:Vz)
 (hs:SB w b 124 #[J,K,L,M]) (Y:NoInt #[J,K,L,M]) (R:IntAt w N O A W c1 G) (r:IntAt w P Q B X c2 q) (hB:0<B) (h1:G.length<1099511627770) (h2:q.length<1099511627770):
 Calls prog 68 #[.pointer (some ⟨b,0,none⟩),.pointer (some ⟨N,O,none⟩),.pointer (some ⟨P,Q,none⟩)] w (RatOk w b (mkRat A B.natAbs)):=by
 have k1:=r.abs;have q1:((q.length:Int) == 0)=false:=by
  rw[beq_eq_false_iff_ne];have:=(r.num.num.len_zero (by decide)).2;omega
 obtain⟨Z,HN,HA,s⟩:=Ic hs Y R r;have aa:=hs.lt;have ab:=R.lt;have ad:=r.lt;clear hs Y R r;go_enter func68,ntmps68;go_wp2_with fail;have k:Bl w (w.alloc (.cells #[.bool false,.slice none 0 0] 122)):=bR.alloc lZ _;refine(Qc5 w.heap.size 0 122 _ N O A W c1 G _ (SB.new w 122 _) Tryz.int_zero (by simp) (HA.o.below k) (by omega)).mono ?_;rintro e g ⟨rfl,t,u,n,H⟩;have l:Bl w g:=Only.fresh k H.only lZ;have ae:w.heap.size<g.heap.size:=by have:=H.only.size;simp at this;omega
 have f:Bl g (g.alloc (.cells #[.bool false,.slice none 0 0] 122)):=bR.alloc lZ _;obtain⟨S,HP,v,x⟩:=Ic (Qc5 g.heap.size 0 122 _ P Q B X c2 q _ (SB.new g 122 _) Tryz.int_zero (by simp) ((s.o.below l).below f) (by omega)) H l f;clear H l k f;go_wp2_with fail;refine S.o.mono ?_;rintro e h ⟨rfl,y,z,p,T⟩;have i:Bl g h:=Only.fresh x.o T.only lZ;have c:=(HP.o.at (by simp)).below i;have d:=T.at (by simp);have a:=((Z.o.below v.o Z.o.lt).below i (by omega));have p0:=c.neg;have p1:=c.abs;have r0:=d.neg;have r1:=d.abs;have z0:h.cell? ⟨b,0,none⟩=some J:=by rw[a.cell];rfl
 have z1:h.cell? ⟨b,1,none⟩=some K:=by rw[a.cell];rfl
 have z2:h.cell? ⟨b,2,none⟩=some L:=by rw[a.cell];rfl
 have z3:h.cell? ⟨b,3,none⟩=some M:=by rw[a.cell];rfl
 have f0:=a.free 0;have f1:=a.free 1;have f2:=a.free 2;have f3:=a.free 3;obtain⟨C,D,m,U⟩:=Ic c d a i;clear T c d a i;simp only[Nat.zero_add] at p1 r1;go_wp2_with fail;have I:Only b h ((((h.setCell ⟨b,0,none⟩ (.bool (decide (A<0)))).setCell ⟨b,1,none⟩ (.slice t n.length u)).setCell ⟨b,2,none⟩ (.bool (decide (B<0)))).setCell ⟨b,3,none⟩ (.slice y p.length z)):=
  ((((Only.refl b h).setCell _ _).setCell _ _).setCell _ _).setCell _ _
 have j:RatAt ((((h.setCell ⟨b,0,none⟩ (.bool (decide (A<0)))).setCell ⟨b,1,none⟩ (.slice t n.length u)).setCell ⟨b,2,none⟩ (.bool (decide (B<0)))).setCell ⟨b,3,none⟩ (.slice y p.length z)) b A B t u n y z p:=by
  refine⟨?_,C.o.num.only I m.o HN.o,D.o.num.only I m.o HN.o⟩;have:=(((m.o.set 0 (.bool (decide (A<0)))).set 1 (.slice t n.length u)).set 2 (.bool (decide (B<0)))).set 3 (.slice y p.length z)
  simpa using this
 have af:n.length<=G.length:=C.o.num.len_mono HA.o.num lZ;have ag:p.length<=q.length:=D.o.num.len_mono s.o.num lZ;refine(Qtk b A B t y u z n p _ j hB (by omega) (by omega)).mono ?_;rintro e w3 E;have F:RatOk w b (mkRat A B.natAbs) e w3:=RatOk.of ((Only.of_below (v.o.trans (U.o.mono (by omega)))).trans I) E;obtain⟨rfl,V,hr⟩:=F;clear E I j;go_wp2;go_ret;exact⟨rfl,V,hr⟩
structure Step (b:Nat) (w w':Vz):Prop where
 only:Only b w w'
 noint:∀(i:Nat) (k:IntKind) (n:Int),w.cell? ⟨b,i,none⟩≠some (Value.int k n)
theorem Step.of_only{b:Nat}{w w':Vz}{t:Vr}{C:Vw}(h:Only b w w')(hs:SB w b t C)(a:NoInt C):Step b w w':=⟨h,fun i k n=>by rw[hs.cell];exact a i k n⟩
theorem Step.of_below{w w':Vz}(h:Bl w w'):Step w.heap.size w w':=
 ⟨Only.of_below h,fun i k n e=>by have:=World.block_lt_of_cell? w _ e;simp at this⟩
theorem Step.alloc(w:Vz)(o:Obj):Step w.heap.size w (w.alloc o):=Step.of_below (bR.alloc lZ _)
theorem Step.drew(w:Vz):Step w.heap.size w w.drew:=Step.of_below bR.drew
theorem Step.size{b:Nat}{w w':Vz}(h:Step b w w'):w.heap.size<=w'.heap.size:=h.only.size
theorem SB.step{w w':Vz}{b c:Nat}{t:Vr}{C:Vw}(h:SB w b t C)(k:Step c w w')(a:b≠c):SB w' b t C:=h.only k.only a
theorem Row.step{k:IntKind}{w w':Vz}{a:Vx}{cap:Nat}{l:Vy}{b:Nat}(h:Row k w a cap l)(e:Step b w w'):Row k w' a cap l:=by
 refine⟨h.fit,?_,fun i n=>?_⟩
 .
  rcases h.shape with f|⟨d,c,rfl,j⟩
  . exact .inl f
  . exact .inr ⟨d,c,rfl,by have:=e.size;omega⟩
 .
  obtain⟨d,c,f,j,m⟩:=h.cell i n;have g:d≠b:=by
   rintro rfl;exact e.noint _ _ _ m
  exact⟨d,c,f,by have:=e.size;omega,(World.cell?_of_block (w:=w) (e.only.block d j g)).trans m⟩
theorem U32.step{w w':Vz}{a:Vx}{cap:Nat}{l:Vy}{n b:Nat}(h:U32 w a cap l n)(c:Step b w w'):U32 w' a cap l n:=⟨h.row.step c,h.num,h.short⟩
theorem IntAt.step{w w':Vz}{b o c:Nat}{z:Int}{a:Vx}{cap:Nat}{l:Vy}(h:IntAt w b o z a cap l)(e:Step c w w')(d:b≠c):IntAt w' b o z a cap l:=
 ⟨(World.cell?_of_block (w:=w) (a:=⟨b,o,none⟩) (e.only.block b h.lt d)).trans h.neg,(World.cell?_of_block (w:=w) (a:=⟨b,o+1,none⟩) (e.only.block b h.lt d)).trans h.abs,h.num.step e,by have:=h.lt;have:=e.size;omega⟩
theorem RatAt.step{w w':Vz}{b c:Nat}{P D:Int}{e f:Vx}{c1 c2:Nat}{g i:Vy}(h:RatAt w b P D e c1 g f c2 i)(a:Step c w w')(d:b≠c):RatAt w' b P D e c1 g f c2 i:=
 ⟨h.sb.step a d,h.num.step a,h.den.step a⟩
theorem SB.drew{w:Vz}{b:Nat}{t:Vr}{C:Vw}(h:SB w b t C):SB w.drew b t C:=h
theorem IntAt.alloc{w:Vz}{b o:Nat}{z:Int}{a:Vx}{cap:Nat}{l:Vy}(h:IntAt w b o z a cap l)(x:Obj):IntAt (w.alloc x) b o z a cap l:=h.below (bR.alloc lZ _)
def DenOk(w:Vz)(b:Nat)(d:Int)(e:Ending)(w':Vz):Prop:=
 (∃b' o a cap l,e=.returned (.pointer (some ⟨b',o,none⟩))/\IntAt w' b' o d a cap l/\(b'=b∨w.heap.size<=b'))/\Bl w w'
theorem Qkv(b:Nat)(P D d:Int)(m i:Vx)(c1 c2:Nat)(n c:Vy)(w:Vz)(h:RatAt w b P D m c1 n i c2 c)(j:D=d∨D=0/\d=1)(p:0<d):
 Calls prog 70 #[.pointer (some ⟨b,0,none⟩)] w (DenOk w b d):=by
 have u:=h.c3;by_cases k:D=0
 .
  have q:((c.length:Int) == 0)=true:=by
   have:=(h.den.num.len_zero (by decide)).1 (by omega);simp[this]
  have f:=Hi (show d=1 by omega);clear h j k;go_enter func70,ntmps70;go_wp2_with fail;refine(Qbk 1 _ (by decide) (by decide)).mono ?_;rintro e v ⟨⟨r,a,cap,l,rfl,g,hs,s⟩,t⟩;go_wp2;go_ret;refine⟨⟨r,0,a,cap,l,rfl,?_,.inr g⟩,t⟩;rw[f.o];exact⟨by rw[hs.cell];rfl,by rw[hs.cell];rfl,s,hs.lt⟩
 .
  have q:((c.length:Int) == 0)=false:=by
   rw[beq_eq_false_iff_ne];have:=(h.den.num.len_zero (by decide)).2;omega
  obtain⟨f,H⟩:=Ia (show D=d by omega) h;clear h j k;go_enter func70,ntmps70;go_wp2;go_ret;exact⟨⟨b,2,i,c2,c,rfl,by rw[<-f.o];exact H.o.lower,.inl rfl⟩,Below.refl _ _⟩
def zeroInt:Array Value:=#[.bool false,.slice none 0 0]
structure Thing where
 kind:Nat
 b:Nat
 o:Nat
 X:Int
 L:Nat
abbrev Thing.int(b o:Nat)(X:Int)(L:Nat):Thing:=⟨0,b,o,X,L⟩
abbrev Thing.rat(b:Nat)(d:Int)(L:Nat):Thing:=⟨1,b,0,d,L⟩
abbrev Thing.room(b:Nat):Thing:=⟨2,b,0,0,0⟩
def Thing.block:Thing->Nat
 |⟨_,b,_,_,_⟩=>b
def Thing.holds(w:Vz):Thing->Prop
 |⟨0,b,o,X,L⟩=>∃a cap l,IntAt w b o X a cap l/\l.length<=L
 |⟨1,b,_,d,L⟩=>∃P D a1 c1 l1 a2 c2 l2,RatAt w b P D a1 c1 l1 a2 c2 l2/\(D=d∨D=0/\d=1)/\0<d/\l2.length<=L
 |⟨_+2,b,_,_,_⟩=>∃s0 s1 s2 s3,SB w b 124 #[s0,s1,s2,s3]/\NoInt #[s0,s1,s2,s3]
theorem Thing.lt{w:Vz}{t:Thing}(h:t.holds w):t.block<w.heap.size:=by
 obtain⟨c,b,o,X,L⟩:=t
 match c,h with
 |0,h=>obtain⟨a,cap,l,h,_⟩:=h;exact h.lt
 |1,h=>obtain⟨P,D,d,c1,e,f,c2,g,h,_⟩:=h;exact h.sb.lt
 |n+2,h=>obtain⟨i,j,k,m,h,_⟩:=h;exact SB.lt h
theorem Thing.step{w w':Vz}{t:Thing}{c:Nat}(h:t.holds w)(k:Step c w w')(d:t.block≠c):t.holds w':=by
 obtain⟨e,b,o,X,L⟩:=t
 match e,h with
 |0,h=>obtain⟨a,cap,l,h,hl⟩:=h;exact⟨a,cap,l,h.step k d,hl⟩
 |1,h=>obtain⟨P,D,g,c1,i,j,c2,m,h,f⟩:=h;exact⟨P,D,g,c1,i,j,c2,m,h.step k d,f⟩
 |n+2,h=>obtain⟨p,q,r,s,h,f⟩:=h;exact⟨p,q,r,s,SB.step h k d,f⟩
structure Bag (w0 w:Vz) (Z:Vy) (L:List Thing):Prop where
 base:Bl w0 w
 zs:∀n,n∈ Z->w0.heap.size<=n/\SB w n 122 zeroInt
 ts:∀t,t∈ L->t.holds w/\t.block ∉ Z
theorem Bag.drew{w0 w:Vz}{Z:Vy}{L:List Thing}(h:Bag w0 w Z L):Bag w0 w.drew Z L:=
 ⟨h.base.drew,fun n b=>⟨(h.zs n b).1,(h.zs n b).2.drew⟩,fun t a=>⟨Thing.step (h.ts t a).1 (Step.drew w) (by have:=Thing.lt (h.ts t a).1;omega),(h.ts t a).2⟩⟩
theorem Bag.alloc{w0 w:Vz}{Z:Vy}{L:List Thing}(h:Bag w0 w Z L):Bag w0 (w.alloc (.cells #[.bool false,.slice none 0 0] 122)) (w.heap.size :: Z) L:=by
 refine⟨h.base.alloc h.base.size _,fun n a=>?_,fun t b=>⟨Thing.step (h.ts t b).1 (Step.alloc w _) (by have:=Thing.lt (h.ts t b).1;omega),?_⟩⟩
 .
  rcases List.mem_cons.1 a with rfl|a
  . exact⟨h.base.size,SB.new w _ _⟩
  . exact⟨(h.zs n a).1,(h.zs n a).2.alloc _⟩
 .
  intro c;rcases List.mem_cons.1 c with c|c
  . have:=Thing.lt (h.ts t b).1;omega
  . exact(h.ts t b).2 c
def less(Z:Vy)(n:Nat):List Nat:=Z.filter fun m=>decide (m≠n)
theorem mem_less{Z:Vy}{n m:Nat}:m∈ less Z n↔m∈ Z/\m≠n:=by simp[less]
theorem Bag.lay{w0 w w':Vz}{Z:Vy}{L:List Thing}{n K:Nat}{X:Int}{e:Ending}(h:Bag w0 w Z L)(d:n∈ Z)(k:LaidOk w n 0 122 zeroInt X e w')(j:∀a cap l,U32 w' a cap l X.natAbs->l.length<=K):
 e=.returned (.pointer (some ⟨n,0,none⟩))/\Bag w0 w' (less Z n) (.int n 0 X K :: L):=by
 obtain⟨rfl,a,cap,l,hl⟩:=k;have f:=h.zs n d;have g:Step n w w':=Step.of_only hl.only f.2 Tryz.int_zero;refine⟨rfl,h.base.trans (hl.only.below f.1 h.base.size),fun m o=>?_,fun t c=>?_⟩
 . obtain⟨i,p⟩:=mem_less.1 o
   exact⟨(h.zs m i).1,(h.zs m i).2.step g p⟩
 .
  rcases List.mem_cons.1 c with rfl|c
  . exact⟨⟨a,cap,l,hl.at (by simp[zeroInt]),j a cap l hl.num⟩,fun b=>(mem_less.1 b).2 rfl⟩
  . have:=h.ts t c
    exact⟨Thing.step this.1 g (fun b=>this.2 (b ▸ d)),fun b=>this.2 (mem_less.1 b).1⟩
theorem Bag.below{w0 w w':Vz}{Z:Vy}{L:List Thing}(h:Bag w0 w Z L)(k:Bl w w'):Bag w0 w' Z L:=by
 have c:=Step.of_below k;refine⟨h.base.trans (k.mono h.base.size),fun n a=>⟨(h.zs n a).1,(h.zs n a).2.below k (h.zs n a).2.lt⟩,fun t b=>⟨Thing.step (h.ts t b).1 c (by have:=Thing.lt (h.ts t b).1;omega),(h.ts t b).2⟩⟩
theorem Bag.put{w0 w:Vz}{Z:Vy}{L:List Thing}{t:Thing}(h:Bag w0 w Z L)(a:t.holds w)(b:t.block ∉ Z):Bag w0 w Z (t :: L):=
 ⟨h.base,h.zs,fun s hs=>by
   rcases List.mem_cons.1 hs with rfl|hs
   . exact⟨a,b⟩
   . exact h.ts s hs⟩
theorem U32.len_of{w f g:Vz}{a b c:Vx}{i j n:Nat}{l m r:Vy}{x y z:Nat}(h:U32 f a i l x)(k:U32 g b j m y)(o:U32 w c n r z)(s:z<=x*y∨z<=x+y):r.length<=l.length+m.length+1:=by
 apply o.num.length_le_of_lt (by decide);have d:=Qaa (B:=4294967296) (by decide) h.num.small;have e:=Qaa (B:=4294967296) (by decide) k.num.small;rw[h.num.eq] at d;rw[k.num.eq] at e;have t:x*y<4294967296 ^ (l.length+m.length):=by rw[Nat.pow_add];exact Nat.mul_lt_mul'' d e
 have u:4294967296 ^ l.length<=4294967296 ^ (l.length+m.length):=Nat.pow_le_pow_right (by decide) (by omega);have v:4294967296 ^ m.length<=4294967296 ^ (l.length+m.length):=Nat.pow_le_pow_right (by decide) (by omega);have q:4294967296 ^ (l.length+m.length+1)=4294967296 ^ (l.length+m.length)*4294967296:=Nat.pow_succ _ _;rw[q];generalize 4294967296 ^ (l.length+m.length)=p at*;omega
def LayOk(w0 w:Vz)(Z:Vy)(L:List Thing)(n:Nat)(X:Int)(K:Nat)(e:Ending)(w':Vz):Prop:=
 e=.returned (.pointer (some ⟨n,0,none⟩))/\Bag w0 w' (less Z n) (.int n 0 X K :: L)/\w.heap.size<=w'.heap.size/\n<w'.heap.size
theorem Bag.layOk{w0 w w':Vz}{Z:Vy}{L:List Thing}{n K:Nat}{X:Int}{e:Ending}(h:Bag w0 w Z L)(c:n∈ Z)(k:LaidOk w n 0 122 zeroInt X e w')(d:∀a cap l,U32 w' a cap l X.natAbs->l.length<=K):LayOk w0 w Z L n X K e w':=by
 have b:=h.lay c k d;refine⟨b.1,b.2,?_,?_⟩
 . obtain⟨_,a,cap,l,hl⟩:=k;exact hl.only.size
 . obtain⟨_,a,cap,l,hl⟩:=k;exact hl.sb.lt
theorem Bag.mul{w0 w:Vz}{Z:Vy}{L:List Thing}{n bx d f g i j:Nat}{X Y:Int}(h:Bag w0 w Z L)(c:n∈ Z)(s:.int bx d X i∈ L)(t:.int f g Y j∈ L)(hl:i+j<1099511627770):
 Calls prog 72 #[.pointer (some ⟨n,0,none⟩),.pointer (some ⟨bx,d,none⟩),.pointer (some ⟨f,g,none⟩)] w (LayOk w0 w Z L n (X*Y) (i+j+1)):=by
 obtain⟨⟨a,cap,l,p,v⟩,k⟩:=h.ts _ s;obtain⟨⟨b,cap',m,q,x⟩,o⟩:=h.ts _ t;refine(Qpm n 0 122 _ bx d X a cap l f g Y b cap' m w (h.zs n c).2 Tryz.int_zero (by simp[zeroInt]) p q (fun e=>k (e ▸ c)) (fun e=>o (e ▸ c)) (by omega)).mono ?_;intro e w' hk;refine h.layOk c hk fun y z r u=>?_
 have:=p.num.len_of q.num u (.inl (by rw[Int.natAbs_mul];exact Nat.le_refl _));omega
theorem Bag.add{w0 w:Vz}{Z:Vy}{L:List Thing}{n bx d f g i j:Nat}{X Y:Int}(h:Bag w0 w Z L)(c:n∈ Z)(s:.int bx d X i∈ L)(t:.int f g Y j∈ L)(hl:i+j<1099511627770):
 Calls prog 174 #[.pointer (some ⟨n,0,none⟩),.pointer (some ⟨bx,d,none⟩),.pointer (some ⟨f,g,none⟩)] w (LayOk w0 w Z L n (X+Y) (i+j+1)):=by
 obtain⟨⟨a,cap,l,p,v⟩,k⟩:=h.ts _ s;obtain⟨⟨b,cap',m,q,x⟩,o⟩:=h.ts _ t;refine(Qpk n 0 122 _ bx d X a cap l f g Y b cap' m w (h.zs n c).2 Tryz.int_zero (by simp[zeroInt]) p q (fun e=>k (e ▸ c)) (fun e=>o (e ▸ c)) (by omega)).mono ?_;intro e w' hk;refine h.layOk c hk fun y z r u=>?_
 have:=p.num.len_of q.num u (.inr (by omega));omega
theorem Bag.sub{w0 w:Vz}{Z:Vy}{L:List Thing}{n bx d f g i j:Nat}{X Y:Int}(h:Bag w0 w Z L)(c:n∈ Z)(s:.int bx d X i∈ L)(t:.int f g Y j∈ L)(hl:i+j<1099511627770):
 Calls prog 173 #[.pointer (some ⟨n,0,none⟩),.pointer (some ⟨bx,d,none⟩),.pointer (some ⟨f,g,none⟩)] w (LayOk w0 w Z L n (X - Y) (i+j+1)):=by
 obtain⟨⟨a,cap,l,p,v⟩,k⟩:=h.ts _ s;obtain⟨⟨b,cap',m,q,x⟩,o⟩:=h.ts _ t;refine(Qpl n 0 122 _ bx d X a cap l f g Y b cap' m w (h.zs n c).2 Tryz.int_zero (by simp[zeroInt]) p q (fun e=>k (e ▸ c)) (fun e=>o (e ▸ c)) (by omega)).mono ?_;intro e w' hk;refine h.layOk c hk fun y z r u=>?_
 have:=p.num.len_of q.num u (.inr (by omega));omega
theorem Bag.set{w0 w:Vz}{Z:Vy}{L:List Thing}{n bx b f:Nat}{X:Int}(h:Bag w0 w Z L)(c:n∈ Z)(i:.int bx b X f∈ L):
 Calls prog 116 #[.pointer (some ⟨n,0,none⟩),.pointer (some ⟨bx,b,none⟩)] w (LayOk w0 w Z L n X f):=by
 obtain⟨⟨a,cap,l,g,k⟩,d⟩:=h.ts _ i;refine(Qc5 n 0 122 _ bx b X a cap l w (h.zs n c).2 Tryz.int_zero (by simp[zeroInt]) g (fun e=>d (e ▸ c))).mono ?_;intro e w' hk;refine h.layOk c hk fun m o r j=>?_
 have:=j.len_mono g.num lZ;omega
def DenLeft(w0 w:Vz)(Z:Vy)(L:List Thing)(d:Int)(K:Nat)(e:Ending)(w':Vz):Prop:=
 ∃b o,e=.returned (.pointer (some ⟨b,o,none⟩))/\Bag w0 w' Z (.int b o d K :: L)/\w.heap.size<=w'.heap.size
theorem Bag.den{w0 w:Vz}{Z:Vy}{L:List Thing}{b K:Nat}{d:Int}(h:Bag w0 w Z L)(q:.rat b d K∈ L):
 Calls prog 70 #[.pointer (some ⟨b,0,none⟩)] w (DenLeft w0 w Z L d (K+1)):=by
 obtain⟨⟨P,D,r,c1,s,t,c2,u,k,c,g,hl⟩,i⟩:=h.ts _ q;refine(Qkv b P D d r t c1 c2 s u w k c g).mono ?_;rintro e w' ⟨⟨j,o,a,cap,l,rfl,m,n⟩,f⟩;refine⟨j,o,rfl,(h.below f).put ⟨a,cap,l,m,?_⟩ ?_,f.size⟩
 .
  have:=m.num;rcases c with c|⟨_,c⟩
  .
   subst c;have:=this.len_mono k.den lZ;omega
  .
   subst c;have:=Qb2 this.num;rw[this];simp
 .
  intro p
  show False
  rcases n with rfl|n
  . exact i p
  .
   have:=(h.zs _ p).2.lt;have e:Thing.block (.int j o d (K+1))=j:=rfl;rw[e] at this;omega
theorem Bag.setFrac{w0 w:Vz}{Z:Vy}{L:List Thing}{c d f g i n o:Nat}{A B:Int}(h:Bag w0 w Z L)(p:.room c∈ L)(j:.int d f A n∈ L)(k:.int g i B o∈ L)(hB:0<B)(v:n<1099511627770)(x:o<1099511627770):
 Calls prog 68 #[.pointer (some ⟨c,0,none⟩),.pointer (some ⟨d,f,none⟩),.pointer (some ⟨g,i,none⟩)] w (RatOk w0 c (mkRat A B.natAbs)):=by
 obtain⟨⟨q,r,s,t,hs,u⟩,_⟩:=h.ts _ p;obtain⟨⟨a,cap,l,j,y⟩,_⟩:=h.ts _ j;obtain⟨⟨b,cap',m,k,z⟩,_⟩:=h.ts _ k;refine(Qcn c q r s t d f A a cap l g i B b cap' m w hs u j k hB (by omega) (by omega)).mono ?_;intro e w' hk;exact RatOk.of (Only.of_below h.base) hk
def RatVal(w:Vz)(b:Nat)(q:Rat):Prop:=∃D a1 c1 l1 a2 c2 l2,RatAt w b q.num D a1 c1 l1 a2 c2 l2/\(D=(q.den:Int)∨D=0/\(q.den:Int)=1)
def Fits(q:Rat)(k:Nat):Prop:=q.num.natAbs<2 ^ k/\q.den<2 ^ k
theorem Qat(q:Rat):(0:Int)<(q.den:Int):=by have:=q.den_pos;omega
theorem RatVal.below{w w':Vz}{b:Nat}{q:Rat}(h:RatVal w b q)(a:Bl w w'):RatVal w' b q:=by
 obtain⟨D,c,c1,d,e,c2,f,h,g⟩:=h;exact⟨D,c,c1,d,e,c2,f,h.below a,g⟩
theorem RatVal.room{w:Vz}{b:Nat}{q:Rat}(h:RatVal w b q):(Thing.room b).holds w:=by
 obtain⟨D,a,c1,c,d,c2,e,h,f⟩:=h;exact⟨_,_,_,_,h.sb,Qab _ _ _ _ _ _ _ _⟩
theorem RatOk.val{w w':Vz}{b:Nat}{q:Rat}{e:Ending}(h:RatOk w b q e w'):RatVal w' b q:=by
 obtain⟨_,_,a,c1,c,d,c2,f,h⟩:=h;exact⟨_,a,c1,c,d,c2,f,h,.inl rfl⟩
theorem U32.len_bits{w:Vz}{a:Vx}{c:Nat}{l:Vy}{n k:Nat}(h:U32 w a c l n)(b:n<2 ^ k):l.length<=k:=by
 apply h.num.length_le_of_lt (by decide);refine Nat.lt_of_lt_of_le b ?_;exact Nat.pow_le_pow_left (by decide) k
theorem RatVal.int{w:Vz}{b:Nat}{q:Rat}{k:Nat}(h:RatVal w b q)(hk:Fits q k):(Thing.int b 0 q.num k).holds w:=by
 obtain⟨D,a,c1,c,d,c2,e,h,f⟩:=h;exact⟨a,c1,c,h.upper,h.num.len_bits hk.1⟩
theorem RatVal.rat{w:Vz}{b:Nat}{q:Rat}{k:Nat}(h:RatVal w b q)(hk:Fits q k):(Thing.rat b q.den k).holds w:=by
 obtain⟨D,c,c1,d,e,c2,f,h,a⟩:=h;refine⟨_,D,c,c1,d,e,c2,f,h,a,Qat q,h.den.len_bits ?_⟩;rcases a with a|⟨a,_⟩
 . rw[a];exact hk.2
 . rw[a];exact Nat.two_pow_pos k
theorem Bag.two{w:Vz}{bx a b j k:Nat}{p q:Rat}(c:RatVal w bx p)(d:RatVal w a q)(h:(Thing.room b).holds w)(e:Fits p j)(f:Fits q k):
 Bag w w [] [.int bx 0 p.num j,.rat bx p.den j,.int a 0 q.num k,.rat a q.den k,.room b]:=by
 refine⟨Below.refl _ _,fun n i=>(by cases i),fun t g=>⟨?_,List.not_mem_nil⟩⟩;simp only[List.mem_cons,List.not_mem_nil,or_false] at g;rcases g with rfl|rfl|rfl|rfl|rfl
 . exact c.int e
 . exact c.rat e
 . exact d.int f
 . exact d.rat f
 . exact h
theorem Bag.one{w:Vz}{bx a j:Nat}{p:Rat}(b:RatVal w bx p)(e:(Thing.room a).holds w)(c:Fits p j):
 Bag w w [] [.int bx 0 p.num j,.rat bx p.den j,.room a]:=by
 refine⟨Below.refl _ _,fun n f=>(by cases f),fun t d=>⟨?_,List.not_mem_nil⟩⟩;simp only[List.mem_cons,List.not_mem_nil,or_false] at d;rcases d with rfl|rfl|rfl
 . exact b.int c
 . exact b.rat c
 . exact e
theorem Qgq(p q:Rat):mkRat (p.num*q.num) ((p.den:Int)*(q.den:Int)).natAbs=p*q:=by
 rw[Int.natAbs_mul,Int.natAbs_natCast,Int.natAbs_natCast,<-Rat.mkRat_mul_mkRat,Rat.mkRat_self,Rat.mkRat_self]
theorem Qej(p q:Rat):mkRat (p.num*(q.den:Int)+q.num*(p.den:Int)) ((p.den:Int)*(q.den:Int)).natAbs=p+q:=by
 rw[Int.natAbs_mul,Int.natAbs_natCast,Int.natAbs_natCast,<-Rat.mkRat_add_mkRat _ _ p.den_nz q.den_nz,Rat.mkRat_self,Rat.mkRat_self]
theorem Qs3(p q:Rat):mkRat (p.num*(q.den:Int) - q.num*(p.den:Int)) ((p.den:Int)*(q.den:Int)).natAbs=p - q:=by
 have:=Qej p (-q);rw[Rat.neg_num,Rat.neg_den,Int.neg_mul,<-Int.sub_eq_add_neg] at this;rw[this,Rat.sub_eq_add_neg]
theorem Qgr(p q:Rat)(a:0<q.num):mkRat (p.num*(q.den:Int)) ((p.den:Int)*q.num).natAbs=p / q:=by
 have h:q⁻¹=mkRat q.den q.num.natAbs:=by
  rw[Rat.inv_def,<-Rat.divInt_ofNat]
  congr 1
  omega
 rw[Rat.div_def,h,Int.natAbs_mul,Int.natAbs_natCast,<-Rat.mkRat_mul_mkRat,Rat.mkRat_self]
theorem size_drew(w:Vz):w.drew.heap.size=w.heap.size:=rfl
theorem Qs8(i bx n j k:Nat)(p q:Rat)(w:Vz)(r:(Thing.room i).holds w)(s:RatVal w bx p)(t:RatVal w n q)(u:Fits p j)(v:Fits q k)(B:j+k<274877906000):
 Calls prog 141 #[.pointer (some ⟨i,0,none⟩),.pointer (some ⟨bx,0,none⟩),.pointer (some ⟨n,0,none⟩)] w (RatOk w i (p*q)):=by
 have d:=Qat p;have f:=Qat q;obtain⟨g,y,b⟩:=Ib (Int.mul_pos d f) (Qgq p q) (Bag.two s t r u v);clear s t r u v d f;go_enter func141,ntmps141;go_wp2;go_region_held3 (fun _=>True) (trivial) (first
  |
   (go_at_call 72
    apply cM;apply Bag.mul (w0:=w);(focus(repeat(first|exact b.o|apply Bag.alloc|apply Bag.drew)));(focus(simp only[mem_less,List.mem_cons,List.not_mem_nil,or_false,size_drew,World.size_alloc,true_or,or_true,true_and,and_true]<;>omega));(focus(repeat(first|exact mH|apply mT)));(focus(repeat(first|exact mH|apply mT)));omega;rintro e x ⟨rfl,a,c,l⟩;clear b;have b:=Hi a;clear a
    (try simp only[size_drew,World.size_alloc] at c))
  |
   (go_at_call 70
    apply cM;apply Bag.den (w0:=w);(focus(repeat(first|exact b.o|apply Bag.alloc|apply Bag.drew)));(focus(repeat(first|exact mH|apply mT)));rintro e x ⟨C,D,rfl,a,c⟩;clear b;have b:=Hi a;clear a
    (try simp only[size_drew,World.size_alloc] at c))
  |
   (go_at_call 72
    apply cM;apply Bag.mul (w0:=w);(focus(repeat(first|exact b.o|apply Bag.alloc|apply Bag.drew)));(focus(simp only[mem_less,List.mem_cons,List.not_mem_nil,or_false,size_drew,World.size_alloc,true_or,or_true,true_and,and_true]<;>omega));(focus(repeat(first|exact mH|apply mT)));(focus(repeat(first|exact mH|apply mT)));omega;rintro e x ⟨rfl,a,c,l⟩;clear b;have b:=Hi a;clear a
    (try simp only[size_drew,World.size_alloc] at c))
  |
   (go_at_call 68
    apply cM;apply Bag.setFrac (w0:=w);(focus(repeat(first|exact b.o|apply Bag.alloc|apply Bag.drew)));(focus(repeat(first|exact mH|apply mT)));(focus(repeat(first|exact mH|apply mT)));(focus(repeat(first|exact mH|apply mT)));exact g.o;omega;omega;rintro e E h;have z:=Hi h;obtain⟨rfl,m,A⟩:=h
    clear b m A)
  )
 all_goals
  go_wp2;go_ret;rw[<-y.o];exact z.o
theorem Qs9(i bx r j k:Nat)(p q:Rat)(w:Vz)(s:(Thing.room i).holds w)(t:RatVal w bx p)(u:RatVal w r q)(v:Fits p j)(x:Fits q k)(C:j+k<274877906000)(d:0<q.num):
 Calls prog 139 #[.pointer (some ⟨i,0,none⟩),.pointer (some ⟨bx,0,none⟩),.pointer (some ⟨r,0,none⟩)] w (RatOk w i (p / q)):=by
 have f:=Qat p;have l:=Qat q;obtain⟨g,z,b⟩:=Ib (Int.mul_pos f d) (Qgr p q d) (Bag.two t u s v x);clear t u s v x f l;go_enter func139,ntmps139;go_wp2;go_region_held3 (fun _=>True) (trivial) (first
  |
   (go_at_call 72
    apply cM;apply Bag.mul (w0:=w);(focus(repeat(first|exact b.o|apply Bag.alloc|apply Bag.drew)));(focus(simp only[mem_less,List.mem_cons,List.not_mem_nil,or_false,size_drew,World.size_alloc,true_or,or_true,true_and,and_true]<;>omega));(focus(repeat(first|exact mH|apply mT)));(focus(repeat(first|exact mH|apply mT)));omega;rintro e y ⟨rfl,a,c,m⟩;clear b;have b:=Hi a;clear a
    (try simp only[size_drew,World.size_alloc] at c))
  |
   (go_at_call 70
    apply cM;apply Bag.den (w0:=w);(focus(repeat(first|exact b.o|apply Bag.alloc|apply Bag.drew)));(focus(repeat(first|exact mH|apply mT)));rintro e y ⟨D,E,rfl,a,c⟩;clear b;have b:=Hi a;clear a
    (try simp only[size_drew,World.size_alloc] at c))
  |
   (go_at_call 72
    apply cM;apply Bag.mul (w0:=w);(focus(repeat(first|exact b.o|apply Bag.alloc|apply Bag.drew)));(focus(simp only[mem_less,List.mem_cons,List.not_mem_nil,or_false,size_drew,World.size_alloc,true_or,or_true,true_and,and_true]<;>omega));(focus(repeat(first|exact mH|apply mT)));(focus(repeat(first|exact mH|apply mT)));omega;rintro e y ⟨rfl,a,c,m⟩;clear b;have b:=Hi a;clear a
    (try simp only[size_drew,World.size_alloc] at c))
  |
   (go_at_call 68
    apply cM;apply Bag.setFrac (w0:=w);(focus(repeat(first|exact b.o|apply Bag.alloc|apply Bag.drew)));(focus(repeat(first|exact mH|apply mT)));(focus(repeat(first|exact mH|apply mT)));(focus(repeat(first|exact mH|apply mT)));exact g.o;omega;omega;rintro e F h;have A:=Hi h;obtain⟨rfl,n,B⟩:=h
    clear b n B)
  )
 all_goals
  go_wp2;go_ret;rw[<-z.o];exact A.o
theorem Qs1(n bx s j k:Nat)(p q:Rat)(w:Vz)(t:(Thing.room n).holds w)(u:RatVal w bx p)(v:RatVal w s q)(x:Fits p j)(y:Fits q k)(E:j+k<274877906000):
 Calls prog 143 #[.pointer (some ⟨n,0,none⟩),.pointer (some ⟨bx,0,none⟩),.pointer (some ⟨s,0,none⟩)] w (RatOk w n (p+q)):=by
 have h:=Qat p;have i:=Qat q;obtain⟨f,A,b⟩:=Ib (Int.mul_pos h i) (Qej p q) (Bag.two u v t x y);clear u v t x y h i;go_enter func143,ntmps143;go_wp2;go_region_held3 (fun _=>True) (trivial) (first
  |
   (go_at_call 72
    apply cM;apply Bag.mul (w0:=w);(focus(repeat(first|exact b.o|apply Bag.alloc|apply Bag.drew)));(focus(simp only[mem_less,List.mem_cons,List.not_mem_nil,or_false,size_drew,World.size_alloc,true_or,or_true,true_and,and_true]<;>omega));(focus(repeat(first|exact mH|apply mT)));(focus(repeat(first|exact mH|apply mT)));omega;rintro e m ⟨rfl,a,c,l⟩;clear b;have b:=Hi a;clear a
    (try simp only[size_drew,World.size_alloc] at c))
  |
   (go_at_call 70
    apply cM;apply Bag.den (w0:=w);(focus(repeat(first|exact b.o|apply Bag.alloc|apply Bag.drew)));(focus(repeat(first|exact mH|apply mT)));rintro e m ⟨B,C,rfl,a,c⟩;clear b;have b:=Hi a;clear a
    (try simp only[size_drew,World.size_alloc] at c))
  |
   (go_at_call 174
    apply cM;apply Bag.add (w0:=w);(focus(repeat(first|exact b.o|apply Bag.alloc|apply Bag.drew)));(focus(simp only[mem_less,List.mem_cons,List.not_mem_nil,or_false,size_drew,World.size_alloc,true_or,or_true,true_and,and_true]<;>omega));(focus(repeat(first|exact mH|apply mT)));(focus(repeat(first|exact mH|apply mT)));omega;rintro e m ⟨rfl,a,c,l⟩;clear b;have b:=Hi a;clear a
    (try simp only[size_drew,World.size_alloc] at c))
  |
   (go_at_call 68
    apply cM;apply Bag.setFrac (w0:=w);(focus(repeat(first|exact b.o|apply Bag.alloc|apply Bag.drew)));(focus(repeat(first|exact mH|apply mT)));(focus(repeat(first|exact mH|apply mT)));(focus(repeat(first|exact mH|apply mT)));exact f.o;omega;omega;rintro e D d;have z:=Hi d;obtain⟨rfl,g,r⟩:=d
    clear b g r)
  )
 all_goals
  go_wp2_with (first
   |
    (go_at_call 70
     apply cM;apply Bag.den (w0:=w);(focus(repeat(first|exact b.o|apply Bag.alloc|apply Bag.drew)));(focus(repeat(first|exact mH|apply mT)));rintro e m ⟨B,C,rfl,a,c⟩;clear b;have b:=Hi a;clear a
     (try simp only[size_drew,World.size_alloc] at c))
   |
    (go_at_call 72
     apply cM;apply Bag.mul (w0:=w);(focus(repeat(first|exact b.o|apply Bag.alloc|apply Bag.drew)));(focus(simp only[mem_less,List.mem_cons,List.not_mem_nil,or_false,size_drew,World.size_alloc,true_or,or_true,true_and,and_true]<;>omega));(focus(repeat(first|exact mH|apply mT)));(focus(repeat(first|exact mH|apply mT)));omega;rintro e m ⟨rfl,a,c,l⟩;clear b;have b:=Hi a;clear a
     (try simp only[size_drew,World.size_alloc] at c))
   |
    (go_at_call 68
     apply cM;apply Bag.setFrac (w0:=w);(focus(repeat(first|exact b.o|apply Bag.alloc|apply Bag.drew)));(focus(repeat(first|exact mH|apply mT)));(focus(repeat(first|exact mH|apply mT)));(focus(repeat(first|exact mH|apply mT)));exact f.o;omega;omega;rintro e D d;have z:=Hi d;obtain⟨rfl,g,r⟩:=d
     clear b g r)
   )
  go_ret;rw[<-A.o];exact z.o
theorem Qs2(n bx s j k:Nat)(p q:Rat)(w:Vz)(t:(Thing.room n).holds w)(u:RatVal w bx p)(v:RatVal w s q)(x:Fits p j)(y:Fits q k)(E:j+k<274877906000):
 Calls prog 140 #[.pointer (some ⟨n,0,none⟩),.pointer (some ⟨bx,0,none⟩),.pointer (some ⟨s,0,none⟩)] w (RatOk w n (p - q)):=by
 have h:=Qat p;have i:=Qat q;obtain⟨f,A,b⟩:=Ib (Int.mul_pos h i) (Qs3 p q) (Bag.two u v t x y);clear u v t x y h i;go_enter func140,ntmps140;go_wp2;go_region_held3 (fun _=>True) (trivial) (first
  |
   (go_at_call 72
    apply cM;apply Bag.mul (w0:=w);(focus(repeat(first|exact b.o|apply Bag.alloc|apply Bag.drew)));(focus(simp only[mem_less,List.mem_cons,List.not_mem_nil,or_false,size_drew,World.size_alloc,true_or,or_true,true_and,and_true]<;>omega));(focus(repeat(first|exact mH|apply mT)));(focus(repeat(first|exact mH|apply mT)));omega;rintro e m ⟨rfl,a,c,l⟩;clear b;have b:=Hi a;clear a
    (try simp only[size_drew,World.size_alloc] at c))
  |
   (go_at_call 70
    apply cM;apply Bag.den (w0:=w);(focus(repeat(first|exact b.o|apply Bag.alloc|apply Bag.drew)));(focus(repeat(first|exact mH|apply mT)));rintro e m ⟨B,C,rfl,a,c⟩;clear b;have b:=Hi a;clear a
    (try simp only[size_drew,World.size_alloc] at c))
  |
   (go_at_call 173
    apply cM;apply Bag.sub (w0:=w);(focus(repeat(first|exact b.o|apply Bag.alloc|apply Bag.drew)));(focus(simp only[mem_less,List.mem_cons,List.not_mem_nil,or_false,size_drew,World.size_alloc,true_or,or_true,true_and,and_true]<;>omega));(focus(repeat(first|exact mH|apply mT)));(focus(repeat(first|exact mH|apply mT)));omega;rintro e m ⟨rfl,a,c,l⟩;clear b;have b:=Hi a;clear a
    (try simp only[size_drew,World.size_alloc] at c))
  |
   (go_at_call 68
    apply cM;apply Bag.setFrac (w0:=w);(focus(repeat(first|exact b.o|apply Bag.alloc|apply Bag.drew)));(focus(repeat(first|exact mH|apply mT)));(focus(repeat(first|exact mH|apply mT)));(focus(repeat(first|exact mH|apply mT)));exact f.o;omega;omega;rintro e D d;have z:=Hi d;obtain⟨rfl,g,r⟩:=d
    clear b g r)
  )
 all_goals
  go_wp2_with (first
   |
    (go_at_call 70
     apply cM;apply Bag.den (w0:=w);(focus(repeat(first|exact b.o|apply Bag.alloc|apply Bag.drew)));(focus(repeat(first|exact mH|apply mT)));rintro e m ⟨B,C,rfl,a,c⟩;clear b;have b:=Hi a;clear a
     (try simp only[size_drew,World.size_alloc] at c))
   |
    (go_at_call 72
     apply cM;apply Bag.mul (w0:=w);(focus(repeat(first|exact b.o|apply Bag.alloc|apply Bag.drew)));(focus(simp only[mem_less,List.mem_cons,List.not_mem_nil,or_false,size_drew,World.size_alloc,true_or,or_true,true_and,and_true]<;>omega));(focus(repeat(first|exact mH|apply mT)));(focus(repeat(first|exact mH|apply mT)));omega;rintro e m ⟨rfl,a,c,l⟩;clear b;have b:=Hi a;clear a
     (try simp only[size_drew,World.size_alloc] at c))
   |
    (go_at_call 68
     apply cM;apply Bag.setFrac (w0:=w);(focus(repeat(first|exact b.o|apply Bag.alloc|apply Bag.drew)));(focus(repeat(first|exact mH|apply mT)));(focus(repeat(first|exact mH|apply mT)));(focus(repeat(first|exact mH|apply mT)));exact f.o;omega;omega;rintro e D d;have z:=Hi d;obtain⟨rfl,g,r⟩:=d
     clear b g r)
   )
  go_ret;rw[<-A.o];exact z.o
def sgn3(X:Int):Int:=if X<0 then -1 else if X=0 then 0 else 1
def cmpZ(X Y:Int):Int:=if X<Y then -1 else if X=Y then 0 else 1
theorem Qtl(b o:Nat)(X:Int)(a:Vx)(cap:Nat)(l:Vy)(w:Vz)(c:IntAt w b o X a cap l):
 Calls prog 73 #[.pointer (some ⟨b,o,none⟩)] w fun e w'=>e=.returned (.int .i64 (sgn3 X))/\w'=w:=by
 have h:=c.neg;have i:=c.abs;by_cases f:X=0
 .
  have q:((l.length:Int) == 0)=true:=by
   have:=(c.num.num.len_zero (by decide)).1 (by omega);simp[this]
  have g:=Hi (show sgn3 X=0 by unfold sgn3;rw[if_neg (by omega),if_pos f]);clear c f;go_enter func73,ntmps73;go_wp2;go_ret;exact⟨by rw[g.o];rfl,rfl⟩
 .
  have q:((l.length:Int) == 0)=false:=by
   rw[beq_eq_false_iff_ne];have:=(c.num.num.len_zero (by decide)).2;omega
  by_cases d:X<0
  .
   have g:=Hi (show sgn3 X= -1 by unfold sgn3;rw[if_pos d]);rw[show decide (X<0)=true by simpa using d] at h;clear c f d;go_enter func73,ntmps73;go_wp2;go_ret;exact⟨by rw[g.o];rfl,rfl⟩
  .
   have g:=Hi (show sgn3 X=1 by unfold sgn3;rw[if_neg d,if_neg f]);rw[show decide (X<0)=false by simpa using d] at h;clear c f d;go_enter func73,ntmps73;go_wp2;go_ret;exact⟨by rw[g.o];rfl,rfl⟩
theorem Qtm(b:Nat)(q:Rat)(w:Vz)(a:RatVal w b q):
 Calls prog 35 #[.pointer (some ⟨b,0,none⟩)] w fun e w'=>e=.returned (.int .i64 (sgn3 q.num))/\w'=w:=by
 obtain⟨D,c,c1,d,g,c2,i,h,f⟩:=a;have H:=Hi h.upper;clear h f;go_enter func35,ntmps35;go_wp2_with fail;refine(Qtl b 0 q.num c c1 d _ H.o).mono ?_;rintro e j ⟨rfl,rfl⟩;go_wp2;go_ret;exact⟨rfl,rfl⟩
theorem Qks(b:Nat)(w:Vz):
 Calls prog 96 #[.pointer (some ⟨b,0,none⟩)] w fun e w'=>e=.returned (.pointer (some ⟨b,0,none⟩))/\w'=w:=by
 go_enter func96,ntmps96;go_wp2;go_ret;exact⟨rfl,rfl⟩
theorem Qtn(X Y:Int)(a:X<0)(b:Y<0):cmpZ X Y= -(cmp3 X.natAbs Y.natAbs):=by
 have c:X.natAbs<Y.natAbs↔Y<X:=by omega
 have d:X.natAbs=Y.natAbs↔X=Y:=by omega
 unfold cmpZ cmp3;rcases Int.lt_trichotomy X Y with h|h|h
 . rw[if_pos h,if_neg (by omega),if_neg (by omega)]
 . rw[if_neg (by omega),if_pos h,if_neg (by omega),if_pos (by omega)];rfl
 . rw[if_neg (by omega),if_neg (by omega),if_pos (by omega)];rfl
theorem Qto(X Y:Int)(a:0<=X)(b:0<=Y):cmpZ X Y=cmp3 X.natAbs Y.natAbs:=by
 unfold cmpZ cmp3;rcases Int.lt_trichotomy X Y with h|h|h
 . rw[if_pos h,if_pos (by omega)]
 . rw[if_neg (by omega),if_pos h,if_neg (by omega),if_pos (by omega)]
 . rw[if_neg (by omega),if_neg (by omega),if_neg (by omega),if_neg (by omega)]
theorem Qtp(z:Int)(a: -1<=z)(b:z<=1):wrap64 z=z:=by unfold wrap64;omega
theorem neg3(x y:Nat):Ending.returned (.int .i64 (wrap64 (-cmp3 x y)))=Ending.returned (.int .i64 (-cmp3 x y)):=by
 have h:=Qop x y;rw[Qtp _ (by omega) (by omega)]
theorem Qkt(bx p:Nat)(X:Int)(a:Vx)(cap:Nat)(l:Vy)(q r:Nat)(Y:Int)(b:Vx)(cap':Nat)(m:Vy)(w:Vz)(k:IntAt w bx p X a cap l)(n:IntAt w q r Y b cap' m):
 Calls prog 71 #[.pointer (some ⟨bx,p,none⟩),.pointer (some ⟨q,r,none⟩)] w fun e w'=>e=.returned (.int .i64 (cmpZ X Y))/\Bl w w':=by
 have j:=k.neg;have u:=k.abs;have s:=n.neg;have v:=n.abs;have f:=k.lt;have h:=n.lt;obtain⟨x,y⟩:=Ia k.num n.num;clear k n;by_cases c:decide (X<0)=decide (Y<0)
 .
  by_cases g:X<0
  .
   rw[show decide (X<0)=true by simpa using g] at j;rw[show decide (Y<0)=true by simp at c ⊢;omega] at s;have i:=Hi (Qtn X Y (by omega) (by simp at c;omega));clear c g;go_enter func71,ntmps71;go_wp2_with fail;go_region;go_wp2_with fail;go_region_held3 (fun w'=>w'.cell? ⟨bx,p+1,none⟩=some (.slice a l.length cap)/\w'.cell? ⟨q,r+1,none⟩=some (.slice b m.length cap')) ((simp [*])) (first|(go_at_call 120;refine(Qbe a b cap cap' l m X.natAbs Y.natAbs _ ?_ ?_).mono ?_;exact x.o.below ((bR.drew).drew);exact y.o.below ((bR.drew).drew);rintro e z ⟨rfl,d⟩;have t:=Hi (((Below.refl w.heap.size w).drew.drew).trans d);have d0:=ce d f j;have d1:=ce d f u;have d2:=ce d h v;clear d));go_wp2;go_ret;exact⟨by rw[i.o];exact neg3 _ _,t.o⟩
  .
   rw[show decide (X<0)=false by simpa using g] at j;rw[show decide (Y<0)=false by simp at c ⊢;omega] at s;have i:=Hi (Qto X Y (by omega) (by simp at c;omega));clear c g;go_enter func71,ntmps71;go_wp2_with fail;go_region;go_wp2_with fail;go_region_held3 (fun w'=>w'.cell? ⟨bx,p+1,none⟩=some (.slice a l.length cap)/\w'.cell? ⟨q,r+1,none⟩=some (.slice b m.length cap')) ((simp [*])) (first|(go_at_call 120;refine(Qbe a b cap cap' l m X.natAbs Y.natAbs _ ?_ ?_).mono ?_;exact x.o.below ((bR.drew).drew);exact y.o.below ((bR.drew).drew);rintro e z ⟨rfl,d⟩;have t:=Hi (((Below.refl w.heap.size w).drew.drew).trans d);have d0:=ce d f j;have d1:=ce d f u;have d2:=ce d h v;clear d));go_wp2;go_ret;exact⟨by rw[i.o];rfl,t.o⟩
 .
  by_cases g:X<0
  .
   rw[show decide (X<0)=true by simpa using g] at j;rw[show decide (Y<0)=false by simp at c ⊢;omega] at s;have i:=Hi (show cmpZ X Y= -1 by unfold cmpZ;rw[if_pos (by simp at c;omega)]);clear c g;go_enter func71,ntmps71;go_wp2_with fail;go_region;go_wp2;go_ret;exact⟨by rw[i.o];rfl,bR.drew⟩
  .
   rw[show decide (X<0)=false by simpa using g] at j;rw[show decide (Y<0)=true by simp at c ⊢;omega] at s;have i:=Hi (show cmpZ X Y=1 by unfold cmpZ;rw[if_neg (by simp at c;omega),if_neg (by simp at c;omega)]);clear c g;go_enter func71,ntmps71;go_wp2_with fail;go_region;go_wp2;go_ret;exact⟨by rw[i.o];rfl,bR.drew⟩
theorem Qtq(X:Int): -X=if (!decide (X<0))=true then -(X.natAbs:Int) else (X.natAbs:Int):=by
 by_cases h:X<0
 . simp[h];omega
 . simp[h];omega
theorem Qgs(c d:Nat)(t:Vr)(C:Vw)(X:Int)(a:Vx)(cap:Nat)(l:Vy)(w:Vz)(hs:SB w c t C)(m:NoInt C)(p:d+1<C.size)(f:IntAt w c d X a cap l):
 Calls prog 119 #[.pointer (some ⟨c,d,none⟩),.pointer (some ⟨c,d,none⟩)] w (LaidOk w c d t C (-X)):=by
 have q:=f.neg;have r:=f.abs;have g:=f.lt;obtain⟨n,s,u⟩:=Ib hs m f.num;clear hs m f;go_enter func119,ntmps119;go_wp2;go_region_with (first
  |(go_at_call 155;refine(Qdw a cap l X.natAbs _ ?_).mono ?_;exact u.o.drew;rintro e y ⟨⟨v,h,rfl,i⟩,b⟩;have z:=ce b g q;have c1:=ce b g r;have k:=Hi i;have j:=Hi ((Below.refl w.heap.size w).drew.trans b);clear i b)
  |(go_at_call 114;refine(Qby c d t C _ v h l X.natAbs (-X) _ ?_ s.o p k.o ?_).mono ?_;exact n.o.below j.o n.o.lt;exact Qtq X;rintro e A ⟨rfl,hl⟩;have x:=Hi hl;clear hl))
 all_goals
  go_wp2;go_ret;exact LaidOk.of (Only.of_below j.o) ⟨rfl,_,_,_,x.o⟩
theorem Qtr(f bx j:Nat)(p:Rat)(w:Vz)(h:(Thing.room f).holds w)(i:RatVal w bx p)(k:Fits p j)(r:j<549755813000):
 Calls prog 118 #[.pointer (some ⟨f,0,none⟩),.pointer (some ⟨bx,0,none⟩)] w (RatOk w f p):=by
 obtain⟨b,l,c⟩:=Ib (Qat p) (show mkRat p.num (p.den:Int).natAbs=p by rw[Int.natAbs_natCast,Rat.mkRat_self]) (Bag.one i h k);clear i h k;go_enter func118,ntmps118;go_wp2;go_region_held3 (fun _=>True) (trivial) (first
  |(
   go_at_call 70;apply cM;apply Bag.den (w0:=w);(focus(repeat(first|exact c.o|apply Bag.alloc|apply Bag.drew)));(focus(repeat(first|exact mH|apply mT)));rintro e s ⟨t,u,rfl,a,m⟩;clear c;have c:=Hi a
   clear a)
  |(
   go_at_call 68;apply cM;apply Bag.setFrac (w0:=w);(focus(repeat(first|exact c.o|apply Bag.alloc|apply Bag.drew)));(focus(repeat(first|exact mH|apply mT)));(focus(repeat(first|exact mH|apply mT)));(focus(repeat(first|exact mH|apply mT)));exact b.o;omega;omega;rintro e v d;have n:=Hi d;obtain⟨rfl,g,q⟩:=d
   clear c g q))
 go_wp2;go_ret;rw[<-l.o];exact n.o
theorem Qgt(b bx j:Nat)(p:Rat)(w:Vz)(i:(Thing.room b).holds w)(k:RatVal w bx p)(m:Fits p j)(n:j<549755813000):
 Calls prog 69 #[.pointer (some ⟨b,0,none⟩),.pointer (some ⟨bx,0,none⟩)] w (RatOk w b (-p)):=by
 have d:=Hi (Qtr b bx j p w i k m n);clear k i m n;go_enter func69,ntmps69;go_wp2_with fail;refine d.o.mono ?_;rintro e v ⟨rfl,c,r,c1,s,t,c2,u,q⟩;obtain⟨f,h⟩:=Ia q c;clear q c d;go_wp2_with fail;have d:=Hi (Qgs b 0 124 _ p.num r c1 s _ f.o.sb.drew (Qab _ _ _ _ _ _ _ _) (by simp) f.o.drew.upper);go_region_held3 (fun _=>True) (trivial) (first
  |(
   go_at_call 119;refine d.o.mono ?_;rintro e x ⟨rfl,a,cap,l,hl⟩;have g:=Hi hl
   clear hl))
 go_wp2;go_ret;refine⟨rfl,h.o.drew.trans g.o.only,a,cap,l,t,c2,u,?_,?_,?_⟩
 .
  have:=g.o.sb;rw[Rat.neg_num,Rat.neg_den]
  simpa [putInt] using this
 . rw[Rat.neg_num];exact g.o.num
 . rw[Rat.neg_den];exact f.o.den.drew.only g.o.only f.o.sb.drew (Qab _ _ _ _ _ _ _ _)
theorem Qku(b:Nat)(q:Rat)(w:Vz)(y:RatVal w b q):
 Calls prog 95 #[.pointer (some ⟨b,0,none⟩)] w fun e w'=>e=.returned (.bool (decide (q.den=1)))/\Bl w w':=by
 obtain⟨D,z,c1,A,B,c2,C,h,p⟩:=y;obtain⟨H,E⟩:=Ia h p;have F:=Hi (show (cmpZ (q.den:Int) 1 == 0)=decide (q.den=1) by
  unfold cmpZ;by_cases r:q.den=1
  . rw[if_neg (by omega),if_pos (by omega)];simp[r]
  . have:=q.den_pos
    rw[if_neg (by omega),if_neg (by omega)];simp[r])
 clear h p;go_enter func95,ntmps95;go_wp2_with fail;refine(Qkv b q.num D q.den z B c1 c2 A C w H.o E.o (Qat q)).mono ?_;rintro e K ⟨⟨G,o,a,cap,l,rfl,s,j⟩,g⟩;obtain⟨I,d⟩:=Ia s g;clear s j g;go_wp2_with fail;refine(Qbk 1 _ (by decide) (by decide)).mono ?_;rintro e J ⟨⟨t,u,c,v,rfl,k,hs,x⟩,j⟩;obtain⟨m,f⟩:=Ia (show IntAt J t 0 1 u c v from ⟨by rw[hs.cell];rfl,by rw[hs.cell];rfl,x,hs.lt⟩) j;clear k hs x j;go_wp2_with fail;refine(Qkt G o q.den a cap l t 0 1 u c v _ (I.o.below f.o) m.o).mono ?_;rintro e L ⟨rfl,i⟩;have n:=Hi i;clear i;go_wp2;go_ret;refine⟨by rw[<-F.o];rfl,(d.o.trans (f.o.mono d.o.size)).trans (n.o.mono (Nat.le_trans d.o.size f.o.size))⟩
theorem Qts(b:Nat)(q:Rat)(w:Vz)(m:RatVal w b q):
 Calls prog 98 #[.pointer (some ⟨b,0,none⟩)] w fun e w'=>(∃g a cap l,e=.returned (.pointer (some ⟨g,0,none⟩))/\IntAt w' g 0 q.den a cap l)/\Bl w w':=by
 obtain⟨D,p,c1,r,s,c2,i,h,j⟩:=m;have d:O (Bag w w [] [.rat b q.den i.length]):=Hi ⟨Below.refl _ _,fun n u=>(by cases u),fun t f=>by
  rcases List.mem_cons.1 f with rfl|f
  . exact⟨⟨_,D,p,c1,r,s,c2,i,h,j,Qat q,Nat.le_refl _⟩,List.not_mem_nil⟩
  . cases f⟩
 clear h j;go_enter func98,ntmps98;go_wp2_with (first
  |(
   go_at_call 70;apply cM;apply Bag.den (w0:=w);(focus(repeat(first|exact d.o|apply Bag.alloc|apply Bag.drew)));(focus(repeat(first|exact mH|apply mT)));rintro e v ⟨A,B,rfl,c,x⟩;clear d;have d:=Hi c
   clear c)
  |(
   go_at_call 116;apply cM;apply Bag.set (w0:=w);(focus(repeat(first|exact d.o|apply Bag.alloc|apply Bag.drew)));exact List.Mem.head _;(focus(repeat(first|exact mH|apply mT)));rintro e v ⟨rfl,c,k,y⟩;clear d;have d:=Hi c
   clear c))
 go_ret;obtain⟨⟨a,cap,l,z,hl⟩,_⟩:=d.o.ts _ (List.Mem.head _);exact⟨⟨_,a,cap,l,rfl,z⟩,d.o.base⟩
theorem Qtt(s:Nat)(x:Nat)(w:Vz)(y:(Thing.room s).holds w)(Q:x<1000000):
 Calls prog 142 #[.pointer (some ⟨s,0,none⟩),.int .i64 x] w (RatOk w s (x:Rat)):=by
 have G:=Hi y;have H:=Hi (show mkRat (x:Int) (1:Int).natAbs=(x:Rat) by
  apply Rat.ext
  . rw[Rat.num_mkRat];simp
  . rw[Rat.den_mkRat];simp)
 clear y;go_enter func142,ntmps142;go_wp2_with fail;refine(Qbk (x:Int) _ (by omega) (by omega)).mono ?_;rintro e I ⟨⟨z,A,c,t,rfl,g,a,h⟩,i⟩;obtain⟨j,k⟩:=Ia (show IntAt I z 0 x A c t from ⟨by rw[a.cell];simp,by rw[a.cell];rfl,h,a.lt⟩) i;clear g a h i;go_wp2_with fail;refine(Qbk 1 _ (by decide) (by decide)).mono ?_;rintro e J ⟨⟨B,C,d,u,rfl,l,b,m⟩,n⟩;obtain⟨p,q⟩:=Ia (show IntAt J B 0 1 C d u from ⟨by rw[b.cell];rfl,by rw[b.cell];rfl,m,b.lt⟩) n;clear l b m n;go_wp2_with fail;obtain⟨K,L,M,N,hs,D⟩:=G.o;have f:=k.o.trans (q.o.mono k.o.size);have E:t.length<=64:=j.o.num.len_bits (Nat.lt_of_le_of_lt (by omega) (by decide:1000000<2 ^ 64));have F:u.length<=64:=p.o.num.len_bits (by decide)
 refine(Qcn s K L M N z 0 x A c t B 0 1 C d u _ (hs.below f hs.lt) D (j.o.below q.o) p.o (by decide) (by omega) (by omega)).mono ?_;rintro e R r;have O:=Hi (RatOk.of (Only.of_below f) r);obtain⟨rfl,v,P⟩:=r;clear v P hs D f;go_wp2;go_ret;rw[<-H.o];exact O.o
end Go.Proofs.YtppkmifkpjkgpaaGreatDoor
