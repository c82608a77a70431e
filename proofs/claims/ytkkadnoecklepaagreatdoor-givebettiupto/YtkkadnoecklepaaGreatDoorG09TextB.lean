import Derived.Test.YtkkadnoecklepaaGreatDoorG08NumNat
import Derived.Shelf.Strings.Builder1
import Derived.Shelf.Strconv.Itoa1
import Derived.Shelf.Strconv.Itoa2
import Derived.Lib.ItoaMem
import Derived.Lib.AppendIntMem
import Derived.BigCall
import Derived.BigGuard
import Derived.Lib.Builder
import Derived.Lib.AppendStr
import Derived.Lib.UnsafeStr
import Derived.Laws.Externs
namespace Go.Proofs.YtkkadnoecklepaaGreatDoor
open Go.RowKit
open Go.Proofs.Tryz
set_option linter.unusedSimpArgs false
set_option linter.unusedVariables false
set_option maxHeartbeats 8000000
set_option maxRecDepth 1000000
theorem FracAt.drew{w:Vz}{neg:Bool}{a b:Vx}{n c m d:Nat}{q:Rat}(h:FracAt w neg a n c b m d q):FracAt w.drew neg a n c b m d q:=h.below bR.drew
theorem Qny{p q:Rat}{a c r:Bool}{t:Nat}(d:a=decide (p.num<0))(f:c=decide (q.num<0))(h:sgn r t=sgn a (p.num.natAbs*(q.den / Nat.gcd p.den q.den))+sgn c (q.num.natAbs*(p.den / Nat.gcd p.den q.den))):
 mkRat (sgn r (t / Nat.gcd t (Nat.gcd p.den q.den))) (p.den / Nat.gcd p.den q.den*(q.den / Nat.gcd t (Nat.gcd p.den q.den)))=p+q/\Nat.Coprime (t / Nat.gcd t (Nat.gcd p.den q.den)) (p.den / Nat.gcd p.den q.den*(q.den / Nat.gcd t (Nat.gcd p.den q.den))):=by
 refine Qnx p q rfl ?_ rfl;have e:∀(b:Bool) (u v:Nat),sgn b (u*v)=sgn b u*(v:Int):=fun b u v=>by have:=Qb7 b false u v;rw[Bool.bne_false] at this;exact this
 rw[h,e,e,d,f,Qbs,Qbs]
theorem Qh5(N P:Bool)(Q R S b2:Vx)(T U V W X Y Z dy i j:Nat)(p q:Rat)(w:Vz)(hx:FracAt w N Q T U R V W p)(hy:FracAt w P S X Y b2 Z dy q)(hp:Fits p i)(hq:Fits q j)(au:i+j<68719476000):
 Calls prog 64 #[.agg #[.bool N,.slice Q T U,.slice R V W],.agg #[.bool P,.slice S X Y,.slice b2 Z dy]] w (FNew w (p+q)):=by
 obtain⟨HX,HY,ah,ai⟩:=Ic hx hy hp hq;obtain⟨CX,aj⟩:=nm (#[Value.bool N,.slice Q T U,.slice R V W]);obtain⟨CY,ak⟩:=nm (#[Value.bool P,.slice S X Y,.slice b2 Z dy]);obtain⟨a,I,A,B,b⟩:=Id ((((((NBag.start hx.top hy.top hp.1 hq.1).alloc (.cells CX 107)).alloc (.cells CY 107)).alloc (.cells zeroFrac 107)).rebase)) (SB.new3 w 107 107 107 CX CY zeroFrac) ((SB.new2 w 107 107 CX CY).alloc (.cells zeroFrac 107)) (((SB.new w 107 CX).alloc (.cells CY 107)).alloc (.cells zeroFrac 107)) (Below.new3 w (.cells CX 107) (.cells CY 107) (.cells zeroFrac 107));obtain⟨f,aa⟩:=nm ((((w.alloc (.cells CX 107)).alloc (.cells CY 107)).alloc (.cells zeroFrac 107)));rw[aa] at a I A B b;subst aj ak;obtain⟨al,am⟩:=Ia (hx.low.below b.o) (hy.low.below b.o);have u:=B.o.lt
 have x:=A.o.lt;obtain⟨g,h,k,l,m,n⟩:=Ie (B.o.cell 0) (B.o.cell 1) (B.o.cell 2) (A.o.cell 0) (A.o.cell 1) (A.o.cell 2);simp at g h k l m n;have ao:=Hi aa;have av:w.heap.size+1+1≠w.heap.size:=by omega
 have aw:w.heap.size+1+1≠w.heap.size+1:=by omega
 clear hx hy hp hq aa;have y:=Hi (show 0<Nat.gcd p.den q.den from Nat.gcd_pos_of_pos_right _ q.den_pos);go_enter func64,ntmps64;obtain⟨C,D,E⟩:=Jb a.o.base u g.o h.o k.o;obtain⟨F,G,H⟩:=Jb a.o.base x l.o m.o n.o;go_wp2_with fail;rw[show (((w.alloc (.cells #[.bool N,.slice Q T U,.slice R V W] 107)).alloc (.cells #[.bool P,.slice S X Y,.slice b2 Z dy] 107)).alloc (.cells #[.bool false,.slice none 0 0,.slice none 0 0] 107))=f from ao.o];go_region_held3
  (fun z=>z.cell? ⟨w.heap.size,0,none⟩=some (.bool N)/\z.cell? ⟨w.heap.size,1,none⟩=some (.slice Q T U)/\z.cell? ⟨w.heap.size,2,none⟩=some (.slice R V W)/\z.cell? ⟨w.heap.size+1,0,none⟩=some (.bool P)/\z.cell? ⟨w.heap.size+1,1,none⟩=some (.slice S X Y)/\z.cell? ⟨w.heap.size+1,2,none⟩=some (.slice b2 Z dy)) ((first|(simp [*];done)|go_keep))
  (first
  |
   (go_at_call_of 124 (Value.agg #[.bool N,.slice Q T U,.slice R V W])
    apply cM;apply NBag.under (w0:=f) (hl:=al.o) (hk:=ah.o.2);(focus(first|exact a.o|exact a.o.drew|exact a.o.drew.drew));rintro e w3 ⟨aA,nA,cA,rfl,c⟩;clear a;have a:=Hi c;clear c;obtain⟨C,D,E⟩:=Jb a.o.base u g.o h.o k.o;obtain⟨F,G,H⟩:=Jb a.o.base x l.o m.o n.o
    skip)
  |
   (go_at_call_of 124 (Value.agg #[.bool P,.slice S X Y,.slice b2 Z dy])
    apply cM;apply NBag.under (w0:=f) (hl:=am.o) (hk:=ai.o.2);(focus(first|exact a.o|exact a.o.drew|exact a.o.drew.drew));rintro e w4 ⟨aB,nB,cB,rfl,c⟩;clear a;have a:=Hi c;clear c;obtain⟨C,D,E⟩:=Jb a.o.base u g.o h.o k.o;obtain⟨F,G,H⟩:=Jb a.o.base x l.o m.o n.o
    skip)
  )
 go_wp2_with
  ((skip
    first
     |(
      go_at_call 125;apply cM
      apply NBag.gcd (w0:=f))
     |(
      go_at_call 126;apply cM
      apply NBag.quot (w0:=f))
     |(
      go_at_call 128;apply cM
      apply NBag.mul (w0:=f))
     |(
      go_at_call 127;apply cM
      apply NBag.addSigned (w0:=f))
    (focus(first|exact a.o|exact a.o.drew|exact a.o.drew.drew));(repeat(first|exact mH|apply mT));omega
    try (focus(exact y.o))
    first
     |rintro e wn ⟨an,nn,cn,rfl,c⟩
     |(
      rintro e wn ⟨r,aT,nT,cT,t,rfl,c,L⟩;have HT:=Hi L
      clear L)
    clear a;have a:=Hi c;clear c;obtain⟨C,D,E⟩:=Jb a.o.base u g.o h.o k.o;obtain⟨F,G,H⟩:=Jb a.o.base x l.o m.o n.o
    skip))
 go_region_held3
  (fun z=>z.cell? ⟨w.heap.size,0,none⟩=some (.bool N)/\z.cell? ⟨w.heap.size,1,none⟩=some (.slice Q T U)/\z.cell? ⟨w.heap.size,2,none⟩=some (.slice R V W)/\z.cell? ⟨w.heap.size+1,0,none⟩=some (.bool P)/\z.cell? ⟨w.heap.size+1,1,none⟩=some (.slice S X Y)/\z.cell? ⟨w.heap.size+1,2,none⟩=some (.slice b2 Z dy)) ((first|(simp [*];done)|go_keep))
  ((skip
    first
     |(
      go_at_call 125;apply cM
      apply NBag.gcd (w0:=f))
     |(
      go_at_call 126;apply cM
      apply NBag.quot (w0:=f))
     |(
      go_at_call 128;apply cM
      apply NBag.mul (w0:=f))
     |(
      go_at_call 127;apply cM
      apply NBag.addSigned (w0:=f))
    (focus(first|exact a.o|exact a.o.drew|exact a.o.drew.drew));(repeat(first|exact mH|apply mT));omega
    try (focus(exact y.o))
    first
     |rintro e wn ⟨an,nn,cn,rfl,c⟩
     |(
      rintro e wn ⟨r,aT,nT,cT,t,rfl,c,L⟩;have HT:=Hi L
      clear L)
    clear a;have a:=Hi c;clear c;obtain⟨C,D,E⟩:=Jb a.o.base u g.o h.o k.o;obtain⟨F,G,H⟩:=Jb a.o.base x l.o m.o n.o
    skip))
 have hE:=Qny HX.o.neg HY.o.neg HT.o;have ab:0<Nat.gcd t (Nat.gcd p.den q.den):=Nat.gcd_pos_of_pos_right _ y.o;have HZ:=Hi (a.o.get (List.Mem.head _)).1.zero_iff;obtain⟨ap,HE,af,aq⟩:=Ic ab hE.1 hE.2 (show 0<p.den / Nat.gcd p.den q.den*(q.den / Nat.gcd t (Nat.gcd p.den q.den)) from Nat.mul_pos (Nat.div_pos (Nat.gcd_le_left _ p.den_pos) y.o) (Nat.div_pos (Nat.le_trans (Nat.gcd_le_right _ y.o) (Nat.gcd_le_right _ q.den_pos)) ab));clear hE ab;by_cases J:t=0
 .
  have ar:((nT:Int) == 0)=true:=by have:=HZ.o.1 J;simp[this]
  have ad:O (p+q=0):=Hi (by rw[<-HE.o,J,Nat.zero_div,Qh2,Rat.zero_mkRat]);clear HE af J;have d:=I.o.below a.o.base I.o.lt;have k0:=d.cell 0;have k1:=d.cell 1;have k2:=d.cell 2;have f0:=d.free 0;have f1:=d.free 1;have f2:=d.free 2;simp[zeroFrac] at k0 k1 k2;obtain⟨K,ae⟩:=Ia d (b.o.trans (a.o.base.mono b.o.size));clear d a;go_wp2;refine bodyPost_ret (v:=.agg #[.bool false,.slice none 0 0,.slice none 0 0]) (results_cell_row rfl _ _ (w.heap.size+1+1) 107 #[.bool false,.slice none 0 0,.slice none 0 0] (0,0) _ rfl (((K.o.set 0 _).set 1 _).set 2 _) underlying107 rfl Tryz.fracInfo) rfl ?_;have ho:=(((Only.refl (w.heap.size+1+1) wn).setCell 0 (.bool false)).setCell 1 (.slice none 0 0)).setCell 2 (.slice none 0 0);exact⟨⟨_,rfl,by first|exact FracV.zero _|(rw [ad.o];exact FracV.zero _)⟩,Only.fresh ae.o ho (by omega)⟩
 .
  have ar:((nT:Int) == 0)=false:=by rw[beq_eq_false_iff_ne];have:=HZ.o.2;omega
  clear J;go_wp2_with
   ((skip
     first
      |(
       go_at_call 125;apply cM
       apply NBag.gcd (w0:=f))
      |(
       go_at_call 126;apply cM
       apply NBag.quot (w0:=f))
      |(
       go_at_call 128;apply cM
       apply NBag.mul (w0:=f))
      |(
       go_at_call 127;apply cM
       apply NBag.addSigned (w0:=f))
     (focus(first|exact a.o|exact a.o.drew|exact a.o.drew.drew));(repeat(first|exact mH|apply mT));omega
     try (focus(first|exact y.o|exact ap.o))
     first
      |rintro e wn ⟨an,nn,cn,rfl,c⟩
      |(
       rintro e wn ⟨r,aT,nT,cT,t,rfl,c,L⟩;have HT:=Hi L
       clear L)
     clear a;have a:=Hi c;clear c;obtain⟨C,D,E⟩:=Jb a.o.base u g.o h.o k.o;obtain⟨F,G,H⟩:=Jb a.o.base x l.o m.o n.o
     skip))
  have ag:=Hi (I.o.below a.o.base I.o.lt);have M:=Hi (b.o.trans (a.o.base.mono b.o.size));clear I b;have I:=ag;have b:=M;clear ag M;apply cM;apply NBag.built (w0:=f) a.o;(repeat(first|exact mH|apply mT));(focus(exact aq.o));(focus(exact af.o));rw[HE.o];rintro e w9 ⟨⟨v9,rfl,hv⟩,c⟩;obtain⟨s,a9,n9,c9,b9,m9,d9,rfl,hv⟩:=hv;have d:=I.o.below c I.o.lt;have k0:=d.cell 0;have k1:=d.cell 1;have k2:=d.cell 2;have f0:=d.free 0;have f1:=d.free 1;have f2:=d.free 2;simp[zeroFrac] at k0 k1 k2;obtain⟨HV,K,ae⟩:=Ib hv d (b.o.trans (c.mono b.o.size));clear hv d c;go_wp2
  refine bodyPost_ret (v:=.agg #[.bool s,.slice a9 n9 c9,.slice b9 m9 d9]) (results_cell_row rfl _ _ (w.heap.size+1+1) 107 #[.bool s,.slice a9 n9 c9,.slice b9 m9 d9] (0,0) _ rfl (((K.o.set 0 _).set 1 _).set 2 _) underlying107 rfl Tryz.fracInfo) rfl ?_;have ho:=(((Only.refl (w.heap.size+1+1) w9).setCell 0 (.bool s)).setCell 1 (.slice a9 n9 c9)).setCell 2 (.slice b9 m9 d9);exact⟨⟨_,rfl,s,a9,n9,c9,b9,m9,d9,rfl,HV.o.only ho K.o Qbh⟩,Only.fresh ae.o ho (by omega)⟩
theorem Qnz{d e:Value}{i j:Nat}{p q:Rat}{w:Vz}(a:FracV w d p)(b:FracV w e q)(f:Fits p i)(g:Fits q j)(c:i+j<68719476000):Calls prog 64 #[d,e] w (FNew w (p+q)):=by
 obtain⟨h,k,l,m,n,o,r,rfl,a⟩:=a;obtain⟨s,t,u,v,b2,x,y,rfl,b⟩:=b;exact Qh5 h s k n t b2 l m o r u v x y i j p q w a b f g c
theorem Qdq{d e:Value}{i j:Nat}{p q:Rat}{w:Vz}(a:FracV w d p)(b:FracV w e q)(f:Fits p i)(g:Fits q j)(c:i+j<68719476000):Calls prog 65 #[d,e] w (FNew w (p*q)):=by
 obtain⟨h,k,l,m,n,o,r,rfl,a⟩:=a;obtain⟨s,t,u,v,b2,x,y,rfl,b⟩:=b;exact Qh1 h s k n t b2 l m o r u v x y i j p q w a b f g c
theorem Qn0(H I:Bool)(J K L b2:Vx)(M N P Q R S T U i j:Nat)(p q:Rat)(w:Vz)(hx:FracAt w H J M N K P Q p)(hy:FracAt w I L R S b2 T U q)(hp:Fits p i)(hq:Fits q j)(an:i+j<68719476000):
 Calls prog 57 #[.agg #[.bool H,.slice J M N,.slice K P Q],.agg #[.bool I,.slice L R S,.slice b2 T U]] w (FNew w (p - q)):=by
 rw[Rat.sub_eq_add_neg];obtain⟨HX,HY,ad,ae⟩:=Ic hx hy hp hq;obtain⟨E,af⟩:=nm (#[Value.bool H,.slice J M N,.slice K P Q]);obtain⟨F,ag⟩:=nm (#[Value.bool I,.slice L R S,.slice b2 T U]);obtain⟨HR,HS,f,g,b⟩:=Id ((((((NBag.start hx.top hy.top hp.1 hq.1).alloc (.cells E 107)).alloc (.cells F 107)).alloc (.cells zeroFrac 107)).rebase)) (SB.new3 w 107 107 107 E F zeroFrac) ((SB.new2 w 107 107 E F).alloc (.cells zeroFrac 107)) (((SB.new w 107 E).alloc (.cells F 107)).alloc (.cells zeroFrac 107)) (Below.new3 w (.cells E 107) (.cells F 107) (.cells zeroFrac 107));obtain⟨h,y⟩:=nm ((((w.alloc (.cells E 107)).alloc (.cells F 107)).alloc (.cells zeroFrac 107)));rw[y] at HR HS f g b;subst af ag;obtain⟨ao,ap⟩:=Ia (hx.low.below b.o) (hy.low.below b.o)
 have z:=g.o.lt;have A:=f.o.lt;obtain⟨k,l,m,n,r,s⟩:=Ie (g.o.cell 0) (g.o.cell 1) (g.o.cell 2) (f.o.cell 0) (f.o.cell 1) (f.o.cell 2);simp at k l m n r s;have ah:=Hi y;have aq:w.heap.size+1+1≠w.heap.size:=by omega
 have ar:w.heap.size+1+1≠w.heap.size+1:=by omega
 clear hx hy hp hq y;go_enter func57,ntmps57;obtain⟨V,W,X⟩:=Jb HR.o.base z k.o l.o m.o;obtain⟨Y,Z,aa⟩:=Jb HR.o.base A n.o r.o s.o;go_wp2_with fail;rw[show (((w.alloc (.cells #[.bool H,.slice J M N,.slice K P Q] 107)).alloc (.cells #[.bool I,.slice L R S,.slice b2 T U] 107)).alloc (.cells #[.bool false,.slice none 0 0,.slice none 0 0] 107))=h from ah.o];have ai:=ad;obtain⟨aj,ak,B⟩:=Ib ae.o.neg (HX.o.below b.o) (HY.o.below b.o);go_region_held3
  (fun G=>G.cell? ⟨w.heap.size,0,none⟩=some (.bool H)/\G.cell? ⟨w.heap.size,1,none⟩=some (.slice J M N)/\G.cell? ⟨w.heap.size,2,none⟩=some (.slice K P Q)/\G.cell? ⟨w.heap.size+1,0,none⟩=some (.bool I)/\G.cell? ⟨w.heap.size+1,1,none⟩=some (.slice L R S)/\G.cell? ⟨w.heap.size+1,2,none⟩=some (.slice b2 T U)) ((first|(simp [*];done)|go_keep))
  (first
  |(
   go_at_call 117;apply cM;apply Qh0;(focus(first|exact B.o|exact B.o.drew|exact B.o.drew.drew));rintro e w4 ⟨⟨v4,rfl,t⟩,u⟩;obtain⟨am,a4,n4,c4,b4,m4,d4,rfl,t⟩:=t;have C:=Hi t
   first
    |have a:O (Bl h w4):=Hi u
    |have a:O (Bl h w4):=Hi ((Below.refl _ h).drew.trans u)
    |have a:O (Bl h w4):=Hi ((Below.refl _ h).drew.drew.trans u)
   have D:=Hi (ak.o.below a.o);clear t u HR;obtain⟨V,W,X⟩:=Jb a.o z k.o l.o m.o;obtain⟨Y,Z,aa⟩:=Jb a.o A n.o r.o s.o
   skip)
  |
   (go_at_call 64
    apply cM;apply Qh5 (i:=i) (j:=j);(focus(first|exact D.o|exact D.o.drew|exact D.o.drew.drew));(focus(first|exact C.o|exact C.o.drew|exact C.o.drew.drew));(focus(exact ai.o));(focus(exact aj.o));omega;rintro e w9 ⟨⟨v9,rfl,t⟩,u⟩;obtain⟨d,a9,n9,c9,b9,m9,d9,rfl,t⟩:=t
    first
     |have c:=a.o.trans (u.mono a.o.size)
     |have c:=a.o.drew.trans (u.mono a.o.size)
     |have c:=a.o.drew.drew.trans (u.mono a.o.size)
    have x:=HS.o.below c HS.o.lt;have k0:=x.cell 0;have k1:=x.cell 1;have k2:=x.cell 2;have f0:=x.free 0;have f1:=x.free 1;have f2:=x.free 2;obtain⟨V,W,X⟩:=Jb c z k.o l.o m.o;obtain⟨Y,Z,aa⟩:=Jb c A n.o r.o s.o;simp[zeroFrac] at k0 k1 k2;obtain⟨HV,ab,al⟩:=Ib t x (b.o.trans (c.mono b.o.size))
    clear t x u c)
  )
 all_goals
  go_wp2;refine bodyPost_ret (v:=.agg #[.bool d,.slice a9 n9 c9,.slice b9 m9 d9]) (results_cell_row rfl _ _ (w.heap.size+1+1) 107 #[.bool d,.slice a9 n9 c9,.slice b9 m9 d9] (0,0) _ rfl (((ab.o.set 0 _).set 1 _).set 2 _) underlying107 rfl Tryz.fracInfo) rfl ?_;have ho:=(((Only.refl (w.heap.size+1+1) w9).setCell 0 (.bool d)).setCell 1 (.slice a9 n9 c9)).setCell 2 (.slice b9 m9 d9);exact⟨⟨_,rfl,d,a9,n9,c9,b9,m9,d9,rfl,HV.o.only ho ab.o Qbh⟩,Only.fresh al.o ho (by omega)⟩
theorem Qn1(q:Rat)(b:q≠0){a:Bool}(c:a=decide (q.num<0)):mkRat (sgn a q.den) q.num.natAbs=q⁻¹:=by rw[c];exact(Qh4 b).1
theorem Fits.inv{q:Rat}{j:Nat}(h:Fits q j)(c:q≠0):Fits q⁻¹ j:=by
 obtain⟨d,e,f⟩:=Qh4 c;obtain⟨a,b⟩:=Qh3 (neg:=decide (q.num<0)) f e;rw[d] at a b;exact⟨by rw[a,Qdx];exact h.2,by rw[b];exact h.1⟩
theorem Qn2(W L:Bool)(X Y M b2:Vx)(Z cx mx dx N P Q R i j:Nat)(p q:Rat)(w:Vz)(hx:FracAt w W X Z cx Y mx dx p)(hy:FracAt w L M N P b2 Q R q)(hp:Fits p i)(hq:Fits q j)(ao:i+j<68719476000):
 Calls prog 66 #[.agg #[.bool W,.slice X Z cx,.slice Y mx dx],.agg #[.bool L,.slice M N P,.slice b2 Q R]] w (FNew w (p / q)):=by
 obtain⟨HX,HY,ad,aa⟩:=Ic hx hy hp hq;obtain⟨CX,ae⟩:=nm (#[Value.bool W,.slice X Z cx,.slice Y mx dx]);obtain⟨CY,af⟩:=nm (#[Value.bool L,.slice M N P,.slice b2 Q R]);obtain⟨a,HS,z,A,d⟩:=Id ((((((NBag.start hx.top hy.top hp.1 hq.1).alloc (.cells CX 107)).alloc (.cells CY 107)).alloc (.cells zeroFrac 107)).rebase)) (SB.new3 w 107 107 107 CX CY zeroFrac) ((SB.new2 w 107 107 CX CY).alloc (.cells zeroFrac 107)) (((SB.new w 107 CX).alloc (.cells CY 107)).alloc (.cells zeroFrac 107)) (Below.new3 w (.cells CX 107) (.cells CY 107) (.cells zeroFrac 107));obtain⟨y,S⟩:=nm ((((w.alloc (.cells CX 107)).alloc (.cells CY 107)).alloc (.cells zeroFrac 107)));rw[S] at a HS z A d;subst ae af;obtain⟨ap,ag⟩:=Ia (hx.low.below d.o) (hy.low.below d.o);have u:=A.o.lt
 have x:=z.o.lt;obtain⟨g,k,l,m,n,r⟩:=Ie (A.o.cell 0) (A.o.cell 1) (A.o.cell 2) (z.o.cell 0) (z.o.cell 1) (z.o.cell 2);simp at g k l m n r;have ab:=Hi S;have aq:w.heap.size+1+1≠w.heap.size:=by omega
 have ar:w.heap.size+1+1≠w.heap.size+1:=by omega
 clear hx hy hp hq S;by_cases I:q.num.natAbs=0
 .
  have B:q=0:=Rat.num_eq_zero.1 (by omega);rw[show p / q=0 by rw[B,Rat.div_def,Rat.inv_zero,Rat.mul_zero]];go_enter func66,ntmps66;obtain⟨C,D,E⟩:=Jb a.o.base u g.o k.o l.o;obtain⟨F,G,H⟩:=Jb a.o.base x m.o n.o r.o;go_wp2_with fail;rw[show (((w.alloc (.cells #[.bool W,.slice X Z cx,.slice Y mx dx] 107)).alloc (.cells #[.bool L,.slice M N P,.slice b2 Q R] 107)).alloc (.cells #[.bool false,.slice none 0 0,.slice none 0 0] 107))=y from ab.o];apply cM;apply NBag.isZero (w0:=y) a.o
  (repeat(first|exact mH|apply mT));rw[(decide_eq_true I)];rintro e w2 ⟨rfl,c⟩;have f:=HS.o.below c.base HS.o.lt;have k0:=f.cell 0;have k1:=f.cell 1;have k2:=f.cell 2;have f0:=f.free 0;have f1:=f.free 1;have f2:=f.free 2;simp[zeroFrac] at k0 k1 k2;obtain⟨J,T⟩:=Ia f (d.o.trans (c.base.mono d.o.size));clear c f a;go_wp2;refine bodyPost_ret (v:=.agg #[.bool false,.slice none 0 0,.slice none 0 0]) (results_cell_row rfl _ _ (w.heap.size+1+1) 107 #[.bool false,.slice none 0 0,.slice none 0 0] (0,0) _ rfl (((J.o.set 0 _).set 1 _).set 2 _) underlying107 rfl Tryz.fracInfo) rfl ?_;have ho:=(((Only.refl (w.heap.size+1+1) w2).setCell 0 (.bool false)).setCell 1 (.slice none 0 0)).setCell 2 (.slice none 0 0);exact⟨⟨_,rfl,FracV.zero _⟩,Only.fresh T.o ho (by omega)⟩
 .
  have B:q≠0:=fun h=>I (by rw[h];rfl)
  go_enter func66,ntmps66;obtain⟨C,D,E⟩:=Jb a.o.base u g.o k.o l.o;obtain⟨F,G,H⟩:=Jb a.o.base x m.o n.o r.o;go_wp2_with fail;rw[show (((w.alloc (.cells #[.bool W,.slice X Z cx,.slice Y mx dx] 107)).alloc (.cells #[.bool L,.slice M N P,.slice b2 Q R] 107)).alloc (.cells #[.bool false,.slice none 0 0,.slice none 0 0] 107))=y from ab.o];apply cM;apply NBag.isZero (w0:=y) a.o;(repeat(first|exact mH|apply mT));rw[(decide_eq_false I)];rintro e w2 ⟨rfl,c⟩;clear a
  have a:=Hi c;clear c;obtain⟨C,D,E⟩:=Jb a.o.base u g.o k.o l.o;obtain⟨F,G,H⟩:=Jb a.o.base x m.o n.o r.o;go_wp2_with fail;rw[Rat.div_def];obtain⟨ah,ai,aj⟩:=Ib (Qn1 q B HY.o.neg) (Nat.Coprime.symm q.reduced) (show 0<q.num.natAbs by omega);have ak:=ad;obtain⟨al,am⟩:=Ia (aa.o.inv B) (HX.o.below d.o);clear B I;go_region_held3
   (fun w'=>w'.cell? ⟨w.heap.size,0,none⟩=some (.bool W)/\w'.cell? ⟨w.heap.size,1,none⟩=some (.slice X Z cx)/\w'.cell? ⟨w.heap.size,2,none⟩=some (.slice Y mx dx)/\w'.cell? ⟨w.heap.size+1,0,none⟩=some (.bool L)/\w'.cell? ⟨w.heap.size+1,1,none⟩=some (.slice M N P)/\w'.cell? ⟨w.heap.size+1,2,none⟩=some (.slice b2 Q R)) ((first|(simp [*];done)|go_keep))
   (first
   |
    (go_at_call_of 124 (Value.agg #[.bool L,.slice M N P,.slice b2 Q R])
     apply cM;apply NBag.under (w0:=y) (hl:=ag.o) (hk:=aa.o.2);(focus(first|exact a.o|exact a.o.drew|exact a.o.drew.drew));rintro e w3 ⟨aB,nB,cB,rfl,c⟩;clear a;have a:=Hi c;clear c;obtain⟨C,D,E⟩:=Jb a.o.base u g.o k.o l.o;obtain⟨F,G,H⟩:=Jb a.o.base x m.o n.o r.o
     skip)
   |(
    go_at_call 121;apply cM;apply NBag.built (w0:=y);(focus(first|exact a.o|exact a.o.drew|exact a.o.drew.drew));(repeat(first|exact mH|apply mT));(focus(exact aj.o));(focus(exact ai.o));rw[ah.o];rintro e w4 ⟨⟨v4,rfl,K⟩,c⟩;obtain⟨an,a4,n4,c4,b4,m4,d4,rfl,K⟩:=K;have U:=Hi K
    first
     |have b:O (Bl y w4):=Hi (a.o.base.trans (c.mono a.o.base.size))
     |have b:O (Bl y w4):=Hi (a.o.base.drew.trans (c.mono a.o.base.size))
     |have b:O (Bl y w4):=Hi (a.o.base.drew.drew.trans (c.mono a.o.base.size))
    have V:=Hi (am.o.below b.o);clear K c a;obtain⟨C,D,E⟩:=Jb b.o u g.o k.o l.o;obtain⟨F,G,H⟩:=Jb b.o x m.o n.o r.o
    skip)
   |
    (go_at_call 65
     apply cM;apply Qh1 (i:=i) (j:=j);(focus(first|exact V.o|exact V.o.drew|exact V.o.drew.drew));(focus(first|exact U.o|exact U.o.drew|exact U.o.drew.drew));(focus(exact ak.o));(focus(exact al.o));omega;rintro e w9 ⟨⟨v9,rfl,K⟩,c⟩;obtain⟨t,a9,n9,c9,b9,m9,d9,rfl,K⟩:=K
     first
      |have s:=b.o.trans (c.mono b.o.size)
      |have s:=b.o.drew.trans (c.mono b.o.size)
      |have s:=b.o.drew.drew.trans (c.mono b.o.size)
     have f:=HS.o.below s HS.o.lt;have k0:=f.cell 0;have k1:=f.cell 1;have k2:=f.cell 2;have f0:=f.free 0;have f1:=f.free 1;have f2:=f.free 2;obtain⟨C,D,E⟩:=Jb s u g.o k.o l.o;obtain⟨F,G,H⟩:=Jb s x m.o n.o r.o;simp[zeroFrac] at k0 k1 k2;obtain⟨HV,J,T⟩:=Ib K f (d.o.trans (s.mono d.o.size))
     clear K f c s)
   )
  all_goals
   go_wp2;refine bodyPost_ret (v:=.agg #[.bool t,.slice a9 n9 c9,.slice b9 m9 d9]) (results_cell_row rfl _ _ (w.heap.size+1+1) 107 #[.bool t,.slice a9 n9 c9,.slice b9 m9 d9] (0,0) _ rfl (((J.o.set 0 _).set 1 _).set 2 _) underlying107 rfl Tryz.fracInfo) rfl ?_;have ho:=(((Only.refl (w.heap.size+1+1) w9).setCell 0 (.bool t)).setCell 1 (.slice a9 n9 c9)).setCell 2 (.slice b9 m9 d9);exact⟨⟨_,rfl,t,a9,n9,c9,b9,m9,d9,rfl,HV.o.only ho J.o Qbh⟩,Only.fresh T.o ho (by omega)⟩
theorem Qa7{d e:Value}{i j:Nat}{p q:Rat}{w:Vz}(a:FracV w d p)(b:FracV w e q)(f:Fits p i)(g:Fits q j)(c:i+j<68719476000):Calls prog 57 #[d,e] w (FNew w (p - q)):=by
 obtain⟨h,k,l,m,n,o,r,rfl,a⟩:=a;obtain⟨s,t,u,v,b2,x,y,rfl,b⟩:=b;exact Qn0 h s k n t b2 l m o r u v x y i j p q w a b f g c
theorem Qb8{d e:Value}{i j:Nat}{p q:Rat}{w:Vz}(a:FracV w d p)(b:FracV w e q)(f:Fits p i)(g:Fits q j)(c:i+j<68719476000):Calls prog 66 #[d,e] w (FNew w (p / q)):=by
 obtain⟨h,k,l,m,n,o,r,rfl,a⟩:=a;obtain⟨s,t,u,v,b2,x,y,rfl,b⟩:=b;exact Qn2 h s k n t b2 l m o r u v x y i j p q w a b f g c
theorem Qcs{b:Value}{p:Rat}{w:Vz}(a:FracV w b p):Calls prog 117 #[b] w (FNew w (-p)):=by
 obtain⟨c,d,e,f,g,h,i,rfl,a⟩:=a;exact Qh0 c d g e f h i p w a
theorem Qbt{b:Value}{p:Rat}{w:Vz}(a:FracV w b p):Calls prog 129 #[b] w fun e c=>e=.returned (.bool (decide (p=0)))/\Below w.heap.size w c:=by
 obtain⟨d,f,g,i,j,k,l,rfl,a⟩:=a;have e:decide (p.num.natAbs=0)=decide (p=0):=by
  by_cases h:p=0
  . subst h;rfl
  . have:p.num≠0:=fun m=>h (Rat.num_eq_zero.1 m)
    rw[decide_eq_false h,decide_eq_false (by omega)]
 rw[<-e];exact Qhz d f j g i k l _ w a.top
theorem Qse(s:Vs)(w:Vz):
 Calls prog 118 #[.string s,.string ⟨#[45]⟩] w fun e a=>e=.returned (.tuple #[.string ⟨(Lib.trimPrefix s.data.toList [45]).toArray⟩,.bool (Lib.hasPrefix s.data.toList [45])])/\a=w:=Any.strings_CutPrefix Tryz.lays103 s ⟨#[45]⟩ w
theorem Qsf(s:Vs)(m:Int)(w:Vz)(a:s.size<4294967281)(b:w.cell? ⟨4,0,none⟩=some (.int .i64 m)):
 Calls prog 119 #[.string s,.string ⟨#[47]⟩] w fun e c=>e=.returned (.tuple #[.string ⟨(Lib.cut s.data.toList [47]).1.toArray⟩,.string ⟨(Lib.cut s.data.toList [47]).2.1.toArray⟩,.bool (Lib.cut s.data.toList [47]).2.2])/\∃n,c=w.drewN n:=Any.strings_Cut Tryz.lays145 s ⟨#[47]⟩ m w a b
theorem Nat64.numV{w b:Vz}{x:Nat}{e:Ending}(h:Nat64 w x e b):(∃a n c,e=.returned (.slice a n c)/\NumV b a n c x)/\Below w.heap.size w b:=by
 obtain⟨⟨a,c,l,rfl,d⟩,f⟩:=h;exact⟨⟨a,l.length,c,rfl,l,rfl,d⟩,f⟩
theorem Qsg(neg:Bool)(t k:Nat):mkRat (sgn neg t) k=if neg=true then -(mkRat (t:Int) k) else mkRat (t:Int) k:=by
 cases neg
 . simp[sgn]
 . simp only[sgn,if_true]
   rw[Rat.neg_mkRat]
theorem Qgc{s t:Vu}(a:Lib.trimPrefix s [45]=t)(h:¬QForm t):QOf s 0:=by
 refine⟨0,by rw[a];exact .inr ⟨h,rfl⟩,?_⟩
 split<;>simp
theorem Qd9{s t c1 c2:Vu}{bar neg:Bool}(g:Lib.trimPrefix s [45]=t)(i:Lib.hasPrefix s [45]=neg)(h:(Lib.cut t [47]).1=c1)(b:(Lib.cut t [47]).2.1=c2)(c:(Lib.cut t [47]).2.2=bar)(d:IsDig c1)(e:bar=true->IsDig c2):
 QOf s (mkRat (sgn neg (decVal c1)) (if bar=true then decVal c2 else 1)):=by
 by_cases a:bar=true/\decVal c2=0
 .
  rw[if_pos a.1,a.2,Rat.mkRat_zero];apply Qgc g;intro j;exact(j.2 (by rw[c];exact a.1)).2 (by rw[b];exact a.2)
 .
  refine⟨mkRat (decVal c1:Nat) (if bar=true then decVal c2 else 1),?_,by rw[i];exact Qsg _ _ _⟩;rw[g];refine .inl ⟨⟨by rw[h];exact d,fun f=>?_⟩,by rw[h,b,c]⟩;rw[c] at f;rw[b];exact⟨e f,fun k=>a ⟨f,k⟩⟩
def OfAns(s:Vu)(w:Vz)(e:Ending)(w':Vz):Prop:=∃q,QOf s q/\FNew w q e w'
theorem Qj9(s:Vs)(m:Int)(w:Vz)(hm:w.cell? ⟨4,0,none⟩=some (.int .i64 m))(k:s.size<=1073741824):
 Calls prog 63 #[.string s] w (OfAns s.data.toList w):=by
 obtain⟨t,ht⟩:=nm ((⟨(Lib.trimPrefix s.data.toList [45]).toArray⟩:ByteArray));obtain⟨neg,q⟩:=nm (Lib.hasPrefix s.data.toList [45]);have H:Lib.trimPrefix s.data.toList [45]=t.data.toList:=by rw[<-ht]
 have az:t.size<=1073741824:=by
  have:=Qec s.data.toList [45];rw[H,Qag,Qag] at this;omega
 obtain⟨c1,I⟩:∃c,(⟨(Lib.cut t.data.toList [47]).1.toArray⟩:ByteArray)=c:=⟨_,rfl⟩;obtain⟨c2,J⟩:∃c,(⟨(Lib.cut t.data.toList [47]).2.1.toArray⟩:ByteArray)=c:=⟨_,rfl⟩;obtain⟨bar,r⟩:∃b,(Lib.cut t.data.toList [47]).2.2=b:=⟨_,rfl⟩;have L:(Lib.cut t.data.toList [47]).1=c1.data.toList:=by rw[<-I]
 have M:(Lib.cut t.data.toList [47]).2.1=c2.data.toList:=by rw[<-J]
 have N:c1.size<=1073741824:=by have:=Qkf t.data.toList;rw[L,Qag,Qag] at this;omega
 have P:c2.size<=1073741824:=by have:=Qkg t.data.toList;rw[M,Qag,Qag] at this;omega
 have d:=Hi ((Below.refl w.heap.size w).alloc lZ (.cells zeroFrac 107));obtain⟨HM,f⟩:=Ia (ce d.o (World.block_lt_of_cell? _ _ hm) hm) (SB.new w 107 zeroFrac);obtain⟨wA,Q⟩:=nm (w.alloc (.cells zeroFrac 107));rw[Q] at d HM f;obtain⟨R,S⟩:=Ia (Qse s wA) (Qsf t m wA (by omega) HM.o);rw[ht,q] at R;rw[I,J,r] at S;obtain⟨am,y,af,T,U,V,an,ao,ag⟩:=Ih Q H q L M r (fun w=>Qka c1 w N) (fun w=>Qka c2 w P) (fun w h=>Qj8 c1 w N h);have ap:=Hi (fun w h=>Qj8 c2 w P h);clear ht q H I J r L M hm Q;go_enter func63,ntmps63;go_wp2_with fail;rw[show w.alloc (.cells #[.bool false,.slice none 0 0,.slice none 0 0] 107)=wA from am.o];go_fit R.o;rintro e w1 ⟨rfl,hw⟩;subst hw;clear R
 go_wp2_with fail;go_fit S.o;rintro e w1 ⟨rfl,nD,hw⟩;subst hw;clear S;have z:Bl w1 (w1.drewN nD):=Qga bR nD;obtain⟨wD,W⟩:=nm (w1.drewN nD);rw[W] at z;obtain⟨ah,ai,aq⟩:=Ib (d.o.trans (z.mono d.o.size)) (f.o.below z f.o.lt) W;clear z W d f HM;have d:=ah;have f:=ai;clear ah ai;go_wp2_with fail;rw[aq.o];go_fit (an.o _);rintro e w2 ⟨⟨v1,rfl,aj⟩,ar⟩;subst ar;have X:=Hi aj;clear aj;cases v1 with
 |false=>
  have Y:O (QOf s.data.toList 0):=Hi (Qgc y.o (fun h=>by have:=X.o.2 (by rw[<-T.o];exact h.1);cases this));have Z:=f.o.cell 0;have k1:=f.o.cell 1;have k2:=f.o.cell 2;have f0:=f.o.free 0;have f1:=f.o.free 1;have f2:=f.o.free 2;simp[zeroFrac] at Z k1 k2;go_wp2;refine bodyPost_ret (v:=.agg #[.bool false,.slice none 0 0,.slice none 0 0]) (results_cell_row rfl _ _ (w.heap.size) 107 #[.bool false,.slice none 0 0,.slice none 0 0] (0,0) _ rfl (((f.o.set 0 _).set 1 _).set 2 _) underlying107 rfl Tryz.fracInfo) rfl ?_;exact⟨0,Y.o,⟨_,rfl,FracV.zero _⟩,((d.o.setCell lZ _).setCell lZ _).setCell lZ _⟩
 |true=>
  have u:O (IsDig c1.data.toList):=Hi (X.o.1 rfl);clear X;cases bar with
  |false=>
   have Y:=Hi (Qd9 y.o af.o T.o U.o V.o u.o (fun h=>by cases h));go_wp2_with fail;go_fit (ag.o _ u.o.2);rintro e w3 G;obtain⟨⟨a,n,c,rfl,l⟩,j⟩:=G.numV;have A:=Hi l;have p:=Hi (f.o.below j f.o.lt);have i:=Hi (d.o.trans (j.mono d.o.size));clear f d l j G;have f:=p;have d:=i;clear p i;go_wp2_with fail;go_fit (Qdp neg a none n c 0 0 (decVal c1.data.toList) 1 _ A.o (.inl ⟨rfl,rfl,rfl,rfl⟩) (Nat.coprime_one_right _));rintro e w9 ⟨⟨v9,rfl,l⟩,j⟩;obtain⟨g,B,C,D,E,F,d9,rfl,l⟩:=l;have k:=f.o.below j f.o.lt;have Z:=k.cell 0;have k1:=k.cell 1;have k2:=k.cell 2;have f0:=k.free 0;have f1:=k.free 1;have f2:=k.free 2;simp[zeroFrac] at Z k1 k2;obtain⟨HV,x,aa⟩:=Ib l k (d.o.trans (j.mono d.o.size));clear l k j;go_wp2
   refine bodyPost_ret (v:=.agg #[.bool g,.slice B C D,.slice E F d9]) (results_cell_row rfl _ _ (w.heap.size) 107 #[.bool g,.slice B C D,.slice E F d9] (0,0) _ rfl (((x.o.set 0 _).set 1 _).set 2 _) underlying107 rfl Tryz.fracInfo) rfl ?_;have ho:=(((Only.refl (w.heap.size) w9).setCell 0 (.bool g)).setCell 1 (.slice B C D)).setCell 2 (.slice E F d9);exact⟨_,Y.o,⟨_,rfl,g,B,C,D,E,F,d9,rfl,HV.o.only ho x.o Qbh⟩,Only.fresh aa.o ho (by omega)⟩
  |true=>
   go_wp2_with fail;go_fit (ao.o _);rintro e w3 ⟨⟨v2,rfl,hv2⟩,au⟩;subst au;have ab:=Hi hv2;clear hv2;cases v2 with
   |false=>
    have Y:O (QOf s.data.toList 0):=Hi (Qgc y.o (fun h=>by have:=ab.o.2 (by rw[<-U.o];exact(h.2 V.o).1);cases this));have Z:=f.o.cell 0;have k1:=f.o.cell 1;have k2:=f.o.cell 2;have f0:=f.o.free 0;have f1:=f.o.free 1;have f2:=f.o.free 2;simp[zeroFrac] at Z k1 k2;go_wp2;refine bodyPost_ret (v:=.agg #[.bool false,.slice none 0 0,.slice none 0 0]) (results_cell_row rfl _ _ (w.heap.size) 107 #[.bool false,.slice none 0 0,.slice none 0 0] (0,0) _ rfl (((f.o.set 0 _).set 1 _).set 2 _) underlying107 rfl Tryz.fracInfo) rfl ?_;exact⟨0,Y.o,⟨_,rfl,FracV.zero _⟩,((d.o.setCell lZ _).setCell lZ _).setCell lZ _⟩
   |true=>
    have ad:O (IsDig c2.data.toList):=Hi (ab.o.1 rfl);clear ab;obtain⟨K0,ae⟩:=nm 1073741824;obtain⟨K,hK⟩:=nm (4*K0);have av:O (decVal c1.data.toList<2 ^ K):=Hi (by rw[<-hK];exact Qeb u.o.2 (by rw[Qag,<-ae];exact N));have aw:O (decVal c2.data.toList<2 ^ K):=Hi (by rw[<-hK];exact Qeb ad.o.2 (by rw[Qag,<-ae];exact P));have ax:O (K+K<137438953000):=Hi (by omega);clear hK ae;have Y:=Hi (Qd9 y.o af.o T.o U.o V.o u.o (fun _=>ad.o));go_wp2_with fail;go_fit (ag.o _ u.o.2);rintro e w3 G;obtain⟨⟨a,n,c,rfl,l⟩,j⟩:=G.numV;have A:=Hi l;have p:=Hi (f.o.below j f.o.lt);have i:=Hi (d.o.trans (j.mono d.o.size));clear f d l j G;have f:=p;have d:=i;clear p i;go_wp2_with fail;go_fit (ap.o _ ad.o.2);rintro e w4 G;obtain⟨⟨a2,n2,ay,rfl,l⟩,j⟩:=G.numV;have ak:=Hi l
    have al:=Hi (A.o.below j);have p:=Hi (f.o.below j f.o.lt);have i:=Hi (d.o.trans (j.mono d.o.size));clear f d l j G A;have f:=p;have d:=i;clear p i;go_wp2_with fail;go_fit (Qnt neg a a2 n c n2 ay (decVal c1.data.toList) (decVal c2.data.toList) K K _ al.o ak.o av.o aw.o ax.o);rintro e w9 ⟨⟨v9,rfl,l⟩,j⟩;obtain⟨g,B,C,D,E,F,d9,rfl,l⟩:=l;have k:=f.o.below j f.o.lt;have Z:=k.cell 0;have k1:=k.cell 1;have k2:=k.cell 2;have f0:=k.free 0;have f1:=k.free 1;have f2:=k.free 2;simp[zeroFrac] at Z k1 k2;obtain⟨HV,x,aa⟩:=Ib l k (d.o.trans (j.mono d.o.size));clear l k j;go_wp2
    refine bodyPost_ret (v:=.agg #[.bool g,.slice B C D,.slice E F d9]) (results_cell_row rfl _ _ (w.heap.size) 107 #[.bool g,.slice B C D,.slice E F d9] (0,0) _ rfl (((x.o.set 0 _).set 1 _).set 2 _) underlying107 rfl Tryz.fracInfo) rfl ?_;have ho:=(((Only.refl (w.heap.size) w9).setCell 0 (.bool g)).setCell 1 (.slice B C D)).setCell 2 (.slice E F d9);exact⟨_,Y.o,⟨_,rfl,g,B,C,D,E,F,d9,rfl,HV.o.only ho x.o Qbh⟩,Only.fresh aa.o ho (by omega)⟩
end Go.Proofs.YtkkadnoecklepaaGreatDoor
namespace Go.Proofs
open Go.Shelf
def Tryz.lays169_ren:Go.Shelf.Ren:=⟨fun|169=>190|n=>n,fun|70=>225|9=>9|0=>0|72=>228|37=>226|127=>266|3=>3|5=>5|n=>n,fun|n=>n⟩
theorem Tryz.lays169:Go.Proofs.Lays.n169 Tryz.prog Tryz.lays169_ren:={
 mixed:=by kernel_rfl
 f169:=Tryz.func190.trans (congrArg some (by kernel_rfl))
 t0:=Tryz.underlying0
 a0:=Tryz.isAgg0
 z0:=Tryz.sizeOf0
 v0:=Tryz.zeroValue0
 t3:=Tryz.underlying3
 a3:=Tryz.isAgg3
 z3:=Tryz.sizeOf3
 v3:=Tryz.zeroValue3
 t9:=Tryz.underlying9
 a9:=Tryz.isAgg9
 z9:=Tryz.sizeOf9
 v9:=Tryz.zeroValue9
 t37:=Tryz.underlying226
 a37:=Tryz.isAgg226
 z37:=Tryz.sizeOf226
 v37:=Tryz.zeroValue226
 t70:=Tryz.underlying225
 a70:=Tryz.isAgg225
 z70:=Tryz.sizeOf225
 v70:=Tryz.zeroValue225
 t72:=Tryz.underlying228
 a72:=Tryz.isAgg228
 z72:=Tryz.sizeOf228
 v72:=Tryz.zeroValue228
 t127:=Tryz.underlying266
 a127:=Tryz.isAgg266
 z127:=Tryz.sizeOf266
 v127:=Tryz.zeroValue266 }
def Tryz.lays283_ren:Go.Shelf.Ren:=⟨fun|283=>258|n=>n,fun|3=>3|9=>9|4=>4|n=>n,fun|n=>n⟩
theorem Tryz.lays283:Go.Proofs.Lays.n283 Tryz.prog Tryz.lays283_ren:={
 mixed:=by kernel_rfl
 f283:=Tryz.func258.trans (congrArg some (by kernel_rfl))
 t3:=Tryz.underlying3
 a3:=Tryz.isAgg3
 z3:=Tryz.sizeOf3
 v3:=Tryz.zeroValue3
 t4:=Tryz.underlying4
 a4:=Tryz.isAgg4
 z4:=Tryz.sizeOf4
 v4:=Tryz.zeroValue4
 t9:=Tryz.underlying9
 a9:=Tryz.isAgg9
 z9:=Tryz.sizeOf9
 v9:=Tryz.zeroValue9 }
def Tryz.lays284_ren:Go.Shelf.Ren:=⟨fun|284=>259|129=>245|317=>263|318=>264|n=>n,fun|53=>190|3=>3|212=>295|0=>0|4=>4|46=>238|5=>5|9=>9|n=>n,fun|17=>9|n=>n⟩
theorem Tryz.lays284:Go.Proofs.LaysM.n284 Tryz.prog Tryz.lays284_ren:={
 mixed:=by kernel_rfl
 f129:=Tryz.func245.trans (congrArg some (by kernel_rfl))
 f284:=Tryz.func259.trans (congrArg some (by kernel_rfl))
 f317:=Tryz.func263.trans (congrArg some (by kernel_rfl))
 f318:=Tryz.func264.trans (congrArg some (by kernel_rfl))
 t0:=Tryz.underlying0
 a0:=Tryz.isAgg0
 z0:=Tryz.sizeOf0
 v0:=Tryz.zeroValue0
 t3:=Tryz.underlying3
 a3:=Tryz.isAgg3
 z3:=Tryz.sizeOf3
 v3:=Tryz.zeroValue3
 t4:=Tryz.underlying4
 a4:=Tryz.isAgg4
 z4:=Tryz.sizeOf4
 v4:=Tryz.zeroValue4
 t5:=Tryz.underlying5
 a5:=Tryz.isAgg5
 z5:=Tryz.sizeOf5
 v5:=Tryz.zeroValue5
 t9:=Tryz.underlying9
 a9:=Tryz.isAgg9
 z9:=Tryz.sizeOf9
 v9:=Tryz.zeroValue9
 t46:=Tryz.underlying238
 a46:=Tryz.isAgg238
 z46:=Tryz.sizeOf238
 v46:=Tryz.zeroValue238
 t53:=Tryz.underlying190
 a53:=Tryz.isAgg190
 z53:=Tryz.sizeOf190
 v53:=Tryz.zeroValue190
 t212:=Tryz.underlying295
 a212:=Tryz.isAgg295
 z212:=Tryz.sizeOf295
 v212:=Tryz.zeroValue295
 g17:=by kernel_rfl
 i0:=by kernel_rfl
 i3:=by kernel_rfl
 i4:=by kernel_rfl
 i5:=by kernel_rfl
 i9:=by kernel_rfl
 i46:=by kernel_rfl
 i53:=by kernel_rfl
 i212:=by kernel_rfl
 m17:=by kernel_rfl }
def Tryz.lays285_ren:Go.Shelf.Ren:=⟨fun|285=>260|n=>n,fun|37=>226|53=>190|3=>3|4=>4|51=>233|9=>9|5=>5|0=>0|n=>n,fun|n=>n⟩
theorem Tryz.lays285:Go.Proofs.Lays.n285 Tryz.prog Tryz.lays285_ren:={
 mixed:=by kernel_rfl
 f285:=Tryz.func260.trans (congrArg some (by kernel_rfl))
 t0:=Tryz.underlying0
 a0:=Tryz.isAgg0
 z0:=Tryz.sizeOf0
 v0:=Tryz.zeroValue0
 t3:=Tryz.underlying3
 a3:=Tryz.isAgg3
 z3:=Tryz.sizeOf3
 v3:=Tryz.zeroValue3
 t4:=Tryz.underlying4
 a4:=Tryz.isAgg4
 z4:=Tryz.sizeOf4
 v4:=Tryz.zeroValue4
 t5:=Tryz.underlying5
 a5:=Tryz.isAgg5
 z5:=Tryz.sizeOf5
 v5:=Tryz.zeroValue5
 t9:=Tryz.underlying9
 a9:=Tryz.isAgg9
 z9:=Tryz.sizeOf9
 v9:=Tryz.zeroValue9
 t37:=Tryz.underlying226
 a37:=Tryz.isAgg226
 z37:=Tryz.sizeOf226
 v37:=Tryz.zeroValue226
 t51:=Tryz.underlying233
 a51:=Tryz.isAgg233
 z51:=Tryz.sizeOf233
 v51:=Tryz.zeroValue233
 t53:=Tryz.underlying190
 a53:=Tryz.isAgg190
 z53:=Tryz.sizeOf190
 v53:=Tryz.zeroValue190 }
end Go.Proofs
namespace Go.Proofs.YtkkadnoecklepaaGreatDoor
open Go.RowKit
open Go.Proofs.Tryz
set_option linter.unusedSimpArgs false
set_option linter.unusedVariables false
set_option maxHeartbeats 8000000
set_option maxRecDepth 1000000
section
open Go.RowKit Go.Sort Go.Lib
def Tab(w:Vz):Prop:=Lib.TabIs prog w "internal/strconv.uint64pow10" .u64 Lib.pow10Tab
theorem Tab.below{w c:Vz}(h:Tab w)(d:Bl w c):Tab c:=by
 unfold Tab Lib.TabIs World.var? at*;cases hg:prog.globalNamed "internal/strconv.uint64pow10" with
 |none=>simp[hg] at h
 |some g=>
  simp only[hg,Option.bind_some] at h ⊢;have a:g<w.heap.size:=by
   rcases Nat.lt_or_ge g w.heap.size with b|b
   . exact b
   . simp[Array.getElem?_eq_none b] at h
  rw[d.block g a];exact h
theorem Qv3(i:Nat)(h:i<100)(w:Vz):Calls prog 258 #[.int .i64 i] w fun e a=>e=.returned (.string ⟨(Lib.decDigits i).toArray⟩)/\a=w:=Any.internal_strconv_small Tryz.lays283 i h w
theorem Qv4(u:Nat)(a:1<=u)(b:u<18446744073709551616)(w:Vz)(c:Tab w):Calls prog 259 #[.int .u64 u] w fun e d=>e=.returned (.int .i64 (Lib.nDigits u))/\d=w:=Any.internal_strconv_numDigits Tryz.lays284 u a b w c
theorem Qv5(a c f:Nat)(u:Nat)(d:Array UInt8)(w:Vz)(j:Go.Sort.Holds (fun (b:UInt8)=>Value.int .u8 (b.toNat:Int)) w a c d)(k:u<10 ^ d.size)(g:u<18446744073709551616)(h:d.size<4611686018427387904):
 Calls prog 260 #[.slice (some ⟨a,c,none⟩) d.size f,.int .u64 u] w fun e l=>
  e=.returned (.tuple #[])/\∃(n m:Nat) (i:Array UInt8),l=(putRow (fun (b:UInt8)=>Value.int .u8 (b.toNat:Int)) w a c i).drewN n/\FmtInv d.size u 0 m i:=Any.internal_strconv_formatBase10 Tryz.lays285 a c f u d w j k g h
theorem Qv6(w:Vz)(T:Vr)(a:Nat)(e:a<=24):Go.Sort.Holds (fun (b:UInt8)=>Value.int .u8 (b.toNat:Int)) (w.alloc (.cells zeros24 T)) w.heap.size 0 (Array.replicate a (0:UInt8)):=fun j c=>by
 have d:j<a:=by simpa using c
 refine⟨?_,World.frozen?_alloc_new _ _ _ _⟩;rw[World.cell?_alloc_new,zeros24_at _ (by omega),getElem!_pos _ j c];simp
theorem Qv7(w:Vz)(o:Obj)(c:Array UInt8)(k:Nat):Bl w ((putRow (fun (b:UInt8)=>Value.int .u8 (b.toNat:Int)) (w.alloc o) w.heap.size 0 c).drewN k):=by
 rw[alloc_eq_grow];obtain⟨a,_,e⟩:=putRow_grow_new (fun (b:UInt8)=>Value.int .u8 (b.toNat:Int)) w #[o] w.heap.size 0 c lZ;rw[e];exact below_grow w.heap.size w lZ k a
theorem Qv8(u:Nat)(a:u<18446744073709551616)(w:Vz)(v:Tab w):
 Calls prog 256 #[.int .u64 u,.int .i64 10] w fun e G=>e=.returned (.string ⟨(Lib.decDigits u).toArray⟩)/\Below w.heap.size w G:=by
 by_cases D:u<100
 .
  have E:=Hi (Qv3 u D w);clear v;go_enter func256,ntmps256;go_wp2_with fail;go_fit E.o;rintro e w1 ⟨rfl,x⟩;subst x;clear E;go_wp2;go_ret;exact⟨rfl,Below.refl _ _⟩
 .
  have i:Lib.nDigits u<=20:=by have:=Lib.numDigits_eq u (by omega) a;split at this<;>omega
  obtain⟨p,c,d,f⟩:=Ic (Lib.lt_pow_nDigits u) (Lib.decDigits_length u) (Qv4 u (by omega) a (w.alloc (.cells zeros24 288)) (Tab.below v (bR.alloc lZ _))) (Qv6 w 288 (Lib.nDigits u) (by omega));have q:=Hi (Qv5 w.heap.size 0 24 u (Array.replicate (Lib.nDigits u) 0) (w.alloc (.cells zeros24 288)) f.o (by rw[Array.size_replicate];exact p.o) a (by rw[Array.size_replicate];omega));rw[Array.size_replicate] at q;obtain⟨N,y⟩:=nm (Lib.nDigits u);have H:∀W,(Instr.sliceAt 288 (.pointer (some ⟨w.heap.size,0,none⟩)) none (some (.int .i64 (N:Int))) none).run prog W=.ok (.slice (some ⟨w.heap.size,0,none⟩) N 24) W:=fun W=>by
   have z:prog.arrayLen 288=24:=by simp[Program.arrayLen,underlying288]
   rw[run_sliceAt_array_h W 288 ⟨w.heap.size,0,none⟩ (by simp[Program.arrayLen,Program.elem,underlying288]) .i64 (N:Int) (by omega) (by rw[z];omega)];go_simp
  rw[y] at p c d f q i;have J:¬((u:Int)<100):=by omega
  obtain⟨K,l⟩:=nm (w.alloc (.cells zeros24 288));obtain⟨A,r⟩:=Ia l (fun s k=>Qv7 w (.cells zeros24 288) s k);rw[l] at d f q r;have B:=Hi y;have F:N<=24:=by omega
  clear v D l y;go_enter func256,ntmps256;go_wp2_with fail;have m:=A.o;unfold zeros24 at m;rw[m];clear m;go_fit d.o;rintro e w1 ⟨rfl,x⟩;subst x;clear d;go_wp2_with fail;go_fit q.o;rintro e w2 ⟨rfl,k,L,s,n,t⟩;have g:=Hi (r.o s k);rw[<-n] at g;have I:(convert 226 9 (.slice (some ⟨w.heap.size,0,none⟩) N 24)).run prog w2=.ok (.string ⟨(Lib.decDigits u).toArray⟩) w2:=by
   have h:=run_convert_bytes_back (P:=prog) w2 226 9 5 ⟨w.heap.size,0,none⟩ 24 (Lib.decDigits u) underlying226 underlying5 underlying9 (fun j C=>by
    rw[c.o] at C;rw[Lib.row_is_numeral (by rw[B.o];exact t) j (by rw[c.o];exact C),Lib.add_plain,n,World.cell?_drewN]
    exact cell?_putRow (fun (b:UInt8)=>Value.int .u8 (b.toNat:Int)) _ w.heap.size 0 _ s f.o (by rw[t.size,Array.size_replicate]) j (by rw[t.size];exact C))
   rw[c.o] at h;exact h
  clear n t q;go_wp2;go_ret;exact⟨rfl,g.o⟩
theorem Qv9(u:Nat)(a:u<18446744073709551616)(w:Vz)(b:Tab w):
 Calls prog 249 #[.int .u64 u,.int .i64 10] w fun e f=>e=.returned (.string ⟨(Lib.decDigits u).toArray⟩)/\Below w.heap.size w f:=by
 have c:=Hi (Qv8 u a w b);clear b;go_enter func249,ntmps249;go_wp2_with fail;go_fit c.o;rintro e w1 ⟨rfl,d⟩;have g:=Hi d;clear c d;go_wp2;go_ret;exact⟨rfl,g.o⟩
end
theorem Tryz.extra:Builder.Extra prog Tryz.lays169_ren where
 sizeBuilder:=by kernel_rfl
 liesBuilder:=by kernel_rfl
 t5:=underlying5
 a5:=Tryz.isAgg5
 z5:=Tryz.sizeOf5
 v5:=Tryz.zeroValue5
 infoByte:=by kernel_rfl
 cellsByte:=by kernel_rfl
 sizeByte:=by kernel_rfl
 neB5:=by decide
theorem Tryz.bdSize:(prog.info? 228).map (·.size)=some 2:=by kernel_rfl
theorem Tryz.bdLies:liesAt prog prog.depth 228 (2 / prog.cellsOf 228) 0 228 1=true:=by kernel_rfl
abbrev Bd(B b:Nat)(bs:Vv)(w:Vz):Prop:=Lib.IsBuilder 228 5 B b bs w
abbrev BdAt(B b:Nat)(bs:Vv)(w:Vz):Prop:=Lib.BuilderAt 228 5 B b (.pointer (some ⟨b,0,none⟩)) bs w
theorem Qvl(B b:Nat)(l:Vu)(w:Vz)(h:Bd B b (Lib.byteCells l) w)(a:B<=w.heap.size):
 Calls prog 190 #[.pointer (some ⟨b,0,none⟩)] w fun e c=>e=.returned (.string ⟨l.toArray⟩)/\Below B w c:=Any.Builder_String_any Tryz.lays169 Tryz.extra B b l w h a
theorem Qvm(b:Nat)(w:Vz)(f:w.cell? ⟨b,0,none⟩=some (.pointer (some ⟨b,0,none⟩))):
 Calls prog 257 #[.pointer (some ⟨b,0,none⟩)] w fun e a=>e=.returned (.tuple #[])/\a=w:=by
 obtain⟨j,c,_⟩:=Option.map_eq_some_iff.1 Tryz.bdSize;have d:∀w,(binOp .neq 225 (.pointer (some ⟨b,0,none⟩)) (.pointer (some ⟨b,0,none⟩))).run prog w=.ok (.bool false) w:=fun w=>Lib.run_neq_ptr_same w ⟨b,0,none⟩ underlying225 c
 go_enter func257,ntmps257;go_wp2;go_end0;exact⟨rfl,rfl⟩
theorem Qvn(b:Nat)(w:Vz)(i:w.cell? ⟨b,0,none⟩=some (.pointer none))(a:w.shape? b=some (228,2))(f:w.frozen? ⟨b,0,none⟩=false):
 Calls prog 257 #[.pointer (some ⟨b,0,none⟩)] w fun e g=>e=.returned (.tuple #[])/\g=w.setCell ⟨b,0,none⟩ (.pointer (some ⟨b,0,none⟩)):=by
 obtain⟨j,d,c⟩:=Option.map_eq_some_iff.1 Tryz.bdSize;have k:(convert 225 292 (.pointer (some ⟨b,0,none⟩))).run prog w=.ok (.pointer (some ⟨b,0,none⟩)) w:=Lib.run_to_unsafe w ⟨b,0,none⟩ underlying225 underlying292 d (by rw[c];decide) a (Nat.zero_lt_succ 1);have h:(callFunc 262 #[.pointer (some ⟨b,0,none⟩)]).run prog w=.ok (.value (.pointer (some ⟨b,0,none⟩))) w:=by
  rw[run_callFunc_extern func262 (by kernel_rfl) (by kernel_rfl) (by kernel_rfl) (e:=Extern.AbiNoEscape.same) (by kernel_rfl),Lib.run_noEscape];rfl
 have l:(convert 292 225 (.pointer (some ⟨b,0,none⟩))).run prog w=.ok (.pointer (some ⟨b,0,none⟩)) w:=Lib.run_from_unsafe w ⟨b,0,none⟩ underlying292 underlying225 d a Tryz.bdLies;clear d c a;go_enter func257,ntmps257;go_wp2_with simp only[h];go_end0;exact⟨rfl,rfl⟩
end Go.Proofs.YtkkadnoecklepaaGreatDoor
