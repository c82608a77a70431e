import Derived.Test.YtppkmifkpjkgpaaGreatDoorC16NumNat
namespace Go.Proofs.YtppkmifkpjkgpaaGreatDoor
open Go.RowKit
open Go.Proofs.Tryz
set_option linter.unusedSimpArgs false
set_option linter.unusedVariables false
set_option maxHeartbeats 8000000
set_option maxRecDepth 1000000
theorem FracAt.drew{w:Vz}{neg:Bool}{a b:Vx}{n c m d:Nat}{q:Rat}(h:FracAt w neg a n c b m d q):FracAt w.drew neg a n c b m d q:=h.below bR.drew
theorem Qog{p q:Rat}{a c r:Bool}{t:Nat}(d:a=decide (p.num<0))(f:c=decide (q.num<0))(h:sgn r t=sgn a (p.num.natAbs*(q.den / Nat.gcd p.den q.den))+sgn c (q.num.natAbs*(p.den / Nat.gcd p.den q.den))):
 mkRat (sgn r (t / Nat.gcd t (Nat.gcd p.den q.den))) (p.den / Nat.gcd p.den q.den*(q.den / Nat.gcd t (Nat.gcd p.den q.den)))=p+q/\Nat.Coprime (t / Nat.gcd t (Nat.gcd p.den q.den)) (p.den / Nat.gcd p.den q.den*(q.den / Nat.gcd t (Nat.gcd p.den q.den))):=by
 refine Qof p q rfl ?_ rfl;have e:∀(b:Bool) (u v:Nat),sgn b (u*v)=sgn b u*(v:Int):=fun b u v=>by have:=Qce b false u v;rw[Bool.bne_false] at this;exact this
 rw[h,e,e,d,f,Qb2,Qb2]
theorem Qoh(M N:Bool)(P bx Q b2:Vx)(R S T U V W X Y i j:Nat)(p q:Rat)(w:Vz)(hx:FracAt w M P R S bx T U p)(hy:FracAt w N Q V W b2 X Y q)(hp:Fits p i)(hq:Fits q j)(ar:i+j<68719476000):
 Calls prog 146 #[.agg #[.bool M,.slice P R S,.slice bx T U],.agg #[.bool N,.slice Q V W,.slice b2 X Y]] w (FNew w (p+q)):=by
 obtain⟨HX,HY,ag,ah⟩:=Ic hx hy hp hq;obtain⟨CX,ai⟩:=nm (#[Value.bool M,.slice P R S,.slice bx T U]);obtain⟨CY,aj⟩:=nm (#[Value.bool N,.slice Q V W,.slice b2 X Y]);obtain⟨a,H,z,A,b⟩:=Id ((((((NBag.start hx.top hy.top hp.1 hq.1).alloc (.cells CX 141)).alloc (.cells CY 141)).alloc (.cells zeroFrac 141)).rebase)) (SB.new3 w 141 141 141 CX CY zeroFrac) ((SB.new2 w 141 141 CX CY).alloc (.cells zeroFrac 141)) (((SB.new w 141 CX).alloc (.cells CY 141)).alloc (.cells zeroFrac 141)) (Below.new3 w (.cells CX 141) (.cells CY 141) (.cells zeroFrac 141));obtain⟨f,Z⟩:=nm ((((w.alloc (.cells CX 141)).alloc (.cells CY 141)).alloc (.cells zeroFrac 141)));rw[Z] at a H z A b;subst ai aj;obtain⟨ak,al⟩:=Ia (hx.low.below b.o) (hy.low.below b.o);have u:=A.o.lt
 have x:=z.o.lt;obtain⟨g,h,k,l,m,n⟩:=Ie (A.o.cell 0) (A.o.cell 1) (A.o.cell 2) (z.o.cell 0) (z.o.cell 1) (z.o.cell 2);simp at g h k l m n;have am:=Hi Z;have au:w.heap.size+1+1≠w.heap.size:=by omega
 have av:w.heap.size+1+1≠w.heap.size+1:=by omega
 clear hx hy hp hq Z;have y:=Hi (show 0<Nat.gcd p.den q.den from Nat.gcd_pos_of_pos_right _ q.den_pos);go_enter func146,ntmps146;obtain⟨B,C,D⟩:=Jb a.o.base u g.o h.o k.o;obtain⟨E,F,G⟩:=Jb a.o.base x l.o m.o n.o;go_wp2_with fail;rw[show (((w.alloc (.cells #[.bool M,.slice P R S,.slice bx T U] 141)).alloc (.cells #[.bool N,.slice Q V W,.slice b2 X Y] 141)).alloc (.cells #[.bool false,.slice none 0 0,.slice none 0 0] 141))=f from am.o];go_region_held3
  (fun w'=>w'.cell? ⟨w.heap.size,0,none⟩=some (.bool M)/\w'.cell? ⟨w.heap.size,1,none⟩=some (.slice P R S)/\w'.cell? ⟨w.heap.size,2,none⟩=some (.slice bx T U)/\w'.cell? ⟨w.heap.size+1,0,none⟩=some (.bool N)/\w'.cell? ⟨w.heap.size+1,1,none⟩=some (.slice Q V W)/\w'.cell? ⟨w.heap.size+1,2,none⟩=some (.slice b2 X Y)) ((first|(simp [*];done)|go_keep))
  (first
  |
   (go_at_call_of 161 (Value.agg #[.bool M,.slice P R S,.slice bx T U])
    apply cM;apply NBag.under (w0:=f) (hl:=ak.o) (hk:=ag.o.2);(focus(first|exact a.o|exact a.o.drew|exact a.o.drew.drew));rintro e w3 ⟨aA,nA,cA,rfl,c⟩;clear a;have a:=Hi c;clear c;obtain⟨B,C,D⟩:=Jb a.o.base u g.o h.o k.o;obtain⟨E,F,G⟩:=Jb a.o.base x l.o m.o n.o
    skip)
  |
   (go_at_call_of 161 (Value.agg #[.bool N,.slice Q V W,.slice b2 X Y])
    apply cM;apply NBag.under (w0:=f) (hl:=al.o) (hk:=ah.o.2);(focus(first|exact a.o|exact a.o.drew|exact a.o.drew.drew));rintro e w4 ⟨aB,nB,cB,rfl,c⟩;clear a;have a:=Hi c;clear c;obtain⟨B,C,D⟩:=Jb a.o.base u g.o h.o k.o;obtain⟨E,F,G⟩:=Jb a.o.base x l.o m.o n.o
    skip)
  )
 go_wp2_with
  ((skip
    first
     |(
      go_at_call 168;apply cM
      apply NBag.gcd (w0:=f))
     |(
      go_at_call 169;apply cM
      apply NBag.quot (w0:=f))
     |(
      go_at_call 177;apply cM
      apply NBag.mul (w0:=f))
     |(
      go_at_call 176;apply cM
      apply NBag.addSigned (w0:=f))
    (focus(first|exact a.o|exact a.o.drew|exact a.o.drew.drew));(focus(repeat(first|exact mH|apply mT)));(focus(repeat(first|exact mH|apply mT)));omega
    try (focus(exact y.o))
    first
     |rintro e wn ⟨an,nn,cn,rfl,c⟩
     |(
      rintro e wn ⟨r,aT,nT,cT,t,rfl,c,K⟩;have HT:=Hi K
      clear K)
    clear a;have a:=Hi c;clear c;obtain⟨B,C,D⟩:=Jb a.o.base u g.o h.o k.o;obtain⟨E,F,G⟩:=Jb a.o.base x l.o m.o n.o
    skip))
 go_region_held3
  (fun w'=>w'.cell? ⟨w.heap.size,0,none⟩=some (.bool M)/\w'.cell? ⟨w.heap.size,1,none⟩=some (.slice P R S)/\w'.cell? ⟨w.heap.size,2,none⟩=some (.slice bx T U)/\w'.cell? ⟨w.heap.size+1,0,none⟩=some (.bool N)/\w'.cell? ⟨w.heap.size+1,1,none⟩=some (.slice Q V W)/\w'.cell? ⟨w.heap.size+1,2,none⟩=some (.slice b2 X Y)) ((first|(simp [*];done)|go_keep))
  ((skip
    first
     |(
      go_at_call 168;apply cM
      apply NBag.gcd (w0:=f))
     |(
      go_at_call 169;apply cM
      apply NBag.quot (w0:=f))
     |(
      go_at_call 177;apply cM
      apply NBag.mul (w0:=f))
     |(
      go_at_call 176;apply cM
      apply NBag.addSigned (w0:=f))
    (focus(first|exact a.o|exact a.o.drew|exact a.o.drew.drew));(focus(repeat(first|exact mH|apply mT)));(focus(repeat(first|exact mH|apply mT)));omega
    try (focus(exact y.o))
    first
     |rintro e wn ⟨an,nn,cn,rfl,c⟩
     |(
      rintro e wn ⟨r,aT,nT,cT,t,rfl,c,K⟩;have HT:=Hi K
      clear K)
    clear a;have a:=Hi c;clear c;obtain⟨B,C,D⟩:=Jb a.o.base u g.o h.o k.o;obtain⟨E,F,G⟩:=Jb a.o.base x l.o m.o n.o
    skip))
 have hE:=Qog HX.o.neg HY.o.neg HT.o;have aa:0<Nat.gcd t (Nat.gcd p.den q.den):=Nat.gcd_pos_of_pos_right _ y.o;have HZ:=Hi (a.o.get (List.Mem.head _)).1.zero_iff;obtain⟨ao,HE,ae,ap⟩:=Ic aa hE.1 hE.2 (show 0<p.den / Nat.gcd p.den q.den*(q.den / Nat.gcd t (Nat.gcd p.den q.den)) from Nat.mul_pos (Nat.div_pos (Nat.gcd_le_left _ p.den_pos) y.o) (Nat.div_pos (Nat.le_trans (Nat.gcd_le_right _ y.o) (Nat.gcd_le_right _ q.den_pos)) aa));clear hE aa;by_cases I:t=0
 .
  have aq:((nT:Int) == 0)=true:=by have:=HZ.o.1 I;simp[this]
  have ab:O (p+q=0):=Hi (by rw[<-HE.o,I,Nat.zero_div,Qig,Rat.zero_mkRat]);clear HE ae I;have d:=H.o.below a.o.base H.o.lt;have k0:=d.cell 0;have k1:=d.cell 1;have k2:=d.cell 2;have f0:=d.free 0;have f1:=d.free 1;have f2:=d.free 2;simp[zeroFrac] at k0 k1 k2;obtain⟨J,ad⟩:=Ia d (b.o.trans (a.o.base.mono b.o.size));clear d a;go_wp2;refine bodyPost_ret (v:=.agg #[.bool false,.slice none 0 0,.slice none 0 0]) (results_cell_row rfl _ _ (w.heap.size+1+1) 141 #[.bool false,.slice none 0 0,.slice none 0 0] (0,0) _ rfl (((J.o.set 0 _).set 1 _).set 2 _) underlying141 rfl Tryz.fracInfo) rfl ?_;have ho:=(((Only.refl (w.heap.size+1+1) wn).setCell 0 (.bool false)).setCell 1 (.slice none 0 0)).setCell 2 (.slice none 0 0);exact⟨⟨_,rfl,by first|exact FracV.zero _|(rw [ab.o];exact FracV.zero _)⟩,Only.fresh ad.o ho (by omega)⟩
 .
  have aq:((nT:Int) == 0)=false:=by rw[beq_eq_false_iff_ne];have:=HZ.o.2;omega
  clear I;go_wp2_with
   ((skip
     first
      |(
       go_at_call 168;apply cM
       apply NBag.gcd (w0:=f))
      |(
       go_at_call 169;apply cM
       apply NBag.quot (w0:=f))
      |(
       go_at_call 177;apply cM
       apply NBag.mul (w0:=f))
      |(
       go_at_call 176;apply cM
       apply NBag.addSigned (w0:=f))
     (focus(first|exact a.o|exact a.o.drew|exact a.o.drew.drew));(focus(repeat(first|exact mH|apply mT)));(focus(repeat(first|exact mH|apply mT)));omega
     try (focus(first|exact y.o|exact ao.o))
     first
      |rintro e wn ⟨an,nn,cn,rfl,c⟩
      |(
       rintro e wn ⟨r,aT,nT,cT,t,rfl,c,K⟩;have HT:=Hi K
       clear K)
     clear a;have a:=Hi c;clear c;obtain⟨B,C,D⟩:=Jb a.o.base u g.o h.o k.o;obtain⟨E,F,G⟩:=Jb a.o.base x l.o m.o n.o
     skip))
  have af:=Hi (H.o.below a.o.base H.o.lt);have L:=Hi (b.o.trans (a.o.base.mono b.o.size));clear H b;have H:=af;have b:=L;clear af L;apply cM;apply NBag.built (w0:=f) a.o;(focus(repeat(first|exact mH|apply mT)));(focus(repeat(first|exact mH|apply mT)));(focus(exact ap.o));(focus(exact ae.o));rw[HE.o];rintro e w9 ⟨⟨v9,rfl,hv⟩,c⟩;obtain⟨s,a9,n9,c9,b9,m9,d9,rfl,hv⟩:=hv;have d:=H.o.below c H.o.lt;have k0:=d.cell 0;have k1:=d.cell 1;have k2:=d.cell 2;have f0:=d.free 0;have f1:=d.free 1;have f2:=d.free 2;simp[zeroFrac] at k0 k1 k2;obtain⟨HV,J,ad⟩:=Ib hv d (b.o.trans (c.mono b.o.size));clear hv d c;go_wp2
  refine bodyPost_ret (v:=.agg #[.bool s,.slice a9 n9 c9,.slice b9 m9 d9]) (results_cell_row rfl _ _ (w.heap.size+1+1) 141 #[.bool s,.slice a9 n9 c9,.slice b9 m9 d9] (0,0) _ rfl (((J.o.set 0 _).set 1 _).set 2 _) underlying141 rfl Tryz.fracInfo) rfl ?_;have ho:=(((Only.refl (w.heap.size+1+1) w9).setCell 0 (.bool s)).setCell 1 (.slice a9 n9 c9)).setCell 2 (.slice b9 m9 d9);exact⟨⟨_,rfl,s,a9,n9,c9,b9,m9,d9,rfl,HV.o.only ho J.o Qbk⟩,Only.fresh ad.o ho (by omega)⟩
theorem Qfl{d e:Value}{i j:Nat}{p q:Rat}{w:Vz}(a:FracV w d p)(b:FracV w e q)(f:Fits p i)(g:Fits q j)(c:i+j<68719476000):Calls prog 160 #[d,e] w (FNew w (p*q)):=by
 obtain⟨h,k,l,m,bx,n,o,rfl,a⟩:=a;obtain⟨r,s,t,u,b2,v,x,rfl,b⟩:=b;exact Qif h r k bx s b2 l m n o t u v x i j p q w a b f g c
theorem Qoi(G H:Bool)(I bx J b2:Vx)(K L M N P Q R S i j:Nat)(p q:Rat)(w:Vz)(hx:FracAt w G I K L bx M N p)(hy:FracAt w H J P Q b2 R S q)(hp:Fits p i)(hq:Fits q j)(al:i+j<68719476000):
 Calls prog 101 #[.agg #[.bool G,.slice I K L,.slice bx M N],.agg #[.bool H,.slice J P Q,.slice b2 R S]] w (FNew w (p - q)):=by
 rw[Rat.sub_eq_add_neg];obtain⟨HX,HY,aa,ab⟩:=Ic hx hy hp hq;obtain⟨E,ad⟩:=nm (#[Value.bool G,.slice I K L,.slice bx M N]);obtain⟨F,ae⟩:=nm (#[Value.bool H,.slice J P Q,.slice b2 R S]);obtain⟨HR,HS,f,g,b⟩:=Id ((((((NBag.start hx.top hy.top hp.1 hq.1).alloc (.cells E 141)).alloc (.cells F 141)).alloc (.cells zeroFrac 141)).rebase)) (SB.new3 w 141 141 141 E F zeroFrac) ((SB.new2 w 141 141 E F).alloc (.cells zeroFrac 141)) (((SB.new w 141 E).alloc (.cells F 141)).alloc (.cells zeroFrac 141)) (Below.new3 w (.cells E 141) (.cells F 141) (.cells zeroFrac 141));obtain⟨h,y⟩:=nm ((((w.alloc (.cells E 141)).alloc (.cells F 141)).alloc (.cells zeroFrac 141)));rw[y] at HR HS f g b;subst ad ae;obtain⟨am,an⟩:=Ia (hx.low.below b.o) (hy.low.below b.o)
 have z:=g.o.lt;have A:=f.o.lt;obtain⟨k,l,m,n,r,s⟩:=Ie (g.o.cell 0) (g.o.cell 1) (g.o.cell 2) (f.o.cell 0) (f.o.cell 1) (f.o.cell 2);simp at k l m n r s;have af:=Hi y;have ao:w.heap.size+1+1≠w.heap.size:=by omega
 have ap:w.heap.size+1+1≠w.heap.size+1:=by omega
 clear hx hy hp hq y;go_enter func101,ntmps101;obtain⟨T,U,V⟩:=Jb HR.o.base z k.o l.o m.o;obtain⟨W,X,Y⟩:=Jb HR.o.base A n.o r.o s.o;go_wp2_with fail;rw[show (((w.alloc (.cells #[.bool G,.slice I K L,.slice bx M N] 141)).alloc (.cells #[.bool H,.slice J P Q,.slice b2 R S] 141)).alloc (.cells #[.bool false,.slice none 0 0,.slice none 0 0] 141))=h from af.o];have ag:=aa;obtain⟨ah,ai,B⟩:=Ib ab.o.neg (HX.o.below b.o) (HY.o.below b.o);go_region_held3
  (fun w'=>w'.cell? ⟨w.heap.size,0,none⟩=some (.bool G)/\w'.cell? ⟨w.heap.size,1,none⟩=some (.slice I K L)/\w'.cell? ⟨w.heap.size,2,none⟩=some (.slice bx M N)/\w'.cell? ⟨w.heap.size+1,0,none⟩=some (.bool H)/\w'.cell? ⟨w.heap.size+1,1,none⟩=some (.slice J P Q)/\w'.cell? ⟨w.heap.size+1,2,none⟩=some (.slice b2 R S)) ((first|(simp [*];done)|go_keep))
  (first
  |(
   go_at_call 79;apply cM;apply Qie;(focus(first|exact B.o|exact B.o.drew|exact B.o.drew.drew));rintro e w4 ⟨⟨v4,rfl,t⟩,u⟩;obtain⟨ak,a4,n4,c4,b4,m4,d4,rfl,t⟩:=t;have C:=Hi t
   first
    |have a:O (Below h.heap.size h w4):=Hi u
    |have a:O (Below h.heap.size h w4):=Hi ((Below.refl _ h).drew.trans u)
    |have a:O (Below h.heap.size h w4):=Hi ((Below.refl _ h).drew.drew.trans u)
   have D:=Hi (ai.o.below a.o);clear t u HR;obtain⟨T,U,V⟩:=Jb a.o z k.o l.o m.o;obtain⟨W,X,Y⟩:=Jb a.o A n.o r.o s.o
   skip)
  |
   (go_at_call 146
    apply cM;apply Qoh (i:=i) (j:=j);(focus(first|exact D.o|exact D.o.drew|exact D.o.drew.drew));(focus(first|exact C.o|exact C.o.drew|exact C.o.drew.drew));(focus(exact ag.o));(focus(exact ah.o));omega;rintro e w9 ⟨⟨v9,rfl,t⟩,u⟩;obtain⟨d,a9,n9,c9,b9,m9,d9,rfl,t⟩:=t
    first
     |have c:=a.o.trans (u.mono a.o.size)
     |have c:=a.o.drew.trans (u.mono a.o.size)
     |have c:=a.o.drew.drew.trans (u.mono a.o.size)
    have x:=HS.o.below c HS.o.lt;have k0:=x.cell 0;have k1:=x.cell 1;have k2:=x.cell 2;have f0:=x.free 0;have f1:=x.free 1;have f2:=x.free 2;obtain⟨T,U,V⟩:=Jb c z k.o l.o m.o;obtain⟨W,X,Y⟩:=Jb c A n.o r.o s.o;simp[zeroFrac] at k0 k1 k2;obtain⟨HV,Z,aj⟩:=Ib t x (b.o.trans (c.mono b.o.size))
    clear t x u c)
  )
 all_goals
  go_wp2;refine bodyPost_ret (v:=.agg #[.bool d,.slice a9 n9 c9,.slice b9 m9 d9]) (results_cell_row rfl _ _ (w.heap.size+1+1) 141 #[.bool d,.slice a9 n9 c9,.slice b9 m9 d9] (0,0) _ rfl (((Z.o.set 0 _).set 1 _).set 2 _) underlying141 rfl Tryz.fracInfo) rfl ?_;have ho:=(((Only.refl (w.heap.size+1+1) w9).setCell 0 (.bool d)).setCell 1 (.slice a9 n9 c9)).setCell 2 (.slice b9 m9 d9);exact⟨⟨_,rfl,d,a9,n9,c9,b9,m9,d9,rfl,HV.o.only ho Z.o Qbk⟩,Only.fresh aj.o ho (by omega)⟩
theorem Qoj(q:Rat)(b:q≠0){a:Bool}(c:a=decide (q.num<0)):mkRat (sgn a q.den) q.num.natAbs=q⁻¹:=by rw[c];exact(Qii b).1
theorem Fits.inv{q:Rat}{j:Nat}(h:Fits q j)(c:q≠0):Fits q⁻¹ j:=by
 obtain⟨d,e,f⟩:=Qii c;obtain⟨a,b⟩:=Qih (neg:=decide (q.num<0)) f e;rw[d] at a b;exact⟨by rw[a,Qdy];exact h.2,by rw[b];exact h.1⟩
theorem Qok(W L:Bool)(X bx M b2:Vx)(Y Z mx dx N P Q R i j:Nat)(p q:Rat)(w:Vz)(hx:FracAt w W X Y Z bx mx dx p)(hy:FracAt w L M N P b2 Q R q)(hp:Fits p i)(hq:Fits q j)(ao:i+j<68719476000):
 Calls prog 129 #[.agg #[.bool W,.slice X Y Z,.slice bx mx dx],.agg #[.bool L,.slice M N P,.slice b2 Q R]] w (FNew w (p / q)):=by
 obtain⟨HX,HY,ad,aa⟩:=Ic hx hy hp hq;obtain⟨CX,ae⟩:=nm (#[Value.bool W,.slice X Y Z,.slice bx mx dx]);obtain⟨CY,af⟩:=nm (#[Value.bool L,.slice M N P,.slice b2 Q R]);obtain⟨a,HS,z,A,d⟩:=Id ((((((NBag.start hx.top hy.top hp.1 hq.1).alloc (.cells CX 141)).alloc (.cells CY 141)).alloc (.cells zeroFrac 141)).rebase)) (SB.new3 w 141 141 141 CX CY zeroFrac) ((SB.new2 w 141 141 CX CY).alloc (.cells zeroFrac 141)) (((SB.new w 141 CX).alloc (.cells CY 141)).alloc (.cells zeroFrac 141)) (Below.new3 w (.cells CX 141) (.cells CY 141) (.cells zeroFrac 141));obtain⟨y,S⟩:=nm ((((w.alloc (.cells CX 141)).alloc (.cells CY 141)).alloc (.cells zeroFrac 141)));rw[S] at a HS z A d;subst ae af;obtain⟨ap,ag⟩:=Ia (hx.low.below d.o) (hy.low.below d.o);have u:=A.o.lt
 have x:=z.o.lt;obtain⟨g,k,l,m,n,r⟩:=Ie (A.o.cell 0) (A.o.cell 1) (A.o.cell 2) (z.o.cell 0) (z.o.cell 1) (z.o.cell 2);simp at g k l m n r;have ab:=Hi S;have aq:w.heap.size+1+1≠w.heap.size:=by omega
 have ar:w.heap.size+1+1≠w.heap.size+1:=by omega
 clear hx hy hp hq S;by_cases I:q.num.natAbs=0
 .
  have B:q=0:=Rat.num_eq_zero.1 (by omega);rw[show p / q=0 by rw[B,Rat.div_def,Rat.inv_zero,Rat.mul_zero]];go_enter func129,ntmps129;obtain⟨C,D,E⟩:=Jb a.o.base u g.o k.o l.o;obtain⟨F,G,H⟩:=Jb a.o.base x m.o n.o r.o;go_wp2_with fail;rw[show (((w.alloc (.cells #[.bool W,.slice X Y Z,.slice bx mx dx] 141)).alloc (.cells #[.bool L,.slice M N P,.slice b2 Q R] 141)).alloc (.cells #[.bool false,.slice none 0 0,.slice none 0 0] 141))=y from ab.o];apply cM;apply NBag.isZero (w0:=y) a.o
  (focus(repeat(first|exact mH|apply mT)));rw[(decide_eq_true I)];rintro e w2 ⟨rfl,c⟩;have f:=HS.o.below c.base HS.o.lt;have k0:=f.cell 0;have k1:=f.cell 1;have k2:=f.cell 2;have f0:=f.free 0;have f1:=f.free 1;have f2:=f.free 2;simp[zeroFrac] at k0 k1 k2;obtain⟨J,T⟩:=Ia f (d.o.trans (c.base.mono d.o.size));clear c f a;go_wp2;refine bodyPost_ret (v:=.agg #[.bool false,.slice none 0 0,.slice none 0 0]) (results_cell_row rfl _ _ (w.heap.size+1+1) 141 #[.bool false,.slice none 0 0,.slice none 0 0] (0,0) _ rfl (((J.o.set 0 _).set 1 _).set 2 _) underlying141 rfl Tryz.fracInfo) rfl ?_;have ho:=(((Only.refl (w.heap.size+1+1) w2).setCell 0 (.bool false)).setCell 1 (.slice none 0 0)).setCell 2 (.slice none 0 0);exact⟨⟨_,rfl,FracV.zero _⟩,Only.fresh T.o ho (by omega)⟩
 .
  have B:q≠0:=fun h=>I (by rw[h];rfl)
  go_enter func129,ntmps129;obtain⟨C,D,E⟩:=Jb a.o.base u g.o k.o l.o;obtain⟨F,G,H⟩:=Jb a.o.base x m.o n.o r.o;go_wp2_with fail;rw[show (((w.alloc (.cells #[.bool W,.slice X Y Z,.slice bx mx dx] 141)).alloc (.cells #[.bool L,.slice M N P,.slice b2 Q R] 141)).alloc (.cells #[.bool false,.slice none 0 0,.slice none 0 0] 141))=y from ab.o];apply cM;apply NBag.isZero (w0:=y) a.o;(focus(repeat(first|exact mH|apply mT)));rw[(decide_eq_false I)];rintro e w2 ⟨rfl,c⟩;clear a
  have a:=Hi c;clear c;obtain⟨C,D,E⟩:=Jb a.o.base u g.o k.o l.o;obtain⟨F,G,H⟩:=Jb a.o.base x m.o n.o r.o;go_wp2_with fail;rw[Rat.div_def];obtain⟨ah,ai,aj⟩:=Ib (Qoj q B HY.o.neg) (Nat.Coprime.symm q.reduced) (show 0<q.num.natAbs by omega);have ak:=ad;obtain⟨al,am⟩:=Ia (aa.o.inv B) (HX.o.below d.o);clear B I;go_region_held3
   (fun w'=>w'.cell? ⟨w.heap.size,0,none⟩=some (.bool W)/\w'.cell? ⟨w.heap.size,1,none⟩=some (.slice X Y Z)/\w'.cell? ⟨w.heap.size,2,none⟩=some (.slice bx mx dx)/\w'.cell? ⟨w.heap.size+1,0,none⟩=some (.bool L)/\w'.cell? ⟨w.heap.size+1,1,none⟩=some (.slice M N P)/\w'.cell? ⟨w.heap.size+1,2,none⟩=some (.slice b2 Q R)) ((first|(simp [*];done)|go_keep))
   (first
   |
    (go_at_call_of 161 (Value.agg #[.bool L,.slice M N P,.slice b2 Q R])
     apply cM;apply NBag.under (w0:=y) (hl:=ag.o) (hk:=aa.o.2);(focus(first|exact a.o|exact a.o.drew|exact a.o.drew.drew));rintro e w3 ⟨aB,nB,cB,rfl,c⟩;clear a;have a:=Hi c;clear c;obtain⟨C,D,E⟩:=Jb a.o.base u g.o k.o l.o;obtain⟨F,G,H⟩:=Jb a.o.base x m.o n.o r.o
     skip)
   |(
    go_at_call 130;apply cM;apply NBag.built (w0:=y);(focus(first|exact a.o|exact a.o.drew|exact a.o.drew.drew));(focus(repeat(first|exact mH|apply mT)));(focus(repeat(first|exact mH|apply mT)));(focus(exact aj.o));(focus(exact ai.o));rw[ah.o];rintro e w4 ⟨⟨v4,rfl,K⟩,c⟩;obtain⟨an,a4,n4,c4,b4,m4,d4,rfl,K⟩:=K;have U:=Hi K
    first
     |have b:O (Below y.heap.size y w4):=Hi (a.o.base.trans (c.mono a.o.base.size))
     |have b:O (Below y.heap.size y w4):=Hi (a.o.base.drew.trans (c.mono a.o.base.size))
     |have b:O (Below y.heap.size y w4):=Hi (a.o.base.drew.drew.trans (c.mono a.o.base.size))
    have V:=Hi (am.o.below b.o);clear K c a;obtain⟨C,D,E⟩:=Jb b.o u g.o k.o l.o;obtain⟨F,G,H⟩:=Jb b.o x m.o n.o r.o
    skip)
   |
    (go_at_call 160
     apply cM;apply Qif (i:=i) (j:=j);(focus(first|exact V.o|exact V.o.drew|exact V.o.drew.drew));(focus(first|exact U.o|exact U.o.drew|exact U.o.drew.drew));(focus(exact ak.o));(focus(exact al.o));omega;rintro e w9 ⟨⟨v9,rfl,K⟩,c⟩;obtain⟨t,a9,n9,c9,b9,m9,d9,rfl,K⟩:=K
     first
      |have s:=b.o.trans (c.mono b.o.size)
      |have s:=b.o.drew.trans (c.mono b.o.size)
      |have s:=b.o.drew.drew.trans (c.mono b.o.size)
     have f:=HS.o.below s HS.o.lt;have k0:=f.cell 0;have k1:=f.cell 1;have k2:=f.cell 2;have f0:=f.free 0;have f1:=f.free 1;have f2:=f.free 2;obtain⟨C,D,E⟩:=Jb s u g.o k.o l.o;obtain⟨F,G,H⟩:=Jb s x m.o n.o r.o;simp[zeroFrac] at k0 k1 k2;obtain⟨HV,J,T⟩:=Ib K f (d.o.trans (s.mono d.o.size))
     clear K f c s)
   )
  all_goals
   go_wp2;refine bodyPost_ret (v:=.agg #[.bool t,.slice a9 n9 c9,.slice b9 m9 d9]) (results_cell_row rfl _ _ (w.heap.size+1+1) 141 #[.bool t,.slice a9 n9 c9,.slice b9 m9 d9] (0,0) _ rfl (((J.o.set 0 _).set 1 _).set 2 _) underlying141 rfl Tryz.fracInfo) rfl ?_;have ho:=(((Only.refl (w.heap.size+1+1) w9).setCell 0 (.bool t)).setCell 1 (.slice a9 n9 c9)).setCell 2 (.slice b9 m9 d9);exact⟨⟨_,rfl,t,a9,n9,c9,b9,m9,d9,rfl,HV.o.only ho J.o Qbk⟩,Only.fresh T.o ho (by omega)⟩
theorem Qbl{d e:Value}{i j:Nat}{p q:Rat}{w:Vz}(a:FracV w d p)(b:FracV w e q)(f:Fits p i)(g:Fits q j)(c:i+j<68719476000):Calls prog 101 #[d,e] w (FNew w (p - q)):=by
 obtain⟨h,k,l,m,bx,n,o,rfl,a⟩:=a;obtain⟨r,s,t,u,b2,v,x,rfl,b⟩:=b;exact Qoi h r k bx s b2 l m n o t u v x i j p q w a b f g c
theorem Qcy{d e:Value}{i j:Nat}{p q:Rat}{w:Vz}(a:FracV w d p)(b:FracV w e q)(f:Fits p i)(g:Fits q j)(c:i+j<68719476000):Calls prog 129 #[d,e] w (FNew w (p / q)):=by
 obtain⟨h,k,l,m,bx,n,o,rfl,a⟩:=a;obtain⟨r,s,t,u,b2,v,x,rfl,b⟩:=b;exact Qok h r k bx s b2 l m n o t u v x i j p q w a b f g c
theorem Qdx{b:Value}{p:Rat}{w:Vz}(a:FracV w b p):Calls prog 79 #[b] w (FNew w (-p)):=by
 obtain⟨c,d,e,f,bx,g,h,rfl,a⟩:=a;exact Qie c d bx e f g h p w a
theorem Qcf{b:Value}{p:Rat}{w:Vz}(a:FracV w b p):Calls prog 127 #[b] w fun e w'=>e=.returned (.bool (decide (p=0)))/\Below w.heap.size w w':=by
 obtain⟨c,d,f,g,bx,i,j,rfl,a⟩:=a;have e:decide (p.num.natAbs=0)=decide (p=0):=by
  by_cases h:p=0
  . subst h;rfl
  . have:p.num≠0:=fun k=>h (Rat.num_eq_zero.1 k)
    rw[decide_eq_false h,decide_eq_false (by omega)]
 rw[<-e];exact Qid c d bx f g i j _ w a.top
end Go.Proofs.YtppkmifkpjkgpaaGreatDoor
