import Derived.Test.YtfgclhpgdanmfaaGreatDoorS04IntSet
namespace Go.Proofs.YtfgclhpgdanmfaaGreatDoor
set_option linter.defProp false
open Go.RowKit
open Go.Proofs.Tryz
set_option linter.unusedSimpArgs false
set_option linter.unusedVariables false
set_option maxHeartbeats 8000000
set_option maxRecDepth 1000000
variable{w w' w0 w1:Vz}{K b c cap f g i j k n:Nat}{A B D P X Y z:Int}{a d:Vx}{Z e l:Vy}{t:Vr}{C:Vw}{p:Rat}
structure je (w:Vz) (b:Nat) (P D:Int) (a1:Vx) (c1:Nat) (l1:Vy) (a2:Vx) (c2:Nat) (l2:Vy):Prop where
 sb:SB w b 116 #[.bool (decide (P<0)),.slice a1 l1.length c1,.bool (decide (D<0)),.slice a2 l2.length c2]
 num:j7 w a1 c1 l1 P.natAbs
 den:j7 w a2 c2 l2 D.natAbs
def yX(n1 a:Bool)(b c:Vx)(d e c1 c2:Nat):ol #[Value.bool n1,Value.slice b d c1,Value.bool a,Value.slice c e c2]:=by
 intro i k n
 match i with
 |0=>simp
 |1=>simp
 |2=>simp
 |3=>simp
 |i+4=>simp
def je.below{c:Vx}{c1 c2:Nat}{d:Vy}(h:je w b P D a c1 d c c2 e)(hb:Bl w w'):je w' b P D a c1 d c c2 e:=
 ⟨h.sb.below hb h.sb.lt,h.num.below hb,h.den.below hb⟩
def je.drew{c:Vx}{c1 c2:Nat}{d:Vy}(h:je w b P D a c1 d c c2 e):je w.drew b P D a c1 d c c2 e:=h.below bR.drew
def je.c0{c:Vx}{c1 c2:Nat}{d:Vy}(h:je w b P D a c1 d c c2 e):w.cell? ⟨b,0,none⟩=some (.bool (decide (P<0))):=by rw[h.sb.cell];rfl
def je.c1{c1 c2:Nat}{c:Vy}(h:je w b P D a c1 c d c2 e):w.cell? ⟨b,1,none⟩=some (.slice a c.length c1):=by rw[h.sb.cell];rfl
def je.c2{c:Vx}{c1 c2:Nat}{d:Vy}(h:je w b P D a c1 d c c2 e):w.cell? ⟨b,2,none⟩=some (.bool (decide (D<0))):=by rw[h.sb.cell];rfl
def je.c3{c1 c2:Nat}{c:Vy}(h:je w b P D d c1 e a c2 c):w.cell? ⟨b,3,none⟩=some (.slice a c.length c2):=by rw[h.sb.cell];rfl
def je.uF{c1 c2:Nat}{c:Vy}(h:je w b P D a c1 c d c2 e):iF w b 0 P a c1 c:=⟨h.c0,h.c1,h.num,h.sb.lt⟩
def je.Db{c1 c2:Nat}{c:Vy}(h:je w b P D d c1 e a c2 c):iF w b 2 D a c2 c:=⟨h.c2,h.c3,h.den,h.sb.lt⟩
def iM(w:Vz)(b:Nat)(q:Rat)(e:As)(w':Vz):Prop:=
 e=.returned (.pointer (some ⟨b,0,none⟩))/\cE b w w'/\∃a1 c1 l1 a2 c2 l2,je w' b q.num q.den a1 c1 l1 a2 c2 l2
def iM.of{q:Rat}{e:As}(h:cE b w w1)(k:iM w1 b q e w'):iM w b q e w':=⟨k.1,h.trans k.2.1,k.2.2⟩
def J7(h:Num 4294967296 l 1):l= [1]:=h.inj dD ⟨fun d a=>by simp at a;omega,.inr sS,by simp[val]⟩
def TC(b:0<D)(a:Nat.gcd P.natAbs D.natAbs=1):(mkRat P D.natAbs).num=P/\(((mkRat P D.natAbs).den:Nat):Int)=D:=by
 rw[sh,si,aH oO,aH oO,oW,a];constructor
 . simp
 . simp;omega
def TB(P:Int)(g:Nat)(b:0<g)(a:g ∣ P.natAbs):(P / (g:Int)).natAbs=P.natAbs / g:=by rw[Int.natAbs_ediv_of_dvd (Int.ofNat_dvd_left.2 a),cY]
def TA(P:Int)(g:Nat)(c:0<g)(b:g ∣ P.natAbs):decide (P / (g:Int)<0)=decide (P<0):=by
 apply Bf.2;obtain⟨k,hk⟩:=Int.ofNat_dvd_left.2 b;have a:(0:Int)<(g:Int):=oO;rw[hk,Int.mul_ediv_cancel_left _ oO];constructor
 . intro h
   exact Fl a h
 . intro h;apply bC;intro d;have:=Int.mul_nonneg (Int.le_of_lt a) (show 0<=k by omega);omega
def Tz(b:0<D)(a:Nat.gcd P.natAbs D.natAbs=g):(mkRat P D.natAbs).num=P / (g:Int)/\(mkRat P D.natAbs).den=D.natAbs / g:=by rw[sh,si,aH oO,aH oO,oW,a];exact⟨rfl,rfl⟩
theorem Ty(h:Num 4294967296 l g)(a:g≠1):((l.length:Int) == 1)=false∨∃d,l= [d]/\d≠1:=by
 by_cases hl:l.length=1
 .
  right
  match l,hl,h with
  | [d],_,h=> refine⟨d,rfl,?_⟩;have:=h.eq;simp[val]at this;omega
 . left;rw[aJ];omega
def Tx(X:Int): -X=if (!decide (X<0))=true then -(X.natAbs:Int) else (X.natAbs:Int):=by
 by_cases h:X<0
 . simp[h];omega
 . simp[h];omega
def J6(c d:Nat)(t:Vr)(C:Vw)(X:Int)(a:Vx)(cap:Nat)(l:Vy)(w:Vz)(m:SB w c t C)(n:ol C)(q:d+1<C.size)(f:iF w c d X a cap l):
 Calls prog 123 #[.pointer (some ⟨c,d,none⟩),.pointer (some ⟨c,d,none⟩)] w (jO w c d t C (-X)):=by
 have r:=f.neg;have k1:=f.abs;have g:=f.lt;obtain⟨p,s,u⟩:=Ib m n f.num;clear m n f;go_enter func123,ntmps123;go_wp2;go_region_with (first
  |(go_at_call 172;refine(IQ a cap l X.natAbs _ ?_).mono ?_;exact u.o.drew;rintro e w1 ⟨⟨v,h,rfl,i⟩,b⟩;have y:=ce b g r;have c1:=ce b g k1;have k:=Hi i;have j:=Hi ((ac w.heap.size w).drew.trans b);clear i b)
  |(go_at_call 136;refine(DA c d t C _ v h l X.natAbs (-X) _ ?_ s.o q k.o ?_).mono ?_;exact p.o.below j.o p.o.lt;exact Tx X;rintro e w2 ⟨rfl,hl⟩;have x:=Hi hl;clear hl))
 all_goals
  go_wp2;go_ret;exact FP (qU j.o) ⟨rfl,_,_,_,x.o⟩
def je.Jw{i:Vx}{c1 c2:Nat}{f g:Vy}{e:As}(h:je w b P D i c1 f d c2 g)(k:jO w b 0 116 #[.bool (decide (P<0)),.slice i f.length c1,.bool (decide (D<0)),.slice d g.length c2] (-P) e w'):
 e=.returned (.pointer (some ⟨b,0,none⟩))/\cE b w w'/\∃a c l,je w' b (-P) D a c l d c2 g/\l.length<=f.length:=by
 obtain⟨rfl,a,c,l,hl⟩:=k;refine⟨rfl,hl.only,a,c,l,⟨?_,hl.num,h.den.only hl.only h.sb (yX _ _ _ _ _ _ _ _)⟩,hl.num.kD h.num oO⟩;have:=hl.sb
 simpa [rD] using this
def je.Jv{i:Vx}{c1 c2:Nat}{f g:Vy}{e:As}(h:je w b P D d c1 f i c2 g)(k:jO w b 2 116 #[.bool (decide (P<0)),.slice d f.length c1,.bool (decide (D<0)),.slice i g.length c2] (-D) e w'):
 e=.returned (.pointer (some ⟨b,2,none⟩))/\cE b w w'/\∃a c l,je w' b P (-D) d c1 f a c l/\l.length<=g.length:=by
 obtain⟨rfl,a,c,l,hl⟩:=k;refine⟨rfl,hl.only,a,c,l,⟨?_,h.num.only hl.only h.sb (yX _ _ _ _ _ _ _ _),hl.num⟩,hl.num.kD h.den oO⟩;have:=hl.sb
 simpa [rD] using this
theorem Tw(b:Nat)(G p N:Int)(y V:Vx)(c1 c2:Nat)(k f:Vy)(w0:Vz)(h:je w0 b G p y c1 k V c2 f)(hn:0<p/\N=G∨p<0/\N= -G)(i:k.length<1099511627770)(j:f.length<1099511627770):
 Calls prog 138 #[.pointer (some ⟨b,0,none⟩)] w0 (iM w0 b (mkRat N p.natAbs)):=by
 have k0:=h.c0;have k1:=h.c1;have k2:=h.c2;have W:=h.c3;have q1:((f.length:Int) == 0)=false:=by rw[aJ];have:=(h.den.num.eV dD).2;omega
 obtain⟨q,S⟩:=nm (mkRat N p.natAbs);rw[S];have HQ:=Hi S;clear S;rcases hn with ⟨hD,rfl⟩|⟨hn,rfl⟩
 rotate_left
 case' inr=>
  have X:decide (p<0)=true:=sO;rw[X]at k2;have HH:=Hi h;clear h X;have Y:=Hi (fun u (Z:je u b G p y c1 k V c2 f)=>J6 b 0 116 _ G y c1 k u Z.sb (yX _ _ _ _ _ _ _ _) sS Z.uF);go_enter func138,ntmps138;go_wp2_with fail;go_region_held3 (fun _=>True) (trivial) (first
   |(
    go_at_call 123;refine(Y.o _ HH.o.drew).mono ?_;rintro e w1 hk;obtain⟨rfl,aa,y,c1,k,ab,al⟩:=HH.o.drew.Jw hk;obtain⟨ad,I⟩:=Ia ((cX b w0).drew.trans aa) ab
    clear hk aa ab k0 k1 k2 W)
   |fail)
  have ae:=Hi (fun u (Z:je u b (-G) p y c1 k V c2 f)=>J6 b 2 116 _ p V c2 f u Z.sb (yX _ _ _ _ _ _ _ _) sS Z.Db);go_wp2_with fail;go_region_held3 (fun _=>True) (trivial) (first
   |(
    go_at_call 123;refine(ae.o _ I.o.drew).mono ?_;rintro e w hk;obtain⟨rfl,af,V,c2,f,h,hz2⟩:=I.o.drew.Jv hk;have r:=Hi (ad.o.trans ((cX b w1).drew.trans af))
    clear hk af Y ae I ad HH)
   |fail)
  obtain⟨P,s⟩:∃P,-G=P:=⟨_,rfl⟩;obtain⟨D,z⟩:∃D,-p=D:=⟨_,rfl⟩;have ah:p.natAbs=D.natAbs:=oO;rw[s,z]at h;have t:O (mkRat P D.natAbs=q):=Hi (by rw[<-HQ.o,<-ah,s]);have hD:0<D:=oO;have B:k.length<1099511627770:=oO;have C:f.length<1099511627770:=oO;have k0:=h.c0;have k1:=h.c1;have k2:=h.c2;have W:=h.c3;have m:decide (D<0)=false:=sO;rw[m]at k2;clear al hz2 ah i j;have i:=B;have j:=C;clear B C
 case' inl=> obtain⟨w,rfl⟩:∃x,x=w0:=⟨_,rfl⟩;obtain⟨P,rfl⟩:∃x,x=N:=⟨_,rfl⟩;obtain⟨D,rfl⟩:∃x,x=p:=⟨_,rfl⟩;have r:=Hi (cX b w);have t:=HQ;have s:=rfl (a:=P);have z:=rfl (a:=D);have m:decide (D<0)=false:=sO;rw[m]at k2;go_enter func138,ntmps138
 all_goals
  have q2:((k.length:Int) == 0)=decide (P=0):=by
   have:=h.num.num.eV dD;by_cases hp:P=0
   . rw[dC hp,this.1 oO];rfl
   . rw[bS hp,aJ];intro hc;have:=this.2 oO;omega
  by_cases hP:P=0
  .
   subst hP;rw[dC rfl]at q2;have H:=Hi h;clear h m s z;go_wp2_with fail;refine(Pm b 2 116 _ 1 _ H.o.sb (yX _ _ _ _ _ _ _ _) sS dD dD).mono ?_;rintro e w1 ⟨rfl,a,cap,l,hl⟩;go_wp2;go_ret;refine iM.of r.o ?_;rw[<-t.o];rw[EC];refine⟨rfl,hl.only,y,c1,k,a,cap,l,?_,?_,hl.num⟩
   . have:=hl.sb
     simpa [rD] using this
   . exact H.o.num.only hl.only H.o.sb (yX _ _ _ _ _ _ _ _)
  rw[bS hP]at q2;clear s z;by_cases am:D=1
  .
   subst am;have an:=J7 h.den.num;subst an;obtain⟨T,U,rfl,ao,n⟩:=h.den.row.cell 0 sS;have n:w.cell? ⟨T,U,none⟩=some (.int .u32 1):=sU n;simp only[io]at W;have H:=Hi h;have e:mkRat P (1:Int).natAbs=(P:Rat):=by
    apply Rat.ext
    . rw[sh];simp
    . rw[si];simp
   have HE:=Hi e;clear h m e;go_wp2;go_ret;refine iM.of r.o ?_;rw[<-t.o];rw[HE.o];exact⟨rfl,cX _ _,_,_,_,_,_,_,H.o⟩
  have ap:0<f.length:=by have:=(h.den.num.eV dD).2;omega
  obtain⟨T,U,rfl,ao,n⟩:=h.den.row.cell 0 ap;rw[dV]at n;obtain⟨d,hd⟩:=nm (f.getD 0 0);rw[hd]at n;rcases(show ((f.length:Int) == 1)=true/\((d:Int) == 1)=false∨((f.length:Int) == 1)=false by
   by_cases hl:f.length=1
   . refine .inl ⟨by rw[mK];omega,?_⟩
     match f,hl with
     | [e],_=> have:=h.den.num.eq;simp[val]at this hd;rw[aJ];omega
   . right;rw[aJ];omega) with ⟨hq3,hq4⟩|hq3
  all_goals
   clear hd;obtain⟨H,HG⟩:=Ia h (YY y (some ⟨T,U,none⟩) c1 c2 k (f) P.natAbs D.natAbs w.drew h.num.drew h.den.drew oO oO);have ai:=h.sb.lt;clear h m;go_wp2;go_region_held3 (fun w'=>w'.cell? ⟨b,1,none⟩=some (.slice y k.length c1)/\w'.cell? ⟨b,3,none⟩=some (.slice (some ⟨T,U,none⟩) (f.length) c2)) ((simp [*]))
    (first
      |(go_at_call 184;refine HG.o.mono ?_;rintro e w1 ⟨⟨ag,cg,rg,rfl,c⟩,i⟩;have d1:=ce i ai k1;have d3:=ce i ai W;have HU:=Hi c;have E:=Hi ((ac w.heap.size w).drew.trans i);clear c i))
   clear k0 k1 k2 W HG n hq3;obtain⟨g,J⟩:=nm (Nat.gcd P.natAbs D.natAbs);have c:=HU.o;rw[J]at c;obtain⟨au,K⟩:=Ia c J;have A:0<g:=by rw[<-J];exact eQ _ oO
   have H1:=H.o.below E.o;have a0:=c.kD H.o.den (by rw[<-J];exact Nat.le_of_dvd oO (lG _ _));clear HU;by_cases aj:g=1
   . subst aj;have av:=J7 c.num;subst av;obtain⟨bg,og,rfl,aw,v⟩:=c.row.cell 0 sS;have v:w1.cell? ⟨bg,og,none⟩=some (.int .u32 1):=sU v;clear c J H1;go_wp2;go_ret;refine iM.of r.o ?_;rw[<-t.o];obtain⟨e1,e2⟩:=TC (P:=P) hD K.o;refine iM.of (qU E.o) ⟨rfl,cX _ _,y,c1,k,some ⟨T,U,none⟩,c2,f,?_⟩;rw[e1,e2];exact H.o.below E.o
   .
    have F:g ∣ P.natAbs:=by rw[<-J];exact nK _ _
    have ax:=Hi (IR y ag c1 cg k rg P.natAbs g w1 H1.num c A oO);rcases Ty c.num aj with a3|⟨dd,rfl,a4⟩
    case' inr=> obtain⟨bg,og,rfl,aw,v⟩:=c.row.cell 0 sS;have v:w1.cell? ⟨bg,og,none⟩=some (.int .u32 (dd:Int)):=sU v;have a5:((dd:Int) == 1)=false:=by rw[aJ];omega
    all_goals
     clear c J H1;go_wp2_with fail;refine ax.o.mono ?_;rintro e w2 ⟨⟨aq,cq,rq,ar,cr,rr,rfl,S,hr⟩,j⟩;have H2:=(H.o.below E.o).below j;have a6:=H2.c3;obtain⟨HQ,L,ay⟩:=Ib S j (IR (some ⟨T,U,none⟩) _ c2 cg (f) _ D.natAbs g w2 H2.den (au.o.below j) A oO);clear S hr j H2;go_wp2_with fail;refine ay.o.mono ?_;rintro e w3 ⟨⟨M,cs,rs,a7,ct,rt,rfl,hs,ht⟩,Q⟩;have H3:=((H.o.below E.o).below L.o).below Q;have f1:=H3.sb.free 1;have f3:=H3.sb.free 3;have a8:=H3.c1;have a9:=H3.c3;obtain⟨HS,ak,R⟩:=Ib hs Q H3;clear hs ht Q H3;go_wp2;go_ret;refine iM.of r.o ?_;rw[<-t.o];have ho:cE b w3 ((w3.setCell ⟨b,1,none⟩ (.slice aq rq.length cq)).setCell ⟨b,3,none⟩ (.slice M rs.length cs)):=((cX b w3).setCell _ _).setCell _ _;have az:g ∣ D.natAbs:=by rw[<-K.o];exact lG _ _
     obtain⟨e1,e2⟩:=Tz (P:=P) hD K.o;refine iM.of (qU (E.o.trans ((L.o.mono E.o.size).trans (ak.o.mono (aE E.o.size L.o.size))))) ⟨rfl,ho,aq,cq,rq,M,cs,rs,?_,?_,?_⟩
     . have:=(R.o.sb.set 1 (.slice aq rq.length cq)).set 3 (.slice M rs.length cs);have en:decide ((((mkRat P D.natAbs).den:Nat):Int)<0)=decide (D<0):=by apply Bf.2;omega
       rw[e1,TA P g A F,en]
       simpa using this
     . rw[e1,TB P g A F]
       exact(HQ.o.below ak.o).only ho R.o.sb (yX _ _ _ _ _ _ _ _)
     . rw[e2,cY]
       exact HS.o.only ho R.o.sb (yX _ _ _ _ _ _ _ _)
def NY(b:Nat)(F G H I:Ac)(J K:Nat)(A:Int)(V:Vx)(c1:Nat)(L:Vy)(M O:Nat)(B:Int)(W:Vx)(c2:Nat)(C:Vy)(w:Vz)(P:SB w b 116 #[F,G,H,I])(X:ol #[F,G,H,I])(Q:iF w J K A V c1 L)(hb:iF w M O B W c2 C)(N:Int)(hB:0<B/\N=A∨B<0/\N= -A)(h1:L.length<1099511627770)(h2:C.length<1099511627770):
 Calls prog 81 #[.pointer (some ⟨b,0,none⟩),.pointer (some ⟨J,K,none⟩),.pointer (some ⟨M,O,none⟩)] w (iM w b (mkRat N B.natAbs)):=by
 have k1:=hb.abs;have q1:((C.length:Int) == 0)=false:=by rw[aJ];have:=(hb.num.num.eV dD).2;omega
 obtain⟨Y,Z,HA,l⟩:=Ic P X Q hb;have aa:=P.lt;have ab:=Q.lt;have ad:=hb.lt;clear P X Q hb;replace hB:=Hi hB;go_enter func81,ntmps81;go_wp2_with fail;have i:Bl w (w.alloc (.cells #[.bool false,.slice none 0 0] 114)):=bR.alloc lZ _;refine(Lk w.heap.size 0 114 _ J K A V c1 L _ (cK w 114 _) sd sS (HA.o.below i) oO).mono ?_;rintro e w1 ⟨rfl,m,n,p,D⟩;have j:=fU i D.only lZ;have ae:w.heap.size<w1.heap.size:=sV D.only.size;have f:Bl w1 (w1.alloc (.cells #[.bool false,.slice none 0 0] 114)):=bR.alloc lZ _;obtain⟨R,HP,q,r⟩:=Ic (Lk w1.heap.size 0 114 _ M O B W c2 C _ (cK w1 114 _) sd sS ((l.o.below j).below f) oO) D j f;clear D j i f;go_wp2_with fail;refine R.o.mono ?_;rintro e w2 ⟨rfl,s,t,u,S⟩;have g:=fU r.o S.only lZ;have c:=(HP.o.at sS).below g;have d:=S.at sS;have a:=((Y.o.below q.o Y.o.lt).below g oO);have p0:=c.neg;have p1:=c.abs;have r0:=d.neg;have r1:=d.abs;have z0:w2.cell? ⟨b,0,none⟩=some F:=by rw[a.cell];rfl
 have z1:w2.cell? ⟨b,1,none⟩=some G:=by rw[a.cell];rfl
 have z2:w2.cell? ⟨b,2,none⟩=some H:=by rw[a.cell];rfl
 have z3:w2.cell? ⟨b,3,none⟩=some I:=by rw[a.cell];rfl
 have f0:=a.free 0;have f1:=a.free 1;have f2:=a.free 2;have f3:=a.free 3;obtain⟨v,x,k,T⟩:=Ic c d a g;clear S c d a g;simp only[cC]at p1 r1;go_wp2_with fail;have E:cE b w2 ((((w2.setCell ⟨b,0,none⟩ (.bool (decide (A<0)))).setCell ⟨b,1,none⟩ (.slice m p.length n)).setCell ⟨b,2,none⟩ (.bool (decide (B<0)))).setCell ⟨b,3,none⟩ (.slice s u.length t)):=
  ((((cX b w2).setCell _ _).setCell _ _).setCell _ _).setCell _ _
 have h:je ((((w2.setCell ⟨b,0,none⟩ (.bool (decide (A<0)))).setCell ⟨b,1,none⟩ (.slice m p.length n)).setCell ⟨b,2,none⟩ (.bool (decide (B<0)))).setCell ⟨b,3,none⟩ (.slice s u.length t)) b A B m n p s t u:=by
  refine⟨?_,v.o.num.only E k.o Z.o,x.o.num.only E k.o Z.o⟩;have:=(((k.o.set 0 (.bool (decide (A<0)))).set 1 (.slice m p.length n)).set 2 (.bool (decide (B<0)))).set 3 (.slice s u.length t)
  simpa using this
 have af:=v.o.num.kD HA.o.num lZ;have ag:=x.o.num.kD l.o.num lZ;refine(Tw b A B N m s n t p u _ h hB.o oO oO).mono ?_;rintro e w3 y;have z:=iM.of ((qU (q.o.trans (T.o.mono oO))).trans E) y;obtain⟨rfl,U,hr⟩:=z;clear y E h;go_wp2;go_ret;exact⟨rfl,U,hr⟩
def H4(a:Nat)(b c d e:Ac)(f g:Nat)(A:Int)(l:Vx)(c1:Nat)(h:Vy)(i j:Nat)(B:Int)(m:Vx)(c2:Nat)(k:Vy)(w:Vz)(n:SB w a 116 #[b,c,d,e])(o:ol #[b,c,d,e])(p:iF w f g A l c1 h)(hb:iF w i j B m c2 k)(hB:0<B)(q:h.length<1099511627770)(r:k.length<1099511627770):
 Calls prog 81 #[.pointer (some ⟨a,0,none⟩),.pointer (some ⟨f,g,none⟩),.pointer (some ⟨i,j,none⟩)] w (iM w a (mkRat A B.natAbs)):=NY a b c d e f g A l c1 h i j B m c2 k w n o p hb A (.inl ⟨hB,rfl⟩) q r
structure Step (b:Nat) (w w':Vz):Prop where
 only:cE b w w'
 noint:∀(i:Nat)(k:AM)(n:Int),w.cell? ⟨b,i,none⟩≠some (Value.int k n)
def Step.iw(h:cE b w w')(a:SB w b t C)(c:ol C):Step b w w':=⟨h,fun i k n=>by rw[a.cell];exact c i k n⟩
def Step.eK(h:Bl w w'):Step w.heap.size w w':=
 ⟨qU h,fun i k n e=>by have:=bI w _ e;simp at this⟩
def Step.alloc(w:Vz)(o:Obj):Step w.heap.size w (w.alloc o):=Step.eK (bR.alloc lZ _)
def Step.drew(w:Vz):Step w.heap.size w w.drew:=Step.eK bR.drew
def Step.size(h:Step b w w'):w.heap.size<=w'.heap.size:=h.only.size
def SB.step(h:SB w b t C)(k:Step c w w')(a:b≠c):SB w' b t C:=h.only k.only a
def Row.step{k:AM}(h:Row k w a cap l)(e:Step b w w'):Row k w' a cap l:=by
 refine⟨h.fit,?_,fun i n=>?_⟩
 .
  rcases h.shape with f|⟨d,c,rfl,j⟩
  . exact .inl f
  . exact .inr ⟨d,c,rfl,by have:=e.size;omega⟩
 . obtain⟨d,c,f,j,m⟩:=h.cell i n;have g:d≠b:=by rintro rfl;exact e.noint _ _ _ m
   exact⟨d,c,f,by have:=e.size;omega,(bJ (w:=w) (e.only.block d j g)).trans m⟩
def j7.step(h:j7 w a cap l n)(c:Step b w w'):j7 w' a cap l n:=⟨h.row.step c,h.num,h.short⟩
def iF.step{o:Nat}(h:iF w b o z a cap l)(e:Step c w w')(d:b≠c):iF w' b o z a cap l:=
 ⟨(bJ (w:=w) (a:=⟨b,o,none⟩) (e.only.block b h.lt d)).trans h.neg,(bJ (w:=w) (a:=⟨b,o+1,none⟩) (e.only.block b h.lt d)).trans h.abs,h.num.step e,by have:=h.lt;have:=e.size;omega⟩
def je.step{e f:Vx}{c1 c2:Nat}{g i:Vy}(h:je w b P D e c1 g f c2 i)(a:Step c w w')(d:b≠c):je w' b P D e c1 g f c2 i:=
 ⟨h.sb.step a d,h.num.step a,h.den.step a⟩
def SB.drew{w:Vz}{b:Nat}{t:Vr}{C:Vw}(h:SB w b t C):SB w.drew b t C:=h
def zE:=@SB.drew
def iF.alloc{o:Nat}(h:iF w b o z a cap l)(x:Obj):iF (w.alloc x) b o z a cap l:=h.below (bR.alloc lZ _)
def Hl(w:Vz)(b:Nat)(d:Int)(e:As)(w':Vz):Prop:=
 (∃b' o a cap l,e=.returned (.pointer (some ⟨b',o,none⟩))/\iF w' b' o d a cap l/\(b'=b∨w.heap.size<=b'))/\Below w.heap.size w w'
def NU(b:Nat)(P D d:Int)(n j:Vx)(c1 c2:Nat)(p c:Vy)(w:Vz)(h:je w b P D n c1 p j c2 c)(k:D=d∨D=0/\d=1)(q:0<d):
 Calls prog 112 #[.pointer (some ⟨b,0,none⟩)] w (Hl w b d):=by
 have u:=h.c3;by_cases m:D=0
 . have r:((c.length:Int) == 0)=true:=by have:=(h.den.num.eV dD).1 oO;simp[this]
   have f:=Hi (show d=1 by omega);clear h k m;go_enter func112,ntmps112;go_wp2_with fail;refine(EK 1 _ dD dD).mono ?_;rintro e w1 ⟨⟨s,a,cap,l,rfl,g,i,t⟩,hb⟩;go_wp2;go_ret;refine⟨⟨s,0,a,cap,l,rfl,?_,.inr g⟩,hb⟩;rw[f.o];exact⟨by rw[i.cell];rfl,by rw[i.cell];rfl,t,i.lt⟩
 . have r:((c.length:Int) == 0)=false:=by rw[aJ];have:=(h.den.num.eV dD).2;omega
   obtain⟨f,H⟩:=Ia (show D=d by omega) h;clear h k m;go_enter func112,ntmps112;go_wp2;go_ret;exact⟨⟨b,2,j,c2,c,rfl,by rw[<-f.o];exact H.o.Db,.inl rfl⟩,ac _ _⟩
def kP:Array Value:=#[.bool false,.slice none 0 0]
structure gI where
 kind:Nat
 b:Nat
 o:Nat
 X:Int
 L:Nat
abbrev gI.int(b o:Nat)(X:Int)(L:Nat):gI:=⟨0,b,o,X,L⟩
abbrev gI.xK(b:Nat)(d:Int)(L:Nat):gI:=⟨1,b,0,d,L⟩
abbrev gI.room(b:Nat):gI:=⟨2,b,0,0,0⟩
def gI.block:gI->Nat
 |⟨_,b,_,_,_⟩=>b
def gI.holds(w:Vz):gI->Prop
 |⟨0,b,o,X,L⟩=>∃a cap l,iF w b o X a cap l/\l.length<=L
 |⟨1,b,_,d,L⟩=>∃P D a1 c1 l1 a2 c2 l2,je w b P D a1 c1 l1 a2 c2 l2/\(D=d∨D=0/\d=1)/\0<d/\l2.length<=L
 |⟨_+2,b,_,_,_⟩=>∃s0 s1 s2 s3,SB w b 116 #[s0,s1,s2,s3]/\ol #[s0,s1,s2,s3]
def gI.lt{t:gI}(h:t.holds w):t.block<w.heap.size:=by
 obtain⟨c,b,o,X,L⟩:=t
 match c,h with
 |0,h=>obtain⟨a,cap,l,h,_⟩:=h;exact h.lt
 |1,h=>obtain⟨P,D,d,c1,e,f,c2,g,h,_⟩:=h;exact h.sb.lt
 |n+2,h=>obtain⟨i,j,k,m,h,_⟩:=h;exact SB.lt h
def gI.step{t:gI}(h:t.holds w)(k:Step c w w')(d:t.block≠c):t.holds w':=by
 obtain⟨e,b,o,X,L⟩:=t
 match e,h with
 |0,h=>obtain⟨a,cap,l,h,hl⟩:=h;exact⟨a,cap,l,h.step k d,hl⟩
 |1,h=>obtain⟨P,D,g,c1,i,j,c2,m,h,f⟩:=h;exact⟨P,D,g,c1,i,j,c2,m,h.step k d,f⟩
 |n+2,h=>obtain⟨p,q,r,s,h,f⟩:=h;exact⟨p,q,r,s,SB.step h k d,f⟩
structure jh (w0 w:Vz) (Z:Vy) (L:List gI):Prop where
 base:Bl w0 w
 zs:∀n,n∈ Z->w0.heap.size<=n/\SB w n 114 kP
 ts:∀t,t∈ L->t.holds w/\t.block ∉ Z
def jh.drew{w0 w:Vz}{Z:Vy}{L:List gI}(h:jh w0 w Z L):jh w0 w.drew Z L:=
 ⟨h.base.drew,fun n b=>⟨(h.zs n b).1,(h.zs n b).2.drew⟩,fun t a=>⟨gI.step (h.ts t a).1 (Step.drew w) (oB (gI.lt (h.ts t a).1)),(h.ts t a).2⟩⟩
def lL:=@jh.drew
def jh.alloc{w0 w:Vz}{Z:Vy}{L:List gI}(h:jh w0 w Z L):jh w0 (w.alloc (.cells #[.bool false,.slice none 0 0] 114)) (w.heap.size :: Z) L:=by
 refine⟨h.base.alloc h.base.size _,fun n a=>?_,fun t b=>⟨gI.step (h.ts t b).1 (Step.alloc w _) (oB (gI.lt (h.ts t b).1)),?_⟩⟩
 .
  rcases aY.1 a with rfl|a
  . exact⟨h.base.size,cK w _ _⟩
  . exact⟨(h.zs n a).1,(h.zs n a).2.alloc _⟩
 .
  intro c;rcases aY.1 c with c|c
  . have:=gI.lt (h.ts t b).1;omega
  . exact(h.ts t b).2 c
def jQ:=@jh.alloc
def less(Z:Vy)(n:Nat):List Nat:=Z.filter fun m=>decide (m≠n)
def pD{m:Nat}:m∈ less Z n↔m∈ Z/\m≠n:=by simp[less]
def jh.Qu{L:List gI}{e:As}(h:jh w0 w Z L)(d:n∈ Z)(k:jO w n 0 114 kP X e w')(j:∀a cap l,j7 w' a cap l X.natAbs->l.length<=K):
 e=.returned (.pointer (some ⟨n,0,none⟩))/\jh w0 w' (less Z n) (.int n 0 X K :: L):=by
 obtain⟨rfl,a,cap,l,hl⟩:=k;have f:=h.zs n d;have g:=Step.iw hl.only f.2 sd;refine⟨rfl,h.base.trans (hl.only.below f.1 h.base.size),fun m o=>?_,fun t c=>?_⟩
 . obtain⟨i,p⟩:=pD.1 o
   exact⟨(h.zs m i).1,(h.zs m i).2.step g p⟩
 .
  rcases aY.1 c with rfl|c
  . exact⟨⟨a,cap,l,hl.at (by simp[kP]),j a cap l hl.num⟩,fun b=>(pD.1 b).2 rfl⟩
  . have:=h.ts t c
    exact⟨gI.step this.1 g (fun b=>this.2 (b ▸ d)),fun b=>this.2 (pD.1 b).1⟩
def jh.below{L:List gI}(h:jh w0 w Z L)(k:Bl w w'):jh w0 w' Z L:=by have c:=Step.eK k;refine⟨h.base.trans (k.mono h.base.size),fun n a=>⟨(h.zs n a).1,(h.zs n a).2.below k (h.zs n a).2.lt⟩,fun t b=>⟨gI.step (h.ts t b).1 c (oB (gI.lt (h.ts t b).1)),(h.ts t b).2⟩⟩
def jh.put{L:List gI}{t:gI}(h:jh w0 w Z L)(b:t.holds w)(hb:t.block ∉ Z):jh w0 w Z (t :: L):=
 ⟨h.base,h.zs,fun s a=>by
   rcases aY.1 a with rfl|a
   . exact⟨b,hb⟩
   . exact h.ts s a⟩
def j7.uT{w2:Vz}{b c:Vx}{k1 k2:Nat}{m r:Vy}{x y z:Nat}(h:j7 w1 a k1 l x)(k:j7 w2 b k2 m y)(g:j7 w c f r z)(j:z<=x*y∨z<=x+y):r.length<=l.length+m.length+1:=by
 apply g.num.fG dD;have d:=qi (B:=4294967296) dD h.num.small;have e:=qi (B:=4294967296) dD k.num.small;rw[h.num.eq]at d;rw[k.num.eq]at e;have n:x*y<4294967296 ^ (l.length+m.length):=by rw[eG];exact pN d e
 have o:4294967296 ^ l.length<=4294967296 ^ (l.length+m.length):=cP dD oO;have q:4294967296 ^ m.length<=4294967296 ^ (l.length+m.length):=cP dD oO;have i:4294967296 ^ (l.length+m.length+1)=4294967296 ^ (l.length+m.length)*4294967296:=fD _ _;rw[i];generalize 4294967296 ^ (l.length+m.length)=p at*;omega
def wI(w0 w:Vz)(Z:Vy)(L:List gI)(n:Nat)(X:Int)(K:Nat)(e:As)(w':Vz):Prop:=
 e=.returned (.pointer (some ⟨n,0,none⟩))/\jh w0 w' (less Z n) (.int n 0 X K :: L)/\w.heap.size<=w'.heap.size/\n<w'.heap.size
def jh.xM{L:List gI}{e:As}(h:jh w0 w Z L)(c:n∈ Z)(k:jO w n 0 114 kP X e w')(d:∀a cap l,j7 w' a cap l X.natAbs->l.length<=K):wI w0 w Z L n X K e w':=by
 have b:=h.Qu c k d;refine⟨b.1,b.2,?_,?_⟩
 . obtain⟨_,a,cap,l,hl⟩:=k;exact hl.only.size
 . obtain⟨_,a,cap,l,hl⟩:=k;exact hl.sb.lt
def jh.mul{L:List gI}{bx d:Nat}(h:jh w0 w Z L)(c:n∈ Z)(q:.int bx d X i∈ L)(s:.int f g Y j∈ L)(hl:i+j<1099511627770):
 Calls prog 114 #[.pointer (some ⟨n,0,none⟩),.pointer (some ⟨bx,d,none⟩),.pointer (some ⟨f,g,none⟩)] w (wI w0 w Z L n (X*Y) (i+j+1)):=by
 obtain⟨⟨a,cap,l,p,u⟩,k⟩:=h.ts _ q;obtain⟨⟨b,cap',m,hb,v⟩,o⟩:=h.ts _ s;refine(VZ n 0 114 _ bx d X a cap l f g Y b cap' m w (h.zs n c).2 sd (by simp[kP]) p hb (fun e=>k (e ▸ c)) (fun e=>o (e ▸ c)) oO).mono ?_;intro e w' hk;refine h.xM c hk fun x y r t=>?_
 have:=p.num.uT hb.num t (.inl (by rw[fE];exact aV _));omega
def jh.add{L:List gI}{bx d:Nat}(h:jh w0 w Z L)(c:n∈ Z)(q:.int bx d X i∈ L)(s:.int f g Y j∈ L)(hl:i+j<1099511627770):
 Calls prog 118 #[.pointer (some ⟨n,0,none⟩),.pointer (some ⟨bx,d,none⟩),.pointer (some ⟨f,g,none⟩)] w (wI w0 w Z L n (X+Y) (i+j+1)):=by
 obtain⟨⟨a,cap,l,p,u⟩,k⟩:=h.ts _ q;obtain⟨⟨b,cap',m,hb,v⟩,o⟩:=h.ts _ s;refine(V8 n 0 114 _ bx d X a cap l f g Y b cap' m w (h.zs n c).2 sd (by simp[kP]) p hb (fun e=>k (e ▸ c)) (fun e=>o (e ▸ c)) oO).mono ?_;intro e w' hk;refine h.xM c hk fun x y r t=>?_
 have:=p.num.uT hb.num t (.inr oO);omega
def jh.sub{L:List gI}{bx d:Nat}(h:jh w0 w Z L)(c:n∈ Z)(q:.int bx d X i∈ L)(s:.int f g Y j∈ L)(hl:i+j<1099511627770):
 Calls prog 210 #[.pointer (some ⟨n,0,none⟩),.pointer (some ⟨bx,d,none⟩),.pointer (some ⟨f,g,none⟩)] w (wI w0 w Z L n (X - Y) (i+j+1)):=by
 obtain⟨⟨a,cap,l,p,u⟩,k⟩:=h.ts _ q;obtain⟨⟨b,cap',m,hb,v⟩,o⟩:=h.ts _ s;refine(V5 n 0 114 _ bx d X a cap l f g Y b cap' m w (h.zs n c).2 sd (by simp[kP]) p hb (fun e=>k (e ▸ c)) (fun e=>o (e ▸ c)) oO).mono ?_;intro e w' hk;refine h.xM c hk fun x y r t=>?_
 have:=p.num.uT hb.num t (.inr oO);omega
def jh.set{L:List gI}{bx:Nat}(h:jh w0 w Z L)(c:n∈ Z)(i:.int bx b X f∈ L):
 Calls prog 117 #[.pointer (some ⟨n,0,none⟩),.pointer (some ⟨bx,b,none⟩)] w (wI w0 w Z L n X f):=by
 obtain⟨⟨a,cap,l,g,k⟩,d⟩:=h.ts _ i;refine(Lk n 0 114 _ bx b X a cap l w (h.zs n c).2 sd (by simp[kP]) g (fun e=>d (e ▸ c))).mono ?_;intro e w' hk;refine h.xM c hk fun m o r j=>?_
 have:=j.kD g.num lZ;omega
def CT(w0 w:Vz)(Z:Vy)(L:List gI)(d:Int)(K:Nat)(e:As)(w':Vz):Prop:=
 ∃b o,e=.returned (.pointer (some ⟨b,o,none⟩))/\jh w0 w' Z (.int b o d K :: L)/\w.heap.size<=w'.heap.size
def jh.den{w0 w:Vz}{Z:Vy}{L:List gI}{b K:Nat}{d:Int}(h:jh w0 w Z L)(p:.xK b d K∈ L):
 Calls prog 112 #[.pointer (some ⟨b,0,none⟩)] w (CT w0 w Z L d (K+1)):=by
 obtain⟨⟨P,D,q,c1,r,s,c2,t,k,c,g,hl⟩,i⟩:=h.ts _ p;refine(NU b P D d q s c1 c2 r t w k c g).mono ?_;rintro e w' ⟨⟨j,o,a,cap,l,rfl,m,hb⟩,f⟩;refine⟨j,o,rfl,(h.below f).put ⟨a,cap,l,m,?_⟩ ?_,f.size⟩
 .
  have:=m.num;rcases c with c|⟨_,c⟩
  . subst c;have:=this.kD k.den lZ;omega
  . subst c;have:=J7 this.num;rw[this];simp
 .
  intro n
  show False
  rcases hb with rfl|hb
  . exact i n
  . have:=(h.zs _ n).2.lt;have e:gI.block (.int j o d (K+1))=j:=rfl;rw[e]at this;omega
def zU:=@jh.den
def jh.tD{L:List gI}{d:Nat}{N:Int}(h:jh w0 w Z L)(o:.room c∈ L)(j:.int d f A k∈ L)(hb:.int g i B n∈ L)(hB:0<B/\N=A∨B<0/\N= -A)(v:k<1099511627770)(x:n<1099511627770):
 Calls prog 81 #[.pointer (some ⟨c,0,none⟩),.pointer (some ⟨d,f,none⟩),.pointer (some ⟨g,i,none⟩)] w (iM w0 c (mkRat N B.natAbs)):=by
 obtain⟨⟨p,q,r,s,t,u⟩,_⟩:=h.ts _ o;obtain⟨⟨a,cap,l,j,y⟩,_⟩:=h.ts _ j;obtain⟨⟨b,cap',m,hb,z⟩,_⟩:=h.ts _ hb;refine(NY c p q r s d f A a cap l g i B b cap' m w t u j hb N hB oO oO).mono ?_;intro e w' hk;exact iM.of (qU h.base) hk
def jh.Cd{L:List gI}{a d e:Nat}(h:jh w0 w Z L)(i:.room a∈ L)(j:.int b c A f∈ L)(hb:.int d e B g∈ L)(hB:0<B)(k:f<1099511627770)(l:g<1099511627770):
 Calls prog 81 #[.pointer (some ⟨a,0,none⟩),.pointer (some ⟨b,c,none⟩),.pointer (some ⟨d,e,none⟩)] w (iM w0 a (mkRat A B.natAbs)):=h.tD i j hb (.inl ⟨hB,rfl⟩) k l
def cQ(w:Vz)(b:Nat)(q:Rat):Prop:=∃D a1 c1 l1 a2 c2 l2,je w b q.num D a1 c1 l1 a2 c2 l2/\(D=(q.den:Int)∨D=0/\(q.den:Int)=1)
def Fits(q:Rat)(k:Nat):Prop:=q.num.natAbs<2 ^ k/\q.den<2 ^ k
def FA(q:Rat):(0:Int)<(q.den:Int):=oB q.den_pos
def cQ.below{q:Rat}(h:cQ w b q)(hb:Bl w w'):cQ w' b q:=by obtain⟨D,a,c1,c,d,c2,e,h,f⟩:=h;exact⟨D,a,c1,c,d,c2,e,h.below hb,f⟩
def cQ.room{q:Rat}(h:cQ w b q):(gI.room b).holds w:=by obtain⟨D,a,c1,c,d,c2,e,h,f⟩:=h;exact⟨_,_,_,_,h.sb,yX _ _ _ _ _ _ _ _⟩
def iM.val{q:Rat}{e:As}(h:iM w b q e w'):cQ w' b q:=by obtain⟨_,_,a,c1,c,d,c2,f,h⟩:=h;exact⟨_,a,c1,c,d,c2,f,h,.inl rfl⟩
def j7.jd(h:j7 w a c l n)(b:n<2 ^ k):l.length<=k:=by apply h.num.fG dD;refine aF b ?_;exact iJ dD k
def cQ.int{q:Rat}(h:cQ w b q)(hk:Fits q k):(gI.int b 0 q.num k).holds w:=by obtain⟨D,a,c1,c,d,c2,e,h,f⟩:=h;exact⟨a,c1,c,h.uF,h.num.jd hk.1⟩
def cQ.xK{q:Rat}(h:cQ w b q)(hk:Fits q k):(gI.xK b q.den k).holds w:=by
 obtain⟨D,c,c1,d,e,c2,f,h,a⟩:=h;refine⟨_,D,c,c1,d,e,c2,f,h,a,FA q,h.den.jd ?_⟩;rcases a with a|⟨a,_⟩
 . rw[a];exact hk.2
 . rw[a];exact gN k
def jh.Qq{bx a:Nat}{q:Rat}(c:cQ w bx p)(d:cQ w a q)(h:(gI.room b).holds w)(e:Fits p j)(f:Fits q k):
 jh w w [] [.int bx 0 p.num j,.xK bx p.den j,.int a 0 q.num k,.xK a q.den k,.room b]:=by
 refine⟨ac _ _,fun n i=>(by cases i),fun t g=>⟨?_,dI⟩⟩;simp only[aY,dI,ji]at g;rcases g with rfl|rfl|rfl|rfl|rfl
 . exact c.int e
 . exact c.xK e
 . exact d.int f
 . exact d.xK f
 . exact h
def jh.one{bx a:Nat}(b:cQ w bx p)(e:(gI.room a).holds w)(c:Fits p j):
 jh w w [] [.int bx 0 p.num j,.xK bx p.den j,.room a]:=by
 refine⟨ac _ _,fun n f=>(by cases f),fun t d=>⟨?_,dI⟩⟩;simp only[aY,dI,ji]at d;rcases d with rfl|rfl|rfl
 . exact b.int c
 . exact b.xK c
 . exact e
def Kr(p q:Rat):mkRat (p.num*q.num) ((p.den:Int)*(q.den:Int)).natAbs=p*q:=by rw[fE,cY,cY,<-Y0,iO,iO]
def H5(p q:Rat):mkRat (p.num*(q.den:Int)+q.num*(p.den:Int)) ((p.den:Int)*(q.den:Int)).natAbs=p+q:=by rw[fE,cY,cY,<-Rat.mkRat_add_mkRat _ _ p.den_nz q.den_nz,iO,iO]
def Uv(p q:Rat):mkRat (p.num*(q.den:Int) - q.num*(p.den:Int)) ((p.den:Int)*(q.den:Int)).natAbs=p - q:=by have:=H5 p (-q);rw[oS,rU,Int.neg_mul,<-Int.sub_eq_add_neg]at this;rw[this,oD]
def J9(p q:Rat)(a:0<q.num):mkRat (p.num*(q.den:Int)) ((p.den:Int)*q.num).natAbs=p / q:=by
 have h:q⁻¹=mkRat q.den q.num.natAbs:=by
  rw[Rat.inv_def,<-Bg]
  congr 1
  omega
 rw[lE,h,fE,cY,<-Y0,iO]
end Go.Proofs.YtfgclhpgdanmfaaGreatDoor
