import Derived.Test.YtfgclhpgdanmfaaGreatDoorS05RatBag
import Derived.Deep.AppendLies
import Derived.Laws.BytesArg
namespace Go.Proofs.YtfgclhpgdanmfaaGreatDoor
set_option linter.defProp false
open Go.RowKit
open Go.Proofs.Tryz
set_option linter.unusedSimpArgs false
set_option linter.unusedVariables false
set_option maxHeartbeats 8000000
set_option maxRecDepth 1000000
variable{l m:List UInt8}{base cap k n x:Nat}{a:Vx}{w w':Vz}{e:Vr}{v:Ac}{xs:Vv}
def size_drew(w:Vz):w.drew.heap.size=w.heap.size:=rfl
def TE(p q:Rat)(a:q.num<0):mkRat (-(p.num*(q.den:Int))) ((p.den:Int)*q.num).natAbs=p / q:=by
 have h:0<(-q).num:=by rw[oS];omega
 have b:=J9 (-p) (-q) h;rw[oS,rU,oS,rU]at b;have e: -p / -q=p / q:=by
  have c:q≠0:=fun e=>by rw[e]at a;exact absurd a dD
  grind
 rw[<-e,<-b]
 congr 1
 . grind
 . rw[fE,fE,u6]
def G7(i bx n j k:Nat)(p q:Rat)(w:Vz)(u:(gI.room i).holds w)(v:cQ w bx p)(x:cQ w n q)(y:Fits p j)(z:Fits q k)(G:j+k<274877906000):
 Calls prog 64 #[.pointer (some ⟨i,0,none⟩),.pointer (some ⟨bx,0,none⟩),.pointer (some ⟨n,0,none⟩)] w (iM w i (p+q))/\
 Calls prog 175 #[.pointer (some ⟨i,0,none⟩),.pointer (some ⟨bx,0,none⟩),.pointer (some ⟨n,0,none⟩)] w (iM w i (p - q))/\
 Calls prog 82 #[.pointer (some ⟨i,0,none⟩),.pointer (some ⟨bx,0,none⟩),.pointer (some ⟨n,0,none⟩)] w (iM w i (p*q))/\
 (q.num≠0->Calls prog 119 #[.pointer (some ⟨i,0,none⟩),.pointer (some ⟨bx,0,none⟩),.pointer (some ⟨n,0,none⟩)] w (iM w i (p / q))):=by
 have f:=FA p;have l:=FA q;have c:=Hi (jh.Qq v x u y z);clear v x u y z;refine⟨?_,?_,?_,fun D=>?_⟩
 case' refine_1=> obtain⟨r,b⟩:=Ia (H5 p q) (BX f l);go_enter func64,ntmps64
 case' refine_2=> obtain⟨r,b⟩:=Ia (Uv p q) (BX f l);go_enter func175,ntmps175
 case' refine_3=> obtain⟨r,b⟩:=Ia (Kr p q) (BX f l);go_enter func82,ntmps82
 case' refine_4=>
  obtain⟨N,A,B⟩:∃N,(0<(p.den:Int)*q.num/\N=p.num*(q.den:Int)∨(p.den:Int)*q.num<0/\N= -(p.num*(q.den:Int)))/\mkRat N ((p.den:Int)*q.num).natAbs=p / q:=by
   by_cases h:0<q.num
   . exact⟨_,.inl ⟨BX f h,rfl⟩,J9 p q h⟩
   . exact⟨_,.inr ⟨Fl f oO,rfl⟩,TE p q oO⟩
  obtain⟨b,r⟩:=Ia A B;clear A B;go_enter func119,ntmps119
 all_goals
  clear f l;go_wp2;go_region_held3 (fun _=>True) (trivial) (first
   |(
    first
     |(
      go_at_call 114;apply cM
      apply jh.mul (w0:=w))
     |(
      go_at_call 118;apply cM
      apply jh.add (w0:=w))
     |(
      go_at_call 210;apply cM
      apply jh.sub (w0:=w))
    (focus(repeat(first|exact c.o|apply jQ|apply lL)));(focus(simp only[pD,aY,dI,ji,size_drew,bH,true_or,or_true,uW,jE]<;>omega));(focus(repeat(first|exact mH|apply mT)));(focus(repeat(first|exact mH|apply mT)));omega;rintro e w1 ⟨rfl,a,d,s⟩;clear c;have c:=Hi a;clear a
    (try simp only[size_drew,bH]at d))
   |(
    go_at_call 112;apply cM;apply zU (w0:=w);(focus(repeat(first|exact c.o|apply jQ|apply lL)));(focus(repeat(first|exact mH|apply mT)));rintro e w1 ⟨b1,E,rfl,a,d⟩;clear c;have c:=Hi a;clear a
    (try simp only[size_drew,bH]at d))
   |(
    go_at_call 81;apply cM;apply jh.tD (w0:=w);(focus(repeat(first|exact c.o|apply jQ|apply lL)));(focus(repeat(first|exact mH|apply mT)));(focus(repeat(first|exact mH|apply mT)));(focus(repeat(first|exact mH|apply mT)))
    first|exact b.o|exact .inl ⟨b.o,rfl⟩
    omega;omega;rintro e F g;have C:=Hi g;obtain⟨rfl,m,t⟩:=g
    clear c m t)
   )
  all_goals
   go_wp2_with (first
    |(
     first
      |(
       go_at_call 114;apply cM
       apply jh.mul (w0:=w))
      |(
       go_at_call 118;apply cM
       apply jh.add (w0:=w))
      |(
       go_at_call 210;apply cM
       apply jh.sub (w0:=w))
     (focus(repeat(first|exact c.o|apply jQ|apply lL)));(focus(simp only[pD,aY,dI,ji,size_drew,bH,true_or,or_true,uW,jE]<;>omega));(focus(repeat(first|exact mH|apply mT)));(focus(repeat(first|exact mH|apply mT)));omega;rintro e w1 ⟨rfl,a,d,s⟩;clear c;have c:=Hi a;clear a
     (try simp only[size_drew,bH]at d))
    |(
     go_at_call 112;apply cM;apply zU (w0:=w);(focus(repeat(first|exact c.o|apply jQ|apply lL)));(focus(repeat(first|exact mH|apply mT)));rintro e w1 ⟨b1,E,rfl,a,d⟩;clear c;have c:=Hi a;clear a
     (try simp only[size_drew,bH]at d))
    |(
     go_at_call 81;apply cM;apply jh.tD (w0:=w);(focus(repeat(first|exact c.o|apply jQ|apply lL)));(focus(repeat(first|exact mH|apply mT)));(focus(repeat(first|exact mH|apply mT)));(focus(repeat(first|exact mH|apply mT)))
     first|exact b.o|exact .inl ⟨b.o,rfl⟩
     omega;omega;rintro e F g;have C:=Hi g;obtain⟨rfl,m,t⟩:=g
     clear c m t)
    )
   go_ret;rw[<-r.o];exact C.o
def lJ(X:Int):Int:=if X<0 then -1 else if X=0 then 0 else 1
def oZ(X Y:Int):Int:=if X<Y then -1 else if X=Y then 0 else 1
def Tv(b o:Nat)(X:Int)(a:Vx)(cap:Nat)(l:Vy)(w:Vz)(c:iF w b o X a cap l):
 Calls prog 115 #[.pointer (some ⟨b,o,none⟩)] w fun e w'=>e=.returned (.int .i64 (lJ X))/\w'=w:=by
 have h:=c.neg;have k1:=c.abs;by_cases f:X=0
 . have q:((l.length:Int) == 0)=true:=by have:=(c.num.num.eV dD).1 oO;simp[this]
   have g:=Hi (show lJ X=0 by unfold lJ;rw[aH oO,aN f]);clear c f;go_enter func115,ntmps115;go_wp2;go_ret;exact⟨by rw[g.o];rfl,rfl⟩
 .
  have q:((l.length:Int) == 0)=false:=by rw[aJ];have:=(c.num.num.eV dD).2;omega
  by_cases d:X<0
  . have g:=Hi (show lJ X= -1 by unfold lJ;rw[aN d]);rw[show decide (X<0)=true by simpa using d]at h;clear c f d;go_enter func115,ntmps115;go_wp2;go_ret;exact⟨by rw[g.o];rfl,rfl⟩
  . have g:=Hi (show lJ X=1 by unfold lJ;rw[aH d,aH f]);rw[show decide (X<0)=false by simpa using d]at h;clear c f d;go_enter func115,ntmps115;go_wp2;go_ret;exact⟨by rw[g.o];rfl,rfl⟩
def Tu(b:Nat)(q:Rat)(w:Vz)(a:cQ w b q):
 Calls prog 59 #[.pointer (some ⟨b,0,none⟩)] w fun e w'=>e=.returned (.int .i64 (lJ q.num))/\w'=w:=by
 obtain⟨D,c,c1,d,g,c2,i,h,f⟩:=a;have H:=Hi h.uF;clear h f;go_enter func59,ntmps59;go_wp2_with fail;refine(Tv b 0 q.num c c1 d _ H.o).mono ?_;rintro e w1 ⟨rfl,rfl⟩;go_wp2;go_ret;exact⟨rfl,rfl⟩
def NX(b:Nat)(w:Vz):
 Calls prog 61 #[.pointer (some ⟨b,0,none⟩)] w fun e w'=>e=.returned (.pointer (some ⟨b,0,none⟩))/\w'=w:=by
 go_enter func61,ntmps61;go_wp2;go_ret;exact⟨rfl,rfl⟩
def Tt(X Y:Int)(a:X<0)(b:Y<0):oZ X Y= -(kZ X.natAbs Y.natAbs):=by
 have c:X.natAbs<Y.natAbs↔Y<X:=oO;have d:X.natAbs=Y.natAbs↔X=Y:=oO;unfold oZ kZ;rcases Int.lt_trichotomy X Y with h|h|h
 . rw[aN h,aH oO,aH oO]
 . rw[aH oO,aN h,aH oO,aN oO];rfl
 . rw[aH oO,aH oO,aN oO];rfl
def Ts(X Y:Int)(a:0<=X)(b:0<=Y):oZ X Y=kZ X.natAbs Y.natAbs:=by
 unfold oZ kZ;rcases Int.lt_trichotomy X Y with h|h|h
 . rw[aN h,aN oO]
 . rw[aH oO,aN h,aH oO,aN oO]
 . rw[aH oO,aH oO,aH oO,aH oO]
def Tr(z:Int)(a: -1<=z)(b:z<=1):wrap64 z=z:=by unfold wrap64;omega
def Bs(x y:Nat):Ending.returned (.int .i64 (wrap64 (-kZ x y)))=Ending.returned (.int .i64 (-kZ x y)):=by have h:=Yw x y;rw[Tr _ oO oO]
def NW(bx p:Nat)(X:Int)(a:Vx)(cap:Nat)(l:Vy)(q r:Nat)(Y:Int)(b:Vx)(cap':Nat)(m:Vy)(w:Vz)(k:iF w bx p X a cap l)(n:iF w q r Y b cap' m):
 Calls prog 113 #[.pointer (some ⟨bx,p,none⟩),.pointer (some ⟨q,r,none⟩)] w fun e w'=>e=.returned (.int .i64 (oZ X Y))/\Below w.heap.size w w':=by
 have j:=k.neg;have k1:=k.abs;have s:=n.neg;have u:=n.abs;have f:=k.lt;have h:=n.lt;obtain⟨v,x⟩:=Ia k.num n.num;clear k n;by_cases c:decide (X<0)=decide (Y<0)
 .
  by_cases g:X<0
  . rw[show decide (X<0)=true by simpa using g]at j;rw[show decide (Y<0)=true by simp at c ⊢;omega]at s;have i:=Hi (Tt X Y oO (by simp at c;omega));clear c g;go_enter func113,ntmps113;go_wp2_with fail;go_region;go_wp2_with fail;go_region_held3 (fun w'=>w'.cell? ⟨bx,p+1,none⟩=some (.slice a l.length cap)/\w'.cell? ⟨q,r+1,none⟩=some (.slice b m.length cap')) ((simp [*])) (first|(go_at_call 171;refine(DH a b cap cap' l m X.natAbs Y.natAbs _ ?_ ?_).mono ?_;exact v.o.below ((bR.drew).drew);exact x.o.below ((bR.drew).drew);rintro e w1 ⟨rfl,d⟩;have t:=Hi (((ac w.heap.size w).drew.drew).trans d);have d0:=ce d f j;have d1:=ce d f k1;have d2:=ce d h u;clear d));go_wp2;go_ret;exact⟨by rw[i.o];exact Bs _ _,t.o⟩
  . rw[show decide (X<0)=false by simpa using g]at j;rw[show decide (Y<0)=false by simp at c ⊢;omega]at s;have i:=Hi (Ts X Y oO (by simp at c;omega));clear c g;go_enter func113,ntmps113;go_wp2_with fail;go_region;go_wp2_with fail;go_region_held3 (fun w'=>w'.cell? ⟨bx,p+1,none⟩=some (.slice a l.length cap)/\w'.cell? ⟨q,r+1,none⟩=some (.slice b m.length cap')) ((simp [*])) (first|(go_at_call 171;refine(DH a b cap cap' l m X.natAbs Y.natAbs _ ?_ ?_).mono ?_;exact v.o.below ((bR.drew).drew);exact x.o.below ((bR.drew).drew);rintro e w1 ⟨rfl,d⟩;have t:=Hi (((ac w.heap.size w).drew.drew).trans d);have d0:=ce d f j;have d1:=ce d f k1;have d2:=ce d h u;clear d));go_wp2;go_ret;exact⟨by rw[i.o];rfl,t.o⟩
 .
  by_cases g:X<0
  . rw[show decide (X<0)=true by simpa using g]at j;rw[show decide (Y<0)=false by simp at c ⊢;omega]at s;have i:=Hi (show oZ X Y= -1 by unfold oZ;rw[aN (by simp at c;omega)]);clear c g;go_enter func113,ntmps113;go_wp2_with fail;go_region;go_wp2;go_ret;exact⟨by rw[i.o];rfl,bR.drew⟩
  . rw[show decide (X<0)=false by simpa using g]at j;rw[show decide (Y<0)=true by simp at c ⊢;omega]at s;have i:=Hi (show oZ X Y=1 by unfold oZ;rw[aH (by simp at c;omega),aH (by simp at c;omega)]);clear c g;go_enter func113,ntmps113;go_wp2_with fail;go_region;go_wp2;go_ret;exact⟨by rw[i.o];rfl,bR.drew⟩
def Tq(f bx j:Nat)(p:Rat)(w:Vz)(h:(gI.room f).holds w)(i:cQ w bx p)(k:Fits p j)(r:j<549755813000):
 Calls prog 122 #[.pointer (some ⟨f,0,none⟩),.pointer (some ⟨bx,0,none⟩)] w (iM w f p):=by
 obtain⟨b,l,c⟩:=Ib (FA p) (show mkRat p.num (p.den:Int).natAbs=p by rw[cY,iO]) (jh.one i h k);clear i h k;go_enter func122,ntmps122;go_wp2;go_region_held3 (fun _=>True) (trivial) (first
  |(
   go_at_call 112;apply cM;apply zU (w0:=w);(focus(repeat(first|exact c.o|apply jQ|apply lL)));(focus(repeat(first|exact mH|apply mT)));rintro e w1 ⟨b1,s,rfl,a,m⟩;clear c;have c:=Hi a
   clear a)
  |(
   go_at_call 81;apply cM;apply jh.Cd (w0:=w);(focus(repeat(first|exact c.o|apply jQ|apply lL)));(focus(repeat(first|exact mH|apply mT)));(focus(repeat(first|exact mH|apply mT)));(focus(repeat(first|exact mH|apply mT)));exact b.o;omega;omega;rintro e t d;have n:=Hi d;obtain⟨rfl,g,q⟩:=d
   clear c g q))
 go_wp2;go_ret;rw[<-l.o];exact n.o
def Li(b bx j:Nat)(p:Rat)(w:Vz)(i:(gI.room b).holds w)(k:cQ w bx p)(m:Fits p j)(n:j<549755813000):
 Calls prog 73 #[.pointer (some ⟨b,0,none⟩),.pointer (some ⟨bx,0,none⟩)] w (iM w b (-p)):=by
 have d:=Hi (Tq b bx j p w i k m n);clear k i m n;go_enter func73,ntmps73;go_wp2_with fail;refine d.o.mono ?_;rintro e w1 ⟨rfl,c,r,c1,s,t,c2,u,q⟩;obtain⟨f,h⟩:=Ia q c;clear q c d;go_wp2_with fail;have d:=Hi (J6 b 0 116 _ p.num r c1 s _ f.o.sb.drew (yX _ _ _ _ _ _ _ _) sS f.o.drew.uF);go_region_held3 (fun _=>True) (trivial) (first
  |(
   go_at_call 123;refine d.o.mono ?_;rintro e w2 ⟨rfl,a,cap,l,hl⟩;have g:=Hi hl
   clear hl))
 go_wp2;go_ret;refine⟨rfl,h.o.drew.trans g.o.only,a,cap,l,t,c2,u,?_,?_,?_⟩
 . have:=g.o.sb;rw[oS,rU]
   simpa [rD] using this
 . rw[oS];exact g.o.num
 . rw[rU];exact f.o.den.drew.only g.o.only f.o.sb.drew (yX _ _ _ _ _ _ _ _)
def NV(b:Nat)(q:Rat)(w:Vz)(x:cQ w b q):
 Calls prog 60 #[.pointer (some ⟨b,0,none⟩)] w fun e w'=>e=.returned (.bool (decide (q.den=1)))/\Below w.heap.size w w':=by
 obtain⟨D,y,c1,z,A,c2,B,h,p⟩:=x;obtain⟨H,C⟩:=Ia h p;have E:=Hi (show (oZ (q.den:Int) 1 == 0)=decide (q.den=1) by
  unfold oZ;by_cases r:q.den=1
  . rw[aH oO,aN oO];simp[r]
  . have:=q.den_pos
    rw[aH oO,aH oO];simp[r])
 clear h p;go_enter func60,ntmps60;go_wp2_with fail;refine(NU b q.num D q.den y A c1 c2 z B w H.o C.o (FA q)).mono ?_;rintro e w1 ⟨⟨F,o,a,cap,l,rfl,s,hb⟩,g⟩;obtain⟨G,d⟩:=Ia s g;clear s hb g;go_wp2_with fail;refine(EK 1 _ dD dD).mono ?_;rintro e w2 ⟨⟨b2,t,c,u,rfl,k,j,v⟩,hb⟩;obtain⟨m,f⟩:=Ia (show iF w2 b2 0 1 t c u from ⟨by rw[j.cell];rfl,by rw[j.cell];rfl,v,j.lt⟩) hb;clear k j v hb;go_wp2_with fail;refine(NW F o q.den a cap l b2 0 1 t c u _ (G.o.below f.o) m.o).mono ?_;rintro e I ⟨rfl,i⟩;have n:=Hi i;clear i;go_wp2;go_ret;refine⟨by rw[<-E.o];rfl,(d.o.trans (f.o.mono d.o.size)).trans (n.o.mono (aE d.o.size f.o.size))⟩
def Tp(b:Nat)(q:Rat)(w:Vz)(m:cQ w b q):
 Calls prog 63 #[.pointer (some ⟨b,0,none⟩)] w fun e w'=>(∃g a cap l,e=.returned (.pointer (some ⟨g,0,none⟩))/\iF w' g 0 q.den a cap l)/\Below w.heap.size w w':=by
 obtain⟨D,p,c1,r,s,c2,i,h,j⟩:=m;have d:O (jh w w [] [.xK b q.den i.length]):=Hi ⟨ac _ _,fun n u=>(by cases u),fun t f=>by
  rcases aY.1 f with rfl|f
  . exact⟨⟨_,D,p,c1,r,s,c2,i,h,j,FA q,aV _⟩,dI⟩
  . cases f⟩
 clear h j;go_enter func63,ntmps63;go_wp2_with (first
  |(
   go_at_call 112;apply cM;apply zU (w0:=w);(focus(repeat(first|exact d.o|apply jQ|apply lL)));(focus(repeat(first|exact mH|apply mT)));rintro e w1 ⟨b1,z,rfl,c,v⟩;clear d;have d:=Hi c
   clear c)
  |(
   go_at_call 117;apply cM;apply jh.set (w0:=w);(focus(repeat(first|exact d.o|apply jQ|apply lL)));exact bM _;(focus(repeat(first|exact mH|apply mT)));rintro e w1 ⟨rfl,c,k,x⟩;clear d;have d:=Hi c
   clear c))
 go_ret;obtain⟨⟨a,cap,l,y,hl⟩,_⟩:=d.o.ts _ (bM _);exact⟨⟨_,a,cap,l,rfl,y⟩,d.o.base⟩
def To(s:Nat)(x:Nat)(w:Vz)(y:(gI.room s).holds w)(N:x<1000000):
 Calls prog 72 #[.pointer (some ⟨s,0,none⟩),.int .i64 x] w (iM w s (x:Rat)):=by
 have F:=Hi y;have G:=Hi (show mkRat (x:Int) (1:Int).natAbs=(x:Rat) by
  apply Rat.ext
  . rw[sh];simp
  . rw[si];simp)
 clear y;go_enter func72,ntmps72;go_wp2_with fail;refine(EK (x:Int) _ oO oO).mono ?_;rintro e w1 ⟨⟨b1,z,c,A,rfl,g,a,h⟩,i⟩;obtain⟨j,k⟩:=Ia (show iF w1 b1 0 x z c A from ⟨by rw[a.cell];simp,by rw[a.cell];rfl,h,a.lt⟩) i;clear g a h i;go_wp2_with fail;refine(EK 1 _ dD dD).mono ?_;rintro e w2 ⟨⟨b2,B,d,t,rfl,l,b,m⟩,n⟩;obtain⟨p,q⟩:=Ia (show iF w2 b2 0 1 B d t from ⟨by rw[b.cell];rfl,by rw[b.cell];rfl,m,b.lt⟩) n;clear l b m n;go_wp2_with fail;obtain⟨H,I,J,K,u,C⟩:=F.o;have f:=k.o.trans (q.o.mono k.o.size);have D:=j.o.num.jd (bQ oO (by decide:1000000<2 ^ 64));have E:t.length<=64:=p.o.num.jd dD;refine(H4 s H I J K b1 0 x z c A b2 0 1 B d t _ (u.below f u.lt) C (j.o.below q.o) p.o dD oO oO).mono ?_;rintro e O r;have L:=Hi (iM.of (qU f) r);obtain⟨rfl,v,M⟩:=r;clear v M u C f;go_wp2;go_ret;rw[<-G.o];exact L.o
def dE(l:List UInt8):Nat:=l.foldl (fun a c=>10*a+(c.toNat - 48)) 0
def YB(l:List UInt8)(a:Nat):l.foldl (fun a c=>10*a+(c.toNat - 48)) a=a*10 ^ l.length+dE l:=by
 induction l generalizing a with
 |nil=>simp[dE]
 |cons c l b=> unfold dE;rw[List.foldl_cons,List.foldl_cons,b,b (10*0+(c.toNat - 48)),List.length_cons,Nat.pow_succ,Nat.add_mul,Nat.mul_comm 10 a,Nat.mul_assoc,Nat.mul_comm 10 (10 ^ l.length),Nat.mul_zero,Nat.zero_add];omega
def FL(l m:List UInt8):dE (l++m)=dE l*10 ^ m.length+dE m:=by
 conv=>lhs;unfold dE
 rw[List.foldl_append];exact YB m _
def IK(l:List UInt8)(c:UInt8):dE (l++ [c])=10*dE l+(c.toNat - 48):=by unfold dE;rw[List.foldl_append];rfl
def fF(l:List UInt8):Prop:=∀c,c∈ l→48≤c.toNat∧c.toNat≤57
def DF(l:List UInt8)(h:fF l):dE l<10 ^ l.length:=by
 induction l with
 |nil=>simp[dE]
 |cons c l a=>
  have f:=h c (List.mem_cons_self ..);have g:=a fun d b=>h d (List.mem_cons_of_mem _ b)
  have e:dE (c :: l)=(c.toNat - 48)*10 ^ l.length+dE l:=by
   have:=FL [c] l
   simpa [dE] using this
  rw[e,List.length_cons,Nat.pow_succ];have:(c.toNat - 48)*10 ^ l.length≤9*10 ^ l.length:=Nat.mul_le_mul_right _ (by omega);omega
def PK(k:Nat):10 ^ k≤2 ^ (4*k):=by rw[Nat.pow_mul];exact Nat.pow_le_pow_left (by decide) k
def LH(s:ByteArray)(k:Nat)(h:k<s.size):s.data.toList.take (k+1)=s.data.toList.take k++ [s[k]]:=by rw[List.take_succ_eq_append_getElem (by simpa using h)];rfl
def LG{s:ByteArray}(a:fF s.data.toList)(k:Nat)(h:k<s.size):48≤s[k].toNat∧s[k].toNat≤57:=
 a _ (List.mem_iff_getElem.2 ⟨k,by simpa using h,rfl⟩)
def fF.take(h:fF l)(k:Nat):fF (l.take k):=fun c a=>h c (List.mem_of_mem_take a)
def pY(l:List UInt8)(n:Nat):Prop:=(n=0∧l= [48])∨(n≠0∧∃ds,Num 10 ds n∧l=ds.reverse.map (fun d=>UInt8.ofNat (48+d)))
def pY.inj(h:pY l n)(k:pY m n):l=m:=by
 rcases h with ⟨b,rfl⟩|⟨b,d,h,rfl⟩
 ·
  rcases k with ⟨a,rfl⟩|⟨a,c,k,rfl⟩
  · rfl
  · omega
 ·
  rcases k with ⟨a,rfl⟩|⟨a,c,k,rfl⟩
  · omega
  · rw[h.inj (by decide) k]
def j8(l:List UInt8)(X:Int):Prop:=∃m,pY m X.natAbs∧l=if X<0 then 45 :: m else m
def j8.inj{X:Int}(h:j8 l X)(k:j8 m X):l=m:=by obtain⟨a,c,rfl⟩:=h;obtain⟨b,hb,rfl⟩:=k;rw[c.inj hb]
def YA{a:List Nat}(b:Small 10 a)(hk:a.length=k)(c:val 10 a=x)(e:10 ^ (k - 1)≤x)(h:0<k):Num 10 a x:=by refine⟨b,?_,c⟩;right;intro d;obtain⟨j,rfl⟩:∃j,k=j+1:=⟨k - 1,by omega⟩;have f:=EQ 10 a j (by omega);rw[hk,Nat.add_sub_cancel]at d;rw[d,Nat.mul_zero,Nat.add_zero,List.take_of_length_le (by omega),c]at f;have g:=qi (B:=10) (by decide) (b.take j);rw[List.length_take,Nat.min_eq_left (by omega)]at g;rw[Nat.add_sub_cancel]at e;omega
def j7.tj{c:Nat}{l:Vy}(h:j7 w a c l n)(b:n<10 ^ k):l.length<=4*k:=
 h.jd (aF b (PK k))
def Pk(c:AP)(a:48<=c.toNat)(b:c.toNat<=57):∃d:Nat,d<=9/\c.toNat - 48=d/\(c.toNat:Int)=48+d:=⟨c.toNat - 48,oO,rfl,oO⟩
def Ll(h:Nat)(s:Vs)(w:Vz)(Q:SB w h 114 kP)(V:0<s.size)(W:s.size<=1073741824)(H:fF s.data.toList):
 Calls prog 79 #[.pointer (some ⟨h,0,none⟩),.string s,.int .i64 10] w fun e w'=>e=.returned (.tuple #[.pointer (some ⟨h,0,none⟩),.bool true])/\∃a cap l,Laid w w' h 0 114 kP (dE s.data.toList) a cap l:=by
 obtain⟨R,S⟩:=Ia Q H;have I:=LG H 0 V;have q1:((s[0].toNat:Int) == 45)=false:=by rw[aJ];omega
 have q2:((s[0].toNat:Int) == 43)=false:=by rw[aJ];omega
 have q3:((s.size:Int) == 0)=false:=by rw[aJ];omega
 clear Q H;go_enter func79,ntmps79;go_wp2;go_loopw [9,10] (fun r i wr=>∃(k:Nat)(a:Vx)(cap:Nat) (l:Vy),k<=s.size/\i=.int .i64 k/\r=.slice a l.length cap/\j7 wr a cap l (dE (s.data.toList.take k))/\Below w.heap.size w wr) (fun _ i _=>s.size - (intOf i).toNat)
 case atStart=>exact⟨0,none,0,[],oO,rfl,rfl,⟨qS _ _,by simpa [dE] using Num.zero _,sS⟩,ac _ _⟩
 case round=>
  obtain⟨k,a,cap,l,hk,rfl,rfl,T,hb⟩:=hrel;obtain⟨F,G⟩:=Ia T hb;clear T hb;by_cases j:k<s.size
  .
   have b:=LG S.o k j;have X:=Hi (LH s k j);obtain⟨d,Y,m,Z⟩:=Pk s[k] b.1 b.2;have J:=Hi m;have b0:(0:Int)<=(k:Int):=oO;have b1:(k:Int)<(s.size:Int):=oO;clear m;have aa:(48:Int)+(d:Int) - 48=d:=oO;have n:=Hi (DF _ (S.o.take k));have U:l.length<=4294967296:=by have h1:=F.o.tj n.o;have h2:(s.data.toList.take k).length<=k:=tO;omega
   clear b I;go_wp2_with fail;refine(DG 10 _ dD dD).mono ?_;rintro e w1 ⟨⟨a1,p,r1,rfl,q,ab⟩,t⟩;obtain⟨u,c⟩:=Ia q t;clear q t;go_wp2_with fail;refine(Qk a a1 cap p l r1 _ _ _ (F.o.below c.o) u.o oO).mono ?_;rintro e w2 ⟨⟨a2,v,r2,rfl,f⟩,x⟩;have ad:=F.o.uT u.o f (.inl lZ);obtain⟨K,y⟩:=Ia f x;clear f x;go_wp2_with fail;refine(DG (d:Int) _ oO oO).mono ?_;rintro e w3 ⟨⟨a3,z,r3,rfl,A,ae⟩,B⟩;obtain⟨L,g⟩:=Ia A B;clear A B;go_wp2_with fail;refine(Qm a2 a3 v z r2 r3 _ _ _ (K.o.below g.o) L.o oO oO).mono ?_;rintro e w4 ⟨⟨a4,C,r4,rfl,D⟩,E⟩;obtain⟨M,N⟩:=Ia D E;clear D E;go_wp2;go_roundw
   case rel=>
    have s1:=G.o.size;have s2:=c.o.size;have s3:=y.o.size;have s4:=g.o.size;refine⟨k+1,a4,C,r4,oO,by go_num,rfl,?_,(((G.o.trans (c.o.mono oO)).trans (y.o.mono oO)).trans (g.o.mono oO)).trans (N.o.mono oO)⟩;have e:dE (s.data.toList.take (k+1))=dE (s.data.toList.take k)*(10:Int).toNat+(d:Int).toNat:=by rw[X.o,IK,J.o];simp;omega
    rw[e];exact M.o
   case measure=>exact mI
  .
   have O:k=s.size:=oO;subst O;go_wp2_with fail;refine(DA h 0 114 kP false a cap l _ (dE s.data.toList) _ (R.o.below G.o R.o.lt) sd (by simp[kP]) F.o ?_).mono ?_
   . rw[show s.data.toList.take s.size=s.data.toList from bL sS]
     simp
   rintro e w1 ⟨rfl,hl⟩;have HL:=Hi hl;clear hl;go_wp2;go_ret2;obtain⟨_,a',c',l',P⟩:=FP (qU G.o) ⟨rfl,_,_,_,HL.o⟩;exact⟨rfl,a',c',l',P⟩
def Yl(g n cap x:Nat)(rs:Vy)(w:Vz)(h:jf .u32 213 w g rs)(hl:rs.length=n)(i:Small 4294967296 rs)(j:n<=cap)(l:n<=1099511627776)(k:val 4294967296 rs=x):
 Calls prog 183 #[.slice (some ⟨g,0,none⟩) n cap] w fun e w'=>(∃r,e=.returned (.slice (some ⟨g,0,none⟩) r.length cap)/\j7 w (some ⟨g,0,none⟩) cap r x)/\w'=w:=by
 have b:=h.row n oO cap j;rw[bL oO]at b;have f:=Qh (some ⟨g,0,none⟩) cap rs w b oO;rw[hl]at f;refine f.mono ?_;rintro e w1 ⟨⟨q,m,rfl,c,d⟩,rfl⟩;have a:(rs.take q).length=q:=tO;exact⟨⟨rs.take q,by rw[a],b.take q oO,⟨i.take q,d,c.trans k⟩,by rw[a];omega⟩,rfl⟩
def Yk(a:Vx)(cap d:Nat)(l:Vy)(x:Nat)(w:Vz)(h:j7 w a cap l x)(f:0<d)(hd:d<4294967296):
 Calls prog 173 #[.slice a l.length cap,.int .u32 d] w fun e w'=>(∃cap r,e=.returned (.tuple #[.slice (some ⟨w.heap.size,0,none⟩) r.length cap,.int .u32 (x % d:Nat)])/\j7 w' (some ⟨w.heap.size,0,none⟩) cap r (x / d))/\Below w.heap.size w w':=by
 have s1:=h.short;have C:=
  fun w=>CO _ l.length rfl oO w
 go_enter func173,ntmps173;go_wp2;clear C;go_loopw [7,8] (fun r i wr=>∃(k c:Nat)(rs:Vy),k<=l.length/\c<d/\r=.int .u64 c/\i=.int .i64 ((k:Int) - 1)/\jf .u32 213 wr w.heap.size rs/\rs.length=l.length/\Small 4294967296 rs/\
  val 4294967296 (rs.drop k)*d+c=val 4294967296 (l.drop k)/\Below w.heap.size w wr) (fun _ i _=>(intOf i+1).toNat)
 case atStart=>exact⟨l.length,0,zeros l.length,aV _,f,rfl,rfl,mn _ _ _ _,uC _,wZ _ _ oO,by rw[dG (by rw[uC];exact aV _),dG lZ];simp[val],bR.alloc lZ _⟩
 case round=>
  obtain⟨k,r,rs,hk,I,rfl,rfl,hB,m,v,J,hb⟩:=hrel;have K:O (val 4294967296 (rs.drop k)*d+r=val 4294967296 (l.drop k)):=J;have n:O (rs.length=l.length):=m;have L:O (jf .u32 213 wr w.heap.size rs):=hB;have y:O (Small 4294967296 rs):=v;clear J v;by_cases S:k=0
  . subst S;have A:=K.o;simp only[iP,h.num.eq]at A;have p:val 4294967296 rs=x / d:=by rw[<-A,bV,om f,jG I,dV]
    have M:x % d=r:=by rw[<-A,bV,qB,kH I]
    have T:O (x % d=r):=M;clear m hB A M;have U:O (val 4294967296 rs=x / d):=p;clear p;go_wp2_with fail;refine(Yl w.heap.size l.length l.length (x / d) rs _ L.o n.o y.o lZ oO U.o).mono ?_;rintro e w1 ⟨⟨r,rfl,V⟩,rfl⟩;go_wp2;go_ret2;exact⟨⟨_,r,by rw[T.o];rfl,V⟩,hb⟩
  .
   obtain⟨j,rfl⟩:∃j,k=j+1:=⟨k - 1,oO⟩;obtain⟨b,W,rfl,D,t⟩:=h.row.cell j oO;obtain⟨e,B⟩:=nm (l.getD j 0);have E:e<4294967296:=by rw[<-B];exact h.num.small.getD oO j
   rw[B]at t;have N:=ce hb D t;have X:O (l.getD j 0=e):=B;obtain⟨z,P⟩:=nm (rs.getD j 0);have g1:=hB.free j;have Y:=hB.cell j oO;rw[P]at Y;clear B t P hB m;have Q:((j+1:Nat):Int) - 1=(j:Int):=oO;rw[Q];clear Q;have Z:((d:Int) == 0)=false:=by rw[aJ];omega
   obtain⟨s,R⟩:=nm (4294967296*r+e);have aa:bits .or .u64 ((r:Int)*4294967296) (e:Int)=(s:Int):=by rw[yO ((r:Int)*4294967296) (e:Int) r e 32 oO rfl E oO];omega
   obtain⟨q,p⟩:=nm (s / d);obtain⟨c,g⟩:∃c,s % d=c:=⟨_,rfl⟩;have F:q<4294967296:=by rw[<-p,fL f];have:=cR 4294967296 (show r+1<=d by omega);omega
   have G:c<d:=by rw[<-g];exact eU _ f
   have u:=Qf 4294967296 j d e r rs l (oB n.o) oO X.o K.o;rw[R,p,g]at u;have t1:(s:Int) / (d:Int)=(q:Int):=by rw[<-p];simp
   have t2:(s:Int) % (d:Int)=(c:Int):=by rw[<-g];simp
   have ab:s<18446744073709551616:=oO;have H:O (val 4294967296 ((rs.set j q).drop j)*d+c=val 4294967296 (l.drop j)):=u;clear p g u R;go_wp2;go_roundw
   case rel=>exact⟨j,c,rs.set j q,oO,G,by rw[t2],rfl,L.o.set j q,by rw[aQ];exact n.o,y.o.set j F,H.o,hb.setCell lZ _⟩
   case measure=>simp[intOf]
def Row.grown{k:AM}{l:Vy}{row:Option Nat}(h:Row k w a cap l)(e:w.grownBy w' row)(f:∀b c,a=some ⟨b,c,none⟩->some b≠row):Row k w' a cap l:=by
 refine⟨h.fit,?_,fun i j=>?_⟩
 .
  rcases h.shape with d|⟨b,c,rfl,g⟩
  . exact .inl d
  . exact .inr ⟨b,c,rfl,by have:=e.size;omega⟩
 . obtain⟨b,c,d,g,m⟩:=h.cell i j
   exact⟨b,c,d,by have:=e.size;omega,(bJ (w:=w) (a:=⟨b,c+i,none⟩) (e.block b g (f b c d))).trans m⟩
def j7.grown{l:Vy}{row:Option Nat}(h:j7 w a cap l n)(e:w.grownBy w' row)(c:∀b d,a=some ⟨b,d,none⟩->some b≠row):j7 w' a cap l n:=⟨h.row.grown e c,h.num,h.short⟩
def Dz{a:Nat}(h:w.ownsRow base e a v n xs)(hb:Bl w w'):w'.ownsRow base e a v n xs:=by
 refine⟨h.1,?_⟩;rcases h.2 with b|⟨g,cap,c,b,i,d,j⟩
 . exact .inl b
 . refine .inr ⟨g,cap,c,b,i,?_,j⟩;have f:g<w.heap.size:=by apply bC;intro k;rw[dX oO]at d;cases d
   rw[hb.block g f];exact d
def vV(d:Nat):Value:=.int .u8 (48+(d:Int))
def qD:Value->Nat
 | .slice _ n _=>n
 |_=>0
def LV{a:Nat}(h:w.ownsRow base e a v n xs):qD v=n:=by rcases h.2 with ⟨rfl,rfl⟩|⟨g,cap,b,rfl,_⟩<;>rfl
def Tryz.A5:(prog.info? 5).map (fun i=>(i.zero,i.size,i.bytes))=some (some (.int .u8 0),1,1):=kK
def WI{d:Nat}{a:Vy}(hk:a.length=k)(c:x / 10 ^ k % 10=d)(e:val 10 a+10 ^ k*(x / 10 ^ k)=x):val 10 (a++ [d])+10 ^ (k+1)*(x / 10 ^ (k+1))=x:=by
 rw[GV,hk,DE,GW,fH,dV,fD,<-JG];have b:=iS (x / 10 ^ k) 10;rw[c]at b;have f:10 ^ k*10*(x / 10 ^ k / 10)+10 ^ k*d=10 ^ k*(x / 10 ^ k):=by
  conv=>rhs;rw[<-b]
  rw[cF,dQ]
 omega
def WH(h:x / 10 ^ k≠0):10 ^ k<=x:=by apply bC;intro a;exact h (jG oO)
def WG(k:Nat):k<10 ^ k:=Nat.lt_pow_self dD
def Pf{K:Nat}(h:10 ^ k<=x)(a:x<2 ^ K):k<K:=by have b:2 ^ k<=10 ^ k:=iJ dD k;exact(sj (by decide:1<2)).1 (bQ (aE b h) a)
def nL(bs:Vy)(n m p:Nat):Nat:=if p<m∨n<=p+m then bs.getD (n - 1 - p) 0 else bs.getD p 0
def Pe{c:Vy}(h:w.ownsRow base e 1 v n (c.map fun b:Nat=>Value.int .u8 (b:Int)))(o:0<n):
 ∃g cap C,v=.slice (some ⟨g,0,none⟩) n cap/\base<=g/\n<=cap/\c.length=n/\SB w g e C/\∀p,p<n->C[p]?=some (.int .u8 ((c.getD p 0:Nat):Int)):=by
 obtain⟨hl,d⟩:=h;rw[bF,eP]at hl;rcases d with ⟨_,d⟩|⟨g,cap,a,d,f,i,j,q,r,k⟩
 . omega
 . refine⟨g,cap,a,d,f,j,hl,i,fun p s=>?_⟩;have l:(a.toList.take (n*1))[p]?=a[p]?:=by rw[aW oO];simp
   rw[<-l,k,aP,aC];obtain⟨u,m⟩:∃u,c[p]?=some u:=⟨c[p],by rw[gE]⟩;rw[m];rfl
def Pd(a:Vy)(n p:Nat)(b:p<n):nL a n 0 p=a.getD p 0:=by unfold nL;rw[aH oO]
def Pc(a:Vy)(n m j:Nat)(h:m+j=n - 1)(b:m<j):nL a n m m=a.getD m 0:=by unfold nL;rw[aH oO]
def Ot(a:Vy)(n m j:Nat)(h:m+j=n - 1)(b:m<j):nL a n m j=a.getD j 0:=by unfold nL;rw[aH oO]
def Oq{C:Vw}(b:Vy)(n m j:Nat)(h:m+j=n - 1)(k:m<j)(hC:∀p,p<n->C[p]?=some (.int .u8 ((nL b n m p:Nat):Int))):
 ∀p,p<n->((C.setIfInBounds m (.int .u8 ((b.getD j 0:Nat):Int))).setIfInBounds j (.int .u8 ((b.getD m 0:Nat):Int)))[p]?=some (.int .u8 ((nL b n (m+1) p:Nat):Int)):=by
 intro p c;have a:∀p,p<n->p<C.size:=fun p c=>by have:=hC p c;apply bC;intro l;rw[dX oO]at this;cases this
 have g:=a m oO;have i:=a j oO;rw[gG];by_cases d:j=p
 . subst d;rw[aN rfl,aN (sU i)];unfold nL;rw[aN oO,show n - 1 - j=m by omega]
 .
  rw[aH d,gG];by_cases e:m=p
  . subst e;rw[aN rfl,aN g];unfold nL;rw[aN oO,show n - 1 - m=j by omega]
  . rw[aH e,hC p c];unfold nL;by_cases f:p<m∨n<=p+m
    . rw[aN f,aN oO]
    . rw[aH f,aH oO]
def WF(a:Vy)(n m j p:Nat)(h:m+j=n - 1)(g:¬m<j)(d:a.length=n)(i:p<n):((nL a n m p:Nat):Int)=(a.reverse.map (fun b:Nat=>(b:Int))).getD p 0:=by
 have e:nL a n m p=a.getD (n - 1 - p) 0:=by
  unfold nL;by_cases c:p<m∨n<=p+m
  . rw[aN c]
  . rw[aH c,show n - 1 - p=p by omega]
 rw[e,aC,aC,aP,List.getElem?_reverse oO,d];obtain⟨u,f⟩:∃u,a[n - 1 - p]?=some u:=⟨a[n - 1 - p]' oO,by rw[gE]⟩;rw[f];rfl
def WE(a:Vy):a.map vV=(a.map (48+ ·)).map (fun b:Nat=>Value.int .u8 (b:Int)):=by
 rw[kG];apply mg;intro d _
 show Value.int .u8 (48+(d:Int))=Value.int .u8 ((48+d:Nat):Int)
 rw[mV];rfl
def Oo(a:Vy):(strOfNums ((a.map (48+ ·)).reverse.map (fun b:Nat=>(b:Int)))).data.toList=a.reverse.map (fun d=>UInt8.ofNat (48+d)):=by
 rw[Hq,<-List.map_reverse,kG,kG];apply mg;intro d _
 show UInt8.ofNat ((48+d:Nat):Int).toNat=_
 rw[fC]
def WD(a:Vy):(strOfNums ((a.map (48+ ·)++ [45]).reverse.map (fun b:Nat=>(b:Int)))).data.toList=45 :: a.reverse.map (fun d=>UInt8.ofNat (48+d)):=by rw[<-Oo,Hq,Hq,List.reverse_append];rfl
def On(wr:Vz)(g n a m i:Nat)(d:Vy)(C:Vw)(e:SB wr g 5 C)(hC:∀p,p<n->C[p]?=some (.int .u8 ((nL d n m p:Nat):Int)))(f:m+i=n - 1)(h:¬m<i)(c:d.length=n):
 (convert 205 9 (.slice (some ⟨g,0,none⟩) n a)).run prog wr=.ok (.string (strOfNums (d.reverse.map (fun b:Nat=>(b:Int))))) wr:=by
 refine run_convert_bytes_arg (P:=prog) wr 205 5 underlying205 underlying5 g 0 n a _ ?_ ?_ 9 underlying9
 . rw[bF,Y3];exact c
 . intro p j
   rw[cC,e.cell,hC p j,WF _ _ _ _ _ f h c j]
def WC(b o K:Nat)(X:Int)(a:Vx)(cap:Nat)(l:Vy)(w:Vz)(hx:iF w b o X a cap l)(hX:X≠0)(hK:X.natAbs<2 ^ K)(bc:K<=1099511627776):
 Calls prog 116 #[.pointer (some ⟨b,o,none⟩),.int .i64 10] w fun e w'=>(∃s,e=.returned (.string s)/\j8 s.data.toList X)/\Below w.heap.size w w':=by
 obtain⟨i0,hi,ah,ai,hz2⟩:=me Tryz.A5;have k0:=hx.neg;have k1:=hx.abs;have r:=hx.lt;have q1:((l.length:Int) == 0)=false:=by rw[aJ];have:=(hx.num.num.eV dD).2;omega
 have HX:=Hi hx.num;obtain⟨x,Z⟩:=nm X.natAbs;rw[Z]at HX hK;have bd:x≠0:=oO;have aj:=Hi hK;clear hx hK;go_enter func116,ntmps116;go_wp2_with fail;refine(IQ a cap l x _ HX.o).mono ?_;rintro e w1 ⟨⟨a1,ak,rfl,al⟩,aa⟩;have c0:=ce aa r k0;obtain⟨au,aw⟩:=Ia al aa;clear al aa;go_wp2_with fail;go_loopw [5,6] (fun bv av wr=>∃(k:Nat)(y:Vy)(a:Vx) (cap:Nat) (l:Vy),y.length=k/\av=.slice a l.length cap/\j7 wr a cap l (x / 10 ^ k)/\wr.ownsRow w.heap.size 5 1 bv k (y.map vV)/\Small 10 y/\val 10 y+10 ^ k*(x / 10 ^ k)=x/\(k=0∨10 ^ (k - 1)<=x)/\Below w.heap.size w wr) (fun bv _ _=>x+1 - qD bv)
 case atStart=>exact⟨0,[],a1,ak,l,rfl,rfl,by rw[yI,QB];exact au.o,pH _ _ _ _,Small.nil _,by simp[val],.inl rfl,aw.o⟩
 case round=>
  obtain⟨k,y,a,cap,l,hk,rfl,hu,L,am,hv,W,hb⟩:=hrel;have ax:=LV L;obtain⟨HU,HB,HO,HV,an,HP⟩:=Ie hu hb L hv am W;have be:=hb.size;clear hu hb L hv am W;by_cases hz:l.length=0
  .
   have G:=(HU.o.num.eV dD).2 hz;have ay:0<k:=by
    rcases eE k with h0|h0
    . subst h0;rw[yI,QB]at G;omega
    . exact h0
   have HN:O (Num 10 y x):=Hi (YA an.o hk (by have:=HV.o;rw[G,fH,dV]at this;exact this) (by rcases HP.o with h|h;omega;exact h) ay);have az:k - 1<K:=by
    rcases HP.o with h|h
    . omega
    . exact Pf h aj.o
   have d0:=ce HB.o r k0;have ao:=Hi (WE y);by_cases H:X<0
   .
    rw[show decide (X<0)=true by simpa using H]at d0;go_wp2_with (at_builtin;refine wpList_append_lies _ rfl _ _ 205 rfl w.heap.size 5 i0 (.int .u8 0) 1 1 underlying205 hi ah ai hz2 rfl dD _ k (y.map vV) rfl (Dz HO.o (bR.alloc lZ _)) ⟨wr.heap.size,0,none⟩ 1 1 [Value.int .u8 45] rfl rfl ?c1 ?c2 dD ?c3 ?c4 ?c5 _ rfl ?_)
    case c1=>exact World.news_of_block (jz wr _)
    case c2=>intro u hu;rw[bE.1 hu];rfl
    case c3=>unfold maxLen;omega
    case c4=>omega
    case c5=>rw[bH];omega
    intro g I w3 c t ap Y;rw[ao.o,show [Value.int .u8 45]= [45].map (fun b:Nat=>Value.int .u8 (b:Int)) from rfl,<-dH]at c;obtain⟨E,ab⟩:=Ia (Pe c oO) (Below.grown (HB.o.alloc oO (Obj.cells #[Value.int IntKind.u8 45] 5)) t wO (fun q hq=>(HO.o.lt q hq).1));have v:O (j8 (strOfNums ((y.map (48+ ·)++ [45]).reverse.map (fun b:Nat=>(b:Int)))).data.toList X):=Hi ⟨y.reverse.map (fun d=>UInt8.ofNat (48+d)),.inr ⟨oO,y,by rw[Z];exact HN.o,rfl⟩,by rw[aN H];exact WD y⟩;clear c t ap Y G c0 k0 k1;obtain⟨J,M⟩:=nm ((y.map (48+ ·)++ [45]));rw[M]at E v;clear M;obtain⟨g,I,C,hv,N,a0,P,f,hC⟩:=E.o;cases hv;obtain⟨ad,ae,HC⟩:=Ib P f hC;clear f hC P E;go_wp2_with fail;go_loopw [8,9] (fun i j wr=>∃(m n:Nat)(C:Vw),i=.int .i64 m/\j=.int .i64 n/\m+n=(k+1) - 1/\SB wr g 5 C/\(∀p,p<(k+1)->C[p]?=some (.int .u8 ((nL J (k+1) m p:Nat):Int)))/\Below w.heap.size w wr) (fun i _ _=>(k+1) - (intOf i).toNat)
    case atStart=>exact⟨0,(k+1) - 1,C,rfl,by go_num,oO,ae.o,fun p W=>by rw[Pd _ _ _ W];exact HC.o p W,ab.o⟩
    case round=>
     obtain⟨m,n,C',rfl,rfl,z,f,hC,hb⟩:=hrel;have D:=Hi f;have Q:=Hi hC;have R:=Hi hb;by_cases r:m<n
     . have A:=hC m oO;have B:=hC n oO;rw[Pc _ _ _ _ z r]at A;rw[Ot _ _ _ _ z r]at B;have F:=Hi (Oq J (k+1) m n z r Q.o);obtain⟨y1,S⟩:=nm (J.getD m 0);obtain⟨y2,T⟩:=nm (J.getD n 0);rw[S]at A F;rw[T]at B F;have d1:=(f.cell m).trans A;have d2:=(f.cell n).trans B;have f1:=f.free m;have f2:=f.free n;have a2:m≠n:=oO;clear f hC hb A B S T;go_wp2;go_roundw
       case rel=>exact⟨m+1,n - 1,_,by go_num,by go_num,oO,(D.o.set m _).set n _,F.o,(R.o.setCell N _).setCell N _⟩
       case measure=>exact mI
     . have af:=On wr g (k+1) I m n J C' D.o Q.o z r ad.o;obtain⟨st,U⟩:=nm (strOfNums (J.reverse.map (fun b:Nat=>(b:Int))));rw[U]at af v;clear f hC hb U;go_wp2;go_ret;exact⟨⟨_,rfl,v.o⟩,R.o⟩
   .
    rw[show decide (X<0)=false by simpa using H]at d0;have c:=HO.o;rw[ao.o]at c;obtain⟨E,ab⟩:=Ia (Pe c oO) HB.o;have v:O (j8 (strOfNums ((y.map (48+ ·)).reverse.map (fun b:Nat=>(b:Int)))).data.toList X):=Hi ⟨y.reverse.map (fun d=>UInt8.ofNat (48+d)),.inr ⟨oO,y,by rw[Z];exact HN.o,rfl⟩,by rw[aH H];exact Oo y⟩;clear c G c0 k0 k1;obtain⟨J,M⟩:=nm ((y.map (48+ ·)));rw[M]at E v;clear M;obtain⟨g,I,C,hv,N,a0,P,f,hC⟩:=E.o;cases hv;obtain⟨ad,ae,HC⟩:=Ib P f hC;clear f hC P E;go_wp2_with fail;go_loopw [8,9] (fun i j wr=>∃(m n:Nat)(C:Vw),i=.int .i64 m/\j=.int .i64 n/\m+n=k - 1/\SB wr g 5 C/\(∀p,p<k->C[p]?=some (.int .u8 ((nL J k m p:Nat):Int)))/\Below w.heap.size w wr) (fun i _ _=>k - (intOf i).toNat)
    case atStart=>exact⟨0,k - 1,C,rfl,by go_num,oO,ae.o,fun p W=>by rw[Pd _ _ _ W];exact HC.o p W,ab.o⟩
    case round=>
     obtain⟨m,n,C',rfl,rfl,z,f,hC,hb⟩:=hrel;have D:=Hi f;have Q:=Hi hC;have R:=Hi hb;by_cases r:m<n
     . have A:=hC m oO;have B:=hC n oO;rw[Pc _ _ _ _ z r]at A;rw[Ot _ _ _ _ z r]at B;have F:=Hi (Oq J k m n z r Q.o);obtain⟨y1,S⟩:=nm (J.getD m 0);obtain⟨y2,T⟩:=nm (J.getD n 0);rw[S]at A F;rw[T]at B F;have d1:=(f.cell m).trans A;have d2:=(f.cell n).trans B;have f1:=f.free m;have f2:=f.free n;have a2:m≠n:=oO;clear f hC hb A B S T;go_wp2;go_roundw
       case rel=>exact⟨m+1,n - 1,_,by go_num,by go_num,oO,(D.o.set m _).set n _,F.o,(R.o.setCell N _).setCell N _⟩
       case measure=>exact mI
     . have af:=On wr g k I m n J C' D.o Q.o z r ad.o;obtain⟨st,U⟩:=nm (strOfNums (J.reverse.map (fun b:Nat=>(b:Int))));rw[U]at af v;clear f hC hb U;go_wp2;go_ret;exact⟨⟨_,rfl,v.o⟩,R.o⟩
  .
   have ag:=Hi (WH (fun h0=>hz ((HU.o.num.eV dD).1 h0)));have az:=Pf ag.o aj.o;have bf:=aF (WG k) ag.o;go_wp2_with fail;refine(Yk a cap 10 l (x / 10 ^ k) _ HU.o dD dD).mono ?_;rintro e w2 ⟨⟨ba,r2,rfl,aq⟩,V⟩;have a3:=Hi (Dz HO.o V);have a4:=fun q hq=>(HO.o.lt q hq).2
   obtain⟨a5,a6⟩:=Ia aq V;have bb:=V.size;clear aq V;obtain⟨d,hd⟩:=nm (x / 10 ^ k % 10);have a7:d<10:=oO;rw[hd];have HD:=Hi hd;clear hd;go_wp2_with (at_builtin;refine wpList_append_lies _ rfl _ _ 205 rfl w.heap.size 5 i0 (.int .u8 0) 1 1 underlying205 hi ah ai hz2 rfl dD _ k (y.map vV) rfl (Dz a3.o (bR.alloc lZ _)) ⟨w2.heap.size,0,none⟩ 1 1 [vV d] rfl rfl ?c1 ?c2 dD ?c3 ?c4 ?c5 _ rfl ?_)
   case c1=>exact World.news_of_block (jz w2 _)
   case c2=>intro u hu;rw[bE.1 hu];rfl
   case c3=>unfold maxLen;omega
   case c4=>omega
   case c5=>rw[bH];omega
   intro g cap' w3 c t ap Y;obtain⟨a8,HG⟩:=Ia c t;clear c t;go_wp2;go_roundw
   case rel=>
    refine⟨k+1,y++ [d],_,_,r2,by simp[hk],rfl,?_,?_,an.o.append (fun e he=>by rw[bE.1 he];exact a7),WI hk HD.o HV.o,.inr (by rw[gW];exact ag.o),?_⟩
    . have a9:=a5.o.below ((ac _ w2).alloc lZ (Obj.cells #[Value.int IntKind.u8 (48+(d:Int))] 5));rw[fD,<-JG];refine a9.grown HG.o ?_;intro b' ar he hc;obtain⟨rfl,rfl⟩:wr.heap.size=b'/\0=ar:=sU he;have:=a4 _ hc.symm;omega
    . rw[dH]
      exact a8.o
    . refine Below.grown ((HB.o.trans (a6.o.mono oO)).alloc oO _) HG.o wO ?_;intro q hq;exact(HO.o.lt q hq).1
   case measure=>rw[ax];simp[qD];omega
end Go.Proofs.YtfgclhpgdanmfaaGreatDoor
