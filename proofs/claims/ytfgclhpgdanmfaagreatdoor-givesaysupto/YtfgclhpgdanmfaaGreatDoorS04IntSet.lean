import Derived.Test.YtfgclhpgdanmfaaGreatDoorS03BigDivL1
import Derived.Deep.RegionHeld3
namespace Go.Proofs.YtfgclhpgdanmfaaGreatDoor
set_option linter.defProp false
open Go.RowKit
open Go.Proofs.Tryz
set_option linter.unusedSimpArgs false
set_option linter.unusedVariables false
set_option maxHeartbeats 8000000
set_option maxRecDepth 1000000
variable{k:AM}{t:Vr}{W u w w':Vz}{l:Vy}{a:Vx}{B b c cap n x:Nat}{C:Vw}{z:Int}
def jf.setRow{g:Nat}(h:jf k t w g l)(m:Vy):jf k t (w.setRow g (dA k m)) g m:=wP w g _ _ t _ h
def Yo(X V n M k:Nat)(b v:Vy)(c:Num 4294967296 b X)(d:X<4294967296 ^ (M+n+2))(e:Num 4294967296 v V)(a:v.length=n+2)(hk:b.length+k=M+n+3):
 nF X V n M (M+1) (b++zeros k) (zeros (M+1)):=by
 refine⟨by rw[aS,uC];exact hk,uC _,c.small.append (wZ _ _ dD),wZ _ _ dD,?_,?_⟩
 . rw[GV,Ip,c.eq,dG (by rw[uC];exact aV _),GW,fH,fH]
   rfl
 . rw[GV,Ip,c.eq,fH,dV];have f:=e.trim.pK (B:=4294967296) (by rw[a];exact Nat.succ_pos _);rw[e.eq,a]at f;have g:=cR (4294967296 ^ (M+1)) f;rw[<-eG,show M+1+(n+2 - 1)=M+n+2 from by omega]at g;exact aF d g
def Yn(w:Vz)(g n f bx d:Nat)(a:Vy)(hB:jf .u32 213 w g (zeros n))(l:Row .u32 w (some ⟨bx,d,none⟩) f a)(m:a.length<=n):
 Sem.run prog (Builtin.copy_ #[112,112] 3 #[.slice (some ⟨g,0,none⟩) n n,.slice (some ⟨bx,d,none⟩) a.length f]) w=.ok (.int .i64 a.length) (w.setRow g (dA .u32 (a++zeros (n - a.length)))):=by
 have h:=run_copy_row (P:=prog) w 112 112 3 213 g 0 n n ⟨bx,d,none⟩ a.length f (dA .u32 (zeros n)) 213 (a.map (fun n:Nat=>Value.int .u32 n)) underlying112 kK hB
  (by rw[bF];exact(eH m).symm) ?_ (by simp[dA,uC];omega) ?_
 . have e:(List.take 0 (dA .u32 (zeros n)).toList++a.map (fun n:Nat=>Value.int .u32 n)++List.drop (0+(a.map (fun n:Nat=>Value.int .u32 n)).length) (dA .u32 (zeros n)).toList).toArray=dA .u32 (a++zeros (n - a.length)):=by unfold dA zeros;simp
   rw[e]at h;rw[bF]at h;exact h
 . intro j u o;obtain⟨i,k⟩:=gZ o;have b:j<a.length:=sU i;obtain⟨p,c,q,_,r⟩:=l.cell j b;obtain⟨rfl,rfl⟩:bx=p/\d=c:=sU q;rw[xA,r,<-k];simp[b]
 . intro u k;obtain⟨n,_,rfl⟩:=bZ.1 k;rfl
def Ym(a1 W:Vx)(c1 c2:Nat)(l m:Vy)(x y:Nat)(w:Vz)(k:j7 w a1 c1 l x)(g:j7 w W c2 m y)(hy:0<y)(ay:y<=x)(hl:2<l.length)(hm:1<m.length)(bk:l.length<1099511627770):
 Calls prog 185 #[.slice a1 l.length c1,.slice W m.length c2] w (uS w x y):=by
 have s2:=g.short;have bl:m.length<=l.length:=by apply bC;intro hc;have:=zN (B:=4294967296) oO k.num.small g.num.trim oO;rw[k.num.eq,g.num.eq]at this;omega
 have q1:((m.length:Int) == 0)=false:=by rw[aJ];omega
 have q2:((m.length:Int) == 1)=false:=by rw[aJ];omega
 have hc:¬kZ x y<0:=by rw[zM];omega
 have az:=Num.nb_le (q:=32) g.num;obtain⟨z,hz⟩:=nm (nb y);have bm:1<=z:=by rw[<-hz];exact IJ hy
 obtain⟨s,hs⟩:=nm (31 - (z - 1) % 32);have c:s<32:=oO;have a0:32 - ((z:Int) - 1) % 32 - 1=(s:Int):=oO;rw[hz]at az;have HZ:O (nb y=z):=hz;clear hz hs;go_enter func185,ntmps185;go_wp2_with fail;refine(DH a1 W c1 c2 l m x y w k g).mono ?_;rintro e w1 ⟨rfl,hb⟩;replace k:=k.below hb;replace g:=g.below hb;go_wp2_with fail;refine(Yi W c2 m y w1 g).mono ?_;rintro e w2 ⟨rfl,rfl⟩;rw[HZ.o];clear hc;go_wp2_with fail;refine(Qj W c2 s m y w2 g c oO oO).mono ?_;rintro e b ⟨⟨av,cv,v,rfl,d⟩,r⟩;replace k:=k.below r;have Y:=LY c;have E:0<2 ^ s:=gU oO;obtain⟨V,Z⟩:=nm (y*2 ^ s);obtain⟨X,hX⟩:=nm (x*2 ^ s);rw[Z]at d;have a3:y<=V:=by rw[<-Z];exact Hs _ E
 have bn:V<=X:=by rw[<-Z,<-hX];exact cD _ ay
 have aa:X<4294967296 ^ (l.length+1):=by have a:=qi (B:=4294967296) oO k.num.small;rw[k.num.eq]at a;rw[<-hX,fD];exact pN a oO
 have ab:2<=v.length:=by apply bC;intro hn;have a:=qi (B:=4294967296) oO d.num.small;have t:=FK (B:=4294967296) oO (show v.length<=1 by omega);have e3:=g.num.trim.pK (B:=4294967296) oO;have e4:=FK (B:=4294967296) oO (show 1<=m.length - 1 by omega);rw[d.num.eq]at a;rw[g.num.eq]at e3;omega
 have ad:v.length<=l.length+1:=d.num.fG oO oO;have HV:O (y*2 ^ s=V):=Z;have HX:O (x*2 ^ s=X):=hX;have ae:O (X<4294967296 ^ (l.length+1)):=aa;clear Z hX aa Y E a3;have a4:∀w,(Instr.makeSlice 112 (.int .i64 ((l.length:Int)+2)) (.int .i64 ((l.length:Int)+2))).run prog w=.ok (.slice (some ⟨w.heap.size,0,none⟩) (l.length+2) (l.length+2)) (w.alloc (.cells (dA .u32 (zeros (l.length+2))) 213)):=
  fun w=>CO _ (l.length+2) oO oO w
 go_wp2_with fail;have K:Bl b (b.alloc (.cells (dA .u32 (zeros (l.length+2))) 213)):=bR.alloc lZ _;refine(Qj a1 c1 s l x _ (k.below K) c oO oO).mono ?_;rintro e F ⟨⟨ax,cx,f,rfl,L⟩,N⟩;clear a4;rw[HX.o]at L;have bh:=L.num.fG oO ae.o;have af:0<f.length:=by have:=(L.num.eV oO).2;have:=HV.o;have:0<y*2 ^ s:=gL hy (gU oO);omega
 have u:=(mn .u32 213 b _).below N sS;have G:=K.trans (N.mono sS);have bo:=G.size;have ag:=u.lt;clear K N;obtain⟨bx,ox,a5,bp,a6⟩:=L.row.cell 0 af;subst a5;have a7:=Yn F b.heap.size (l.length+2) cx bx ox f u L.row oO;clear a6;obtain⟨n,hn⟩:∃n,v.length=n+2:=⟨v.length - 2,oO⟩;have U:O (v.length=n+2):=hn;rw[hn];rw[hn]at ab ad;clear hn;obtain⟨M,hM⟩:∃M,l.length=M+n+1:=⟨l.length - 1 - n,oO⟩;have HM:O (l.length=M+n+1):=hM;have ah:∀w,(Instr.makeSlice 112 (.int .i64 ((l.length:Int)+2 - ((n:Int)+2))) (.int .i64 ((l.length:Int)+2 - ((n:Int)+2)))).run prog w=.ok (.slice (some ⟨w.heap.size,0,none⟩) (M+1) (M+1)) (w.alloc (.cells (dA .u32 (zeros (M+1))) 213)):=
  fun w=>CO _ (M+1) oO oO w
 clear hM;go_wp2_with fail;clear a7 ah;generalize hW0:(F.setRow b.heap.size (dA .u32 (f++zeros (l.length+2 - f.length)))).alloc (.cells (dA .u32 (zeros (M+1))) 213)=W0 at*;have P:(F.setRow b.heap.size (dA .u32 (f++zeros (l.length+2 - f.length)))).heap.size=F.heap.size:=by simp[World.setRow]
 have H:jf .u32 213 W0 b.heap.size (f++zeros (l.length+2 - f.length)):=by rw[<-hW0];exact(u.setRow _).alloc _
 have I:jf .u32 213 W0 F.heap.size (zeros (M+1)):=by rw[<-hW0,<-P];exact mn _ _ _ _
 have A:Bl b W0:=by rw[<-hW0];exact(below_setRow G lZ _).alloc (by rw[P];omega) _
 clear hW0 P u;obtain⟨Q,R,a8,S,_⟩:=d.row.cell 0 (oB U.o);subst a8;have C:∀i,i<n+2->b.cell? ⟨Q,R+i,none⟩=some (.int .u32 ((v.getD i 0:Nat):Int)):=by intro i hi;obtain⟨b',o',a,_,t⟩:=d.row.cell i (oB U.o);obtain⟨rfl,rfl⟩:Q=b'/\R=o':=sU a;exact t
 obtain⟨v1,h⟩:=nm (v.getD (n+1) 0);obtain⟨v0,D⟩:=nm (v.getD n 0);have bi:v1<4294967296:=by rw[<-h];exact d.num.small.getD oO _
 have bj:v0<4294967296:=by rw[<-D];exact d.num.small.getD oO _
 have ai:1<=v1:=by
  have a:=d.num.trim;have t:=U.o;rcases a with a|a
  . rw[a]at t;simp at t
  . rw[t]at a;rw[<-h];simp only[Nat.add_one_sub_one]at a;omega
 have g1:=(A.cell (p:=⟨Q,R+(n+1),none⟩) S).trans (C (n+1) oO);have g2:=(A.cell (p:=⟨Q,R+n,none⟩) S).trans (C n oO);rw[h]at g1;rw[D]at g2;have a9:O (∀i,i<n+2->b.cell? ⟨Q,R+i,none⟩=some (.int .u32 ((v.getD i 0:Nat):Int))):=C;have ba:O (v.getD (n+1) 0=v1):=h;have bb:O (v.getD n 0=v0):=D;clear C h D;go_region
 all_goals
  go_wp2
 clear g1 g2;have bc:V<4294967296 ^ (n+2):=by have a:=qi (B:=4294967296) oO d.num.small;rw[d.num.eq,U.o]at a;exact a
 have bq:0<V:=by rw[<-HV.o];exact gL hy (gU oO)
 have aj:nF X V n M (M+1) (f++zeros (l.length+2 - f.length)) (zeros (M+1)):=
  Yo X V n M _ f v L.num (by rw[show M+n+2=l.length+1 from by have:=HM.o;omega];exact ae.o) d.num U.o (oB HM.o)
 have ak:jt b W0 Q R b.heap.size F.heap.size n (l.length+2) v (f++zeros (l.length+2 - f.length)) (zeros (M+1)):=
  ⟨A,S,a9.o,d.num.small,H,I,ag,by rw[aS,uC];omega,L.num.small.append (wZ _ _ oO)⟩
 obtain⟨al,am⟩:=Ia ak aj;clear aj bc H I A a0 ak;rw[show (l.length:Int)+2 - ((n:Int)+2) - 1=((M+1:Nat):Int) - 1 from by have:=HM.o;omega];refine rT (M+1+1) ?_;refine(YS _ b Q R cv b.heap.size F.heap.size n M (l.length+2) v1 v0 X V v _ (oB HM.o) oO d.num U.o ba.o bb.o ai ?hex (M+1)) _ _ _ lZ al.o.drew am.o
 case hex=>
  intro us qs
  iterate 270 intro
  intro wr hm hI;have T:val 4294967296 qs=x / y/\val 4294967296 us / 2 ^ s=x % y:=by have a:=hI.eq;have t:=hI.lt;rw[yI,qa]at a t;rw[iP]at a;exact LR (gU dD) HX.o HV.o a t
  obtain⟨bd,an⟩:=T;obtain⟨be,ao,j⟩:=Ib an hI hm;clear an hI hm al am;go_wp2_with fail;refine(B9 F.heap.size (M+1) (M+1) (x / y) qs wr j.o.qb ao.o.qlen ao.o.qsmall lZ (oB HM.o) bd).mono ?_;rintro e w5 ⟨⟨aq,cq,rq,rfl,bf⟩,rfl⟩;go_wp2_with fail;refine(B9 b.heap.size (l.length+2) (l.length+2) _ us w5 j.o.ub j.o.ul j.o.usmall lZ oO rfl).mono ?_;rintro e w6 ⟨⟨au,cu,ru,rfl,bg⟩,rfl⟩;go_wp2_with fail;refine(Yh au cu s ru _ w6 bg c).mono ?_;rintro e w7 ⟨⟨ar,cr,rr,rfl,ap⟩,aw⟩;go_wp2;go_ret2;rw[be.o]at ap;refine⟨⟨aq,cq,rq,ar,cr,rr,rfl,bf.below aw,ap⟩,?_⟩;have J:=j.o.below;exact hb.trans ((r.mono hb.size).trans ((J.mono (aE hb.size r.size)).trans (aw.mono (aE hb.size (aE r.size J.size)))))
def IR(a b:Vx)(c1 c2:Nat)(l m:Vy)(x y:Nat)(w:Vz)(d:j7 w a c1 l x)(c:j7 w b c2 m y)(e:0<y)(f:l.length<1099511627770):
 Calls prog 185 #[.slice a l.length c1,.slice b m.length c2] w (uS w x y):=by
 by_cases g:x<y
 . exact YX a b c1 c2 l m x y w d c g
 by_cases hl:l.length<=2
 . exact YW a b c1 c2 l m x y w d c e oO hl
 by_cases h:m.length=1
 . exact YV a b c1 c2 l m x y w d c e oO oO h
 . have i:m.length≠0:=by intro j;have:=(c.num.eV dD).2 j;omega
   exact Ym a b c1 c2 l m x y w d c e oO oO oO f
def FO(p q:Nat):Nat.gcd q (p % q)=Nat.gcd p q:=by rw[oW q,<-Nat.gcd_rec,oW]
def j7.kD{b:Vx}{d:Nat}{m:Vy}{y:Nat}(h:j7 w a c l x)(k:j7 w' b d m y)(e:x<=y):l.length<=m.length:=
 h.num.fG dD (bQ e (by have:=qi (B:=4294967296) dD k.num.small;rw[k.num.eq]at this;exact this))
def CU(Qx:Ab)(w0:Vz)(g B:Nat):Prop:=
 ∀(p q:Nat)(a b:Vx)(c d:Nat) (l m:Vy) {s2 s3 s4 s5 s6 s7 s8 s9 s10 s11 s12 s13 s14 s15 s16 s17 s18 s19 s20 s21 s22 s23 s24 s25 s26 s27 s28 s29 s30 s31 s32 s33 s34 s35 s36 s37 s38 s39 s40 s41 s42 s43 s44 s45 s46 s47 s48:Ac} (wr:Vz),j7 wr a c l p->j7 wr b d m q->l.length<=B->m.length<=2->Nat.gcd p q=g->Below w0.heap.size w0 wr->
  Qx (.exit 0) ⟨#[.slice a l.length c,.slice b m.length d,s2,s3,s4,s5,s6,s7,s8,s9,s10,s11,s12,s13,s14,s15,s16,s17,s18,s19,s20,s21,s22,s23,s24,s25,s26,s27,s28,s29,s30,s31,s32,s33,s34,s35,s36,s37,s38,s39,s40,s41,s42,s43,s44,s45,s46,s47,s48],[]⟩ wr
def Hm(Qx:Ab)(w0:Vz)(g B t:Nat):Prop:=
 ∀(p q:Nat)(a b:Vx)(c d:Nat) (l m:Vy) {s2 s3 s4 s5 s6 s7 s8 s9 s10 s11 s12 s13 s14 s15 s16 s17 s18 s19 s20 s21 s22 s23 s24 s25 s26 s27 s28 s29 s30 s31 s32 s33 s34 s35 s36 s37 s38 s39 s40 s41 s42 s43 s44 s45 s46 s47 s48:Ac} (wr:Vz),q<=t->j7 wr a c l p->j7 wr b d m q->l.length<=B->m.length<=B->Nat.gcd p q=g->Below w0.heap.size w0 wr->
  Code.rounds prog (((Tryz.f184.body.map mE).getD []).getD 0 .skip) Qx (t+1) ⟨#[.slice a l.length c,.slice b m.length d,s2,s3,s4,s5,s6,s7,s8,s9,s10,s11,s12,s13,s14,s15,s16,s17,s18,s19,s20,s21,s22,s23,s24,s25,s26,s27,s28,s29,s30,s31,s32,s33,s34,s35,s36,s37,s38,s39,s40,s41,s42,s43,s44,s45,s46,s47,s48],[]⟩ wr
def YE(F:Ab)(w0:Vz)(g B:Nat)(hB:B<1099511627770)(f:CU F w0 g B)(t:Nat):Hm F w0 g B t:=by
 induction t with
 |zero=>
  intro p q a b c d l m
  iterate 47 intro
  intro wr H i h hl x k hb;have G:q=0:=oO;have y:=(h.num.eV dD).1 G;have n:¬(2:Int)<(m.length:Int):=oO;obtain⟨z,s,w,I⟩:=Ic i h k (show m.length<=2 by omega);clear i h k y G;rw[kM]
  conv=>arg 2;whnf
  go_wp2;exact f _ _ _ _ _ _ _ _ _ z.o s.o hl I.o w.o hb
 |succ t J=>
  intro p q a b c d l m
  iterate 47 intro
  intro wr H i h hl x k hb;obtain⟨z,s,w⟩:=Ib i h k;by_cases A:m.length<=2
  . have n:¬(2:Int)<(m.length:Int):=oO;clear i h k;rw[kM]
    conv=>arg 2;whnf
    go_wp2;exact f _ _ _ _ _ _ _ _ _ z.o s.o hl A w.o hb
  .
   have n:(2:Int)<(m.length:Int):=oO;have j:0<q:=by
    rcases eE q with C|C
    . have:=(h.num.eV dD).1 C;omega
    . exact C
   have K:=Hi (IR a b c d l m p q wr i h j oO);clear i h k;rw[kM]
   conv=>arg 2;whnf
   go_wp2_with fail;refine K.o.mono ?_;rintro e w1 ⟨⟨N,O,r,D,E,L,rfl,M,u⟩,v⟩;go_wp2;exact J q (p % q) b D d E m L _ (oB (eU p j)) (s.o.below v) u x (aE (u.kD s.o (dO (eU _ j))) x) ((FO p q).trans w.o) (hb.trans (v.mono hb.size))
def IS(h:Num 4294967296 l x)(hl:l.length<=2):x<18446744073709551616:=by have a:=qi (B:=4294967296) dD h.small;have b:=FK (B:=4294967296) dD hl;rw[h.eq]at a;exact aF a b
def YY(L M:Vx)(c1 c2:Nat)(l m:Vy)(x y:Nat)(w:Vz)(F:j7 w L c1 l x)(k:j7 w M c2 m y)(hl:l.length<1099511627770)(G:m.length<1099511627770):
 Calls prog 184 #[.slice L l.length c1,.slice M m.length c2] w fun e w'=>(∃a cap r,e=.returned (.slice a r.length cap)/\j7 w' a cap r (Nat.gcd x y))/\Below w.heap.size w w':=by
 obtain⟨g,n⟩:=nm (Nat.gcd x y);rw[n];go_enter func184,ntmps184;go_wp2;refine rT (y+1) ?_;refine(YE _ w g 1099511627769 dD ?hex y) x y L M c1 c2 l m _ lZ F k oO oO n bR
 case hex=>
  intro p q a b c d l m
  iterate 47 intro
  intro wr F k hl G n hb;by_cases N:q=0
  . have O:((m.length:Int) == 0)=true:=by have:=(k.num.eV dD).1 N;simp[this]
    obtain⟨h,HQ⟩:=Ia n N;clear n N;go_wp2;go_ret;have t:=h.o;rw[HQ.o,oE]at t;exact⟨⟨a,c,l,rfl,by rw[<-t];exact F⟩,hb⟩
  .
   have O:((m.length:Int) == 0)=false:=by rw[aJ];have:=(k.num.eV dD).2;omega
   by_cases H:l.length<=2
   .
    have P:¬(2:Int)<(l.length:Int):=oO;obtain⟨K,h⟩:=Ia hb n;clear n;go_wp2_with fail;refine(FN a c l p _ F H).mono ?_;rintro e wp ⟨rfl,rfl⟩;go_wp2_with fail;refine(FN b d m q _ k G).mono ?_;rintro e wq ⟨rfl,rfl⟩;have z:=IS F.num H;have A:=IS k.num G;go_wp2;go_loopw [9,10] (fun X Y Q=>∃u v:Nat,X=.int .u64 u/\Y=.int .u64 v/\u<18446744073709551616/\v<18446744073709551616/\Nat.gcd u v=g/\Below w.heap.size w Q) (fun _ Y _=>(intOf Y).toNat)
    case atStart=>exact⟨p,q,rfl,rfl,z,A,h.o,K.o⟩
    case round=>
     obtain⟨u,v,rfl,rfl,hu,R,i,f⟩:=hrel;have h:=Hi i;clear i;by_cases B:v=0
     . subst B;go_wp2_with fail;refine(DG (u:Int) _ oO oO).mono ?_;rintro e w9 ⟨⟨S,T,U,rfl,j,_⟩,C⟩;go_wp2;go_ret;have t:=h.o;rw[oE]at t;rw[fC,t]at j;exact⟨⟨S,T,U,rfl,j⟩,f.trans (C.mono f.size)⟩
     .
      have V:(0:Int)<(v:Int):=oO;have qv:((v:Int) == 0)=false:=by rw[aJ];omega
      obtain⟨r,s⟩:=nm (u % v);have t2:(u:Int) % (v:Int)=(r:Int):=by rw[<-s];simp
      have t3:(u:Int).tmod (v:Int)=(r:Int):=by rw[kN oO];exact t2
      have W:r<v:=by rw[<-s];exact eU _ oO
      have Z:=Hi s;clear s;go_wp2;go_region
      all_goals
       go_wp2;go_roundw
       case rel=>exact⟨v,r,rfl,rfl,R,oO,by rw[<-Z.o];exact(FO u v).trans h.o,f.drew⟩
       case measure=>exact mI
   .
    have P:(2:Int)<(l.length:Int):=oO;obtain⟨HD,K,h⟩:=Ib (IR a b c d l m p q wr F k oO oO) hb n;clear n;go_wp2_with fail;refine HD.o.mono ?_;rintro e w1 ⟨⟨a',c',r1,aa,ab,r',rfl,ad,D⟩,E⟩;have I:=k.below E;have J:=aE (D.kD k (dO (eU _ oO))) G;obtain⟨ae,af⟩:=Ia (K.o.trans (E.mono K.o.size)) ((FO p q).trans h.o);clear E ad HD;go_wp2_with fail;refine(FN b d m q _ I G).mono ?_;rintro e wp ⟨rfl,rfl⟩;go_wp2_with fail;refine(FN aa ab r' (p % q) _ D J).mono ?_;rintro e wq ⟨rfl,rfl⟩;have z:=IS I.num G;have A:=IS D.num J;go_wp2;go_loopw [9,10] (fun X Y Q=>∃u v:Nat,X=.int .u64 u/\Y=.int .u64 v/\u<18446744073709551616/\v<18446744073709551616/\Nat.gcd u v=g/\Below w.heap.size w Q) (fun _ Y _=>(intOf Y).toNat)
    case atStart=>exact⟨q,(p % q),rfl,rfl,z,A,af.o,ae.o⟩
    case round=>
     obtain⟨u,v,rfl,rfl,hu,R,i,f⟩:=hrel;have h:=Hi i;clear i;by_cases B:v=0
     . subst B;go_wp2_with fail;refine(DG (u:Int) _ oO oO).mono ?_;rintro e w9 ⟨⟨S,T,U,rfl,j,_⟩,C⟩;go_wp2;go_ret;have t:=h.o;rw[oE]at t;rw[fC,t]at j;exact⟨⟨S,T,U,rfl,j⟩,f.trans (C.mono f.size)⟩
     .
      have V:(0:Int)<(v:Int):=oO;have qv:((v:Int) == 0)=false:=by rw[aJ];omega
      obtain⟨r,s⟩:=nm (u % v);have t2:(u:Int) % (v:Int)=(r:Int):=by rw[<-s];simp
      have t3:(u:Int).tmod (v:Int)=(r:Int):=by rw[kN oO];exact t2
      have W:r<v:=by rw[<-s];exact eU _ oO
      have Z:=Hi s;clear s;go_wp2;go_region
      all_goals
       go_wp2;go_roundw
       case rel=>exact⟨v,r,rfl,rfl,R,oO,by rw[<-Z.o];exact(FO u v).trans h.o,f.drew⟩
       case measure=>exact mI
def SB(w:Vz)(b:Nat)(t:Vr)(C:Vw):Prop:=w.heap[b]?=some (.cells C t (0,0))
def ol(C:Vw):Prop:=∀(i:Nat)(k:AM)(n:Int),C[i]?≠some (Value.int k n)
def SB.lt(h:SB w b t C):b<w.heap.size:=by apply bC;intro a;unfold SB at h;rw[dX oO]at h;cases h
def SB.cell(h:SB w b t C)(i:Nat):w.cell? ⟨b,i,none⟩=C[i]?:=by unfold SB at h;simp[World.cell?,h]
def SB.free(h:SB w b t C)(i:Nat):w.frozen? ⟨b,i,none⟩=false:=by unfold SB at h;simp[World.frozen?,h]
def SB.set(h:SB w b t C)(i:Nat)(v:Ac):SB (w.setCell ⟨b,i,none⟩ v) b t (C.setIfInBounds i v):=by unfold SB at h ⊢;simp[World.setCell,Array.getElem?_modify,h]
def SB.alloc(h:SB w b t C)(o:Obj):SB (w.alloc o) b t C:=by have:=h.lt;unfold SB at h ⊢;rw[Below.heap_alloc _ _ _ this];exact h
def SB.new(w:Vz)(t:Vr)(C:Vw):SB (w.alloc (.cells C t)) w.heap.size t C:=by
 show (w.heap.push _)[w.heap.size]?=_
 simp
def cK:=@SB.new
def SB.below(h:SB w b t C)(hb:Below B w w')(hB:b<B):SB w' b t C:=by unfold SB at h ⊢;rw[hb.block b hB];exact h
structure cE (b:Nat) (w w':Vz):Prop where
 os:w'.os=w.os
 tape:w'.tape=w.tape
 output:w'.output=w.output
 size:w.heap.size<=w'.heap.size
 block:∀k,k<w.heap.size->k≠b->w'.heap[k]?=w.heap[k]?
def cE.refl(b:Nat)(w:Vz):cE b w w:=⟨rfl,rfl,rfl,aV _,fun _ _ _=>rfl⟩
def cX:=@cE.refl
def cE.trans{v:Vz}(h:cE b u v)(k:cE b v w):cE b u w:=
 ⟨k.os.trans h.os,k.tape.trans h.tape,k.output.trans h.output,aE h.size k.size,fun i c a=>(k.block i (oB h.size) a).trans (h.block i c a)⟩
def cE.eK{b:Nat}{w w':Vz}(h:Bl w w'):cE b w w':=⟨h.os,h.tape,h.output,h.size,fun k hk _=>h.block k hk⟩
def qU:=@cE.eK
def cE.setCell(h:cE b u w)(i:Nat)(v:Ac):cE b u (w.setCell ⟨b,i,none⟩ v):=
 ⟨h.os,h.tape,h.output,by have:=h.size;simpa [World.setCell] using this,fun k hk a=>(gF _ _ _ _ a).trans (h.block k hk a)⟩
def cE.drew(h:cE b u w):cE b u w.drew:=⟨h.os,h.tape,h.output,h.size,h.block⟩
def cE.drewN(h:cE b u w)(n:Nat):cE b u (w.drewN n):=⟨h.os,h.tape,h.output,h.size,h.block⟩
def cE.below(h:cE b w w')(hB:B<=b)(a:B<=w.heap.size):Below B w w':=⟨h.os,h.tape,h.output,h.size,fun k hk=>h.block k oO oO⟩
def cE.fresh{b:Nat}{u w w':Vz}(h:Bl u w)(k:cE b w w')(hb:u.heap.size<=b):Bl u w':=
 h.trans (k.below hb h.size)
def fU:=@cE.fresh
def SB.only(h:SB w b t C)(k:cE c w w')(a:b≠c):SB w' b t C:=by have:=h.lt;unfold SB at h ⊢;rw[k.block b this a];exact h
def Row.only(h:Row k w a cap l)(e:cE b w w')(n:SB w b t C)(o:ol C):Row k w' a cap l:=by
 refine⟨h.fit,?_,fun i p=>?_⟩
 .
  rcases h.shape with f|⟨d,c,rfl,m⟩
  . exact .inl f
  . exact .inr ⟨d,c,rfl,by have:=e.size;omega⟩
 . obtain⟨d,c,f,m,g⟩:=h.cell i p;have j:d≠b:=by rintro rfl;rw[n.cell]at g;exact o _ _ _ g
   exact⟨d,c,f,by have:=e.size;omega,(bJ (w:=w) (e.block d m j)).trans g⟩
def j7.only(h:j7 w a cap l n)(c:cE b w w')(d:SB w b t C)(e:ol C):j7 w' a cap l n:=
 ⟨h.row.only c d e,h.num,h.short⟩
structure iF (w:Vz) (b o:Nat) (z:Int) (a:Vx) (cap:Nat) (l:Vy):Prop where
 neg:w.cell? ⟨b,o,none⟩=some (.bool (decide (z<0)))
 abs:w.cell? ⟨b,o+1,none⟩=some (.slice a l.length cap)
 num:j7 w a cap l z.natAbs
 lt:b<w.heap.size
def iF.below{o:Nat}(h:iF w b o z a cap l)(hb:Bl w w'):iF w' b o z a cap l:=
 ⟨ce hb h.lt h.neg,ce hb h.lt h.abs,h.num.below hb,by have:=h.lt;have:=hb.size;omega⟩
def rD(C:Vw)(o:Nat)(neg:Bool)(v:Ac):Array Value:=(C.setIfInBounds (o+1) v).setIfInBounds o (.bool neg)
structure Laid (w w':Vz) (b o:Nat) (t:Vr) (C:Vw) (z:Int) (a:Vx) (cap:Nat) (l:Vy):Prop where
 sb:SB w' b t (rD C o (decide (z<0)) (.slice a l.length cap))
 num:j7 w' a cap l z.natAbs
 only:cE b w w'
def Laid.at{o:Nat}(h:Laid w w' b o t C z a cap l)(c:o+1<C.size):iF w' b o z a cap l:=by
 refine⟨?_,?_,h.num,h.sb.lt⟩
 . have d:o<C.size:=oO
   rw[h.sb.cell];simp[rD,d]
 . rw[h.sb.cell];simp[rD,c]
def ZC(w:Vz)(b:Nat):List Value→Prop
 |[x0]=>w.cell? ⟨b,0,none⟩=some x0∧True
 |[x0,x1]=>w.cell? ⟨b,0,none⟩=some x0∧w.cell? ⟨b,1,none⟩=some x1∧True
 |[x0,x1,x2]=>w.cell? ⟨b,0,none⟩=some x0∧w.cell? ⟨b,1,none⟩=some x1∧w.cell? ⟨b,2,none⟩=some x2∧True
 |[x0,x1,x2,x3]=>w.cell? ⟨b,0,none⟩=some x0∧w.cell? ⟨b,1,none⟩=some x1∧w.cell? ⟨b,2,none⟩=some x2∧w.cell? ⟨b,3,none⟩=some x3∧True
 |[x0,x1,x2,x3,x4]=>w.cell? ⟨b,0,none⟩=some x0∧w.cell? ⟨b,1,none⟩=some x1∧w.cell? ⟨b,2,none⟩=some x2∧w.cell? ⟨b,3,none⟩=some x3∧w.cell? ⟨b,4,none⟩=some x4∧True
 |[x0,x1,x2,x3,x4,x5]=>w.cell? ⟨b,0,none⟩=some x0∧w.cell? ⟨b,1,none⟩=some x1∧w.cell? ⟨b,2,none⟩=some x2∧w.cell? ⟨b,3,none⟩=some x3∧w.cell? ⟨b,4,none⟩=some x4∧w.cell? ⟨b,5,none⟩=some x5∧True
 |_=>True
def zc{l:Vv}(h:SB w b t l.toArray):ZC w b l:=by
 unfold ZC
 split
 all_goals first|trivial|exact⟨h.cell 0,trivial⟩|exact⟨h.cell 0,h.cell 1,trivial⟩|exact⟨h.cell 0,h.cell 1,h.cell 2,trivial⟩|exact⟨h.cell 0,h.cell 1,h.cell 2,h.cell 3,trivial⟩|exact⟨h.cell 0,h.cell 1,h.cell 2,h.cell 3,h.cell 4,trivial⟩|exact⟨h.cell 0,h.cell 1,h.cell 2,h.cell 3,h.cell 4,h.cell 5,trivial⟩
def Ua{o:Obj}(h:w.alloc o=W):O (Bl w W):=by rw[<-h];exact(ac _ _).alloc (aV _) _
def Ub{o p:Obj}(h:(w.alloc o).alloc p=W):O (Bl w W):=by rw[<-h];exact((ac _ _).alloc (aV _) _).alloc sS _
def Uc(h:w.alloc (.cells C t)=W):O (SB W w.heap.size t C):=by rw[<-h];exact SB.new w _ _
def Ud{o:Obj}(h:(w.alloc (.cells C t)).alloc o=W):O (SB W w.heap.size t C):=by rw[<-h];exact(SB.new w _ _).alloc _
def Ue{o:Obj}(h:(w.alloc o).alloc (.cells C t)=W):O (SB W (w.heap.size+1) t C):=Hi (by rw[<-h];have:=SB.new (w.alloc o) t C;simpa using this)
def Uf(h:w.alloc (.cells C t)=W)(k:w.heap.size=B):O (SB W B t C):=k ▸ Uc h
def Ug{o:Obj}(h:(w.alloc (.cells C t)).alloc o=W)(k:w.heap.size=B):O (SB W B t C):=k ▸ Ud h
def Uh{o:Obj}(h:(w.alloc o).alloc (.cells C t)=W)(k:w.heap.size=B):O (SB W (B+1) t C):=k ▸ Ue h
def Pn{i:Nat}(h:i<C.size):∃v,C[i]?=some v:=⟨C[i],by simp[h]⟩
def Wb(z:Int)(neg:Bool)(n:Nat)(a:z=if neg then -(n:Int) else (n:Int)):decide (z<0)=(neg && decide (0<n)):=by
 subst a;cases neg
 . simp
 .
  by_cases h:0<n
  . simp[h]
  . have:n=0:=oO;subst this;simp
def DA(b o:Nat)(t:Vr)(C:Vw)(neg:Bool)(a:Vx)(cap:Nat)(l:Vy)(n:Nat)(z:Int)(w:Vz)(f:SB w b t C)(u:ol C)(v:o+1<C.size)(r:j7 w a cap l n)(s:z=if neg then -(n:Int) else (n:Int)):
 Calls prog 136 #[.pointer (some ⟨b,o,none⟩),.bool neg,.slice a l.length cap] w fun e w'=>e=.returned (.pointer (some ⟨b,o,none⟩))/\Laid w w' b o t C z a cap l:=by
 obtain⟨y,g⟩:=Pn (C:=C) (i:=o) oO;obtain⟨A,h⟩:=Pn (C:=C) (i:=o+1) v;have x:=f.cell o;have k1:=f.cell (o+1);rw[g]at x;rw[h]at k1;have f0:=f.free o;have f1:=f.free (o+1);have j:z.natAbs=n:=by rw[s];split<;>omega
 have k:=Wb z neg n s;have d:decide (0<n)=decide (0<l.length):=by have:=r.num.eV dD;apply Bf.2;omega
 obtain⟨q,m,p⟩:=Ib f j (k.trans (by rw[d]));clear f j k d s g h;cases neg
 .
  go_enter func136,ntmps136;go_wp2;go_ret;have c:cE b w ((w.setCell ⟨b,o+1,none⟩ (.slice a l.length cap)).setCell ⟨b,o,none⟩ (.bool false)):=((cX b w).setCell _ _).setCell _ _;refine⟨rfl,⟨?_,?_,c⟩⟩
  . rw[p.o];exact(q.o.set (o+1) _).set o _
  . rw[m.o];exact r.only c q.o u
 .
  go_enter func136,ntmps136;go_wp2;go_ret;have c:cE b w ((w.setCell ⟨b,o+1,none⟩ (.slice a l.length cap)).setCell ⟨b,o,none⟩ (.bool (decide (0<l.length)))):=((cX b w).setCell _ _).setCell _ _;refine⟨rfl,⟨?_,?_,c⟩⟩
  . rw[p.o];exact(q.o.set (o+1) _).set o _
  . rw[m.o];exact r.only c q.o u
def jO(w:Vz)(b o:Nat)(t:Vr)(C:Vw)(z:Int)(e:As)(w':Vz):Prop:=
 e=.returned (.pointer (some ⟨b,o,none⟩))/\∃a cap l,Laid w w' b o t C z a cap l
def jO.of{w w1 w':Vz}{b o:Nat}{t:Vr}{C:Vw}{z:Int}{e:As}(h:cE b w w1)(k:jO w1 b o t C z e w'):jO w b o t C z e w':=by obtain⟨d,a,cap,l,c⟩:=k;exact⟨d,a,cap,l,⟨c.sb,c.num,h.trans c.only⟩⟩
def FP:=@jO.of
def Pm(b o:Nat)(t:Vr)(C:Vw)(z:Int)(w:Vz)(c:SB w b t C)(d:ol C)(j:o+1<C.size)(f:0<=z)(m:z<1000000):
 Calls prog 137 #[.pointer (some ⟨b,o,none⟩),.int .i64 z] w (jO w b o t C z):=by
 obtain⟨n,rfl⟩:=jX f;obtain⟨g,k⟩:=Ia c d;have h:¬((n:Int)<0):=oO;clear c d f;go_enter func137,ntmps137;go_wp2_with fail;refine(DG (n:Int) _ oO oO).mono ?_;rintro e w1 ⟨⟨a,cap,l,rfl,i,_⟩,hb⟩;rw[fC]at i;go_wp2_with fail;refine(DA b o t C false a cap l n n w1 (g.o.below hb g.o.lt) k.o j i sS).mono ?_;rintro e w2 ⟨rfl,hl⟩;go_wp2;go_ret;exact jO.of (qU hb) ⟨rfl,_,_,_,hl⟩
def Tryz.mB:ol #[Value.bool false,Value.slice none 0 0]:=by
 intro i k n
 match i with
 |0=>simp
 |1=>simp
 |i+2=>simp
def sd:=@Tryz.mB
def BL(w:Vz)(z:Int)(e:As)(w':Vz):Prop:=
 (∃b a cap l,e=.returned (.pointer (some ⟨b,0,none⟩))/\w.heap.size<=b/\SB w' b 114 #[.bool (decide (z<0)),.slice a l.length cap]/\j7 w' a cap l z.natAbs)/\Below w.heap.size w w'
def EK(z:Int)(w:Vz)(b:0<=z)(c:z<1000000):
 Calls prog 80 #[.int .i64 z] w (BL w z):=by
 go_enter func80,ntmps80;go_wp2_with fail;refine(Pm w.heap.size 0 114 _ z _ (cK w 114 _) Tryz.mB sS b c).mono ?_;rintro e w2 ⟨rfl,a,cap,l,hl⟩;go_wp2;go_ret;exact⟨⟨w.heap.size,a,cap,l,rfl,aV _,hl.sb,hl.num⟩,fU ((ac _ w).alloc lZ _) hl.only lZ⟩
def j7.drew(h:j7 w a cap l n):j7 w.drew a cap l n:=h.below bR.drew
def Pj(X:Int):X=if decide (X<0)=true then -(X.natAbs:Int) else (X.natAbs:Int):=by
 by_cases h:X<0
 . simp[h];omega
 . simp[h];omega
def Lk(g m:Nat)(t:Vr)(C:Vw)(bx f:Nat)(X:Int)(a:Vx)(cap:Nat)(l:Vy)(w:Vz)(p:SB w g t C)(q:ol C)(s:m+1<C.size)(h:iF w bx f X a cap l)(i:bx≠g):
 Calls prog 117 #[.pointer (some ⟨g,m,none⟩),.pointer (some ⟨bx,f,none⟩)] w (jO w g m t C X):=by
 have u:=h.neg;have k1:=h.abs;have b:=h.lt;obtain⟨r,v,x⟩:=Ib p q h.num;clear p q h;go_enter func117,ntmps117;go_wp2;go_region_held3 (fun w'=>w'.cell? ⟨bx,f,none⟩=some (.bool (decide (X<0)))/\w'.cell? ⟨bx,f+1,none⟩=some (.slice a l.length cap)) ((simp [*]))
  (first
    |(go_at_call 172;refine(IQ a cap l X.natAbs _ ?_).mono ?_;exact x.o.drew;rintro e w1 ⟨⟨y,j,rfl,k⟩,c⟩;have z:=ce c b u;have c1:=ce c b k1;have n:=Hi k;have d:=Hi ((ac w.heap.size w).drew.trans c);clear k c)
    |(go_at_call 136;refine(DA g m t C _ y j l X.natAbs X _ ?_ v.o s n.o ?_).mono ?_;exact r.o.below d.o r.o.lt;exact Pj X;rintro e w2 ⟨rfl,hl⟩;have d0:=(bJ (a:=⟨bx,f,none⟩) (hl.only.block bx (aF b d.o.size) i)).trans z;have d1:=(bJ (a:=⟨bx,f+1,none⟩) (hl.only.block bx (aF b d.o.size) i)).trans c1;have A:=Hi hl;clear hl))
 go_wp2;go_ret;exact FP (qU d.o) ⟨rfl,_,_,_,A.o⟩
def kJ(neg:Bool)(n:Nat):Int:=if neg then -(n:Int) else (n:Int)
def Lj(X:Int):kJ (decide (X<0)) X.natAbs=X:=(Pj X).symm
def IW(neg:Bool)(n:Nat):(kJ neg n).natAbs=n:=by unfold kJ;split<;>omega
def Ph(d f:Bool)(g h:Vx)(c1 c2:Nat)(l m:Vy)(x y:Nat)(w:Vz)(u:j7 w g c1 l x)(v:j7 w h c2 m y)(hl:l.length<1099511627776)(z:m.length<1099511627776):
 Calls prog 174 #[.bool d,.slice g l.length c1,.bool f,.slice h m.length c2] w fun e w'=>(∃neg a cap r n,e=.returned (.tuple #[.bool neg,.slice a r.length cap])/\j7 w' a cap r n/\kJ neg n=kJ d x+kJ f y)/\Below w.heap.size w w':=by
 obtain⟨j,k⟩:=Ia u v;clear u v;by_cases c:d=f
 . subst c;have A:(d == d)=true:=sS;go_enter func174,ntmps174;go_wp2_with fail;refine(Qm g h c1 c2 l m x y _ j.o k.o hl z).mono ?_;rintro e w1 ⟨⟨a,cap,r,rfl,p⟩,hb⟩;go_wp2;go_ret2;exact⟨⟨d,a,cap,r,x+y,rfl,p,by unfold kJ;split<;>omega⟩,hb⟩
 .
  have A:(d == f)=false:=by simp[c]
  by_cases q:kZ x y<0
  . have B:=(zM x y).1 q;have i:=Hi c;have s:¬(0<=kZ x y):=oO;clear c q;go_enter func174,ntmps174;go_wp2_with fail;refine(DH g h c1 c2 l m x y _ j.o k.o).mono ?_;rintro e w1 ⟨rfl,b⟩;go_wp2_with fail;refine(Qi h g c2 c1 m l y x _ (k.o.below b) (j.o.below b) oO).mono ?_;rintro e w2 ⟨⟨a,cap,r,rfl,p⟩,hb⟩;go_wp2;go_ret2;refine⟨⟨f,a,cap,r,y - x,rfl,p,?_⟩,b.trans (hb.mono b.size)⟩;have:=i.o;unfold kJ;cases d<;>cases f<;>simp at this ⊢ <;>omega
  . have t:y<=x:=oB (zM x y);have i:=Hi c;have s:0<=kZ x y:=oO;clear c q;go_enter func174,ntmps174;go_wp2_with fail;refine(DH g h c1 c2 l m x y _ j.o k.o).mono ?_;rintro e w1 ⟨rfl,b⟩;go_wp2_with fail;refine(Qi g h c1 c2 l m x y _ (j.o.below b) (k.o.below b) t).mono ?_;rintro e w2 ⟨⟨a,cap,r,rfl,p⟩,hb⟩;go_wp2;go_ret2;refine⟨⟨d,a,cap,r,x - y,rfl,p,?_⟩,b.trans (hb.mono b.size)⟩;have:=i.o;unfold kJ;cases d<;>cases f<;>simp at this ⊢ <;>omega
def Pg{neg:Bool}{Z:Int}(h:kJ neg n=Z):Z=if neg=true then -(n:Int) else (n:Int):=by rw[<-h];unfold kJ;cases neg<;>rfl
def Wa(X Y:Int):kJ (decide (X<0)) X.natAbs+kJ (!decide (Y<0)) Y.natAbs=X - Y:=by
 rw[Lj];unfold kJ;by_cases h:Y<0
 . simp[h];omega
 . simp[h];omega
def V9(X Y:Int):X*Y=if (decide (X<0) != decide (Y<0))=true then -((X.natAbs*Y.natAbs:Nat):Int) else ((X.natAbs*Y.natAbs:Nat):Int):=by
 rw[gi];by_cases h:X<0
 .
  by_cases k:Y<0
  . rw[aH (by simp[h,k]),show ((X.natAbs:Nat):Int)= -X from by omega,show ((Y.natAbs:Nat):Int)= -Y from by omega,Int.neg_mul_neg]
  . rw[aN (by simp[h,k]),show ((X.natAbs:Nat):Int)= -X from by omega,show ((Y.natAbs:Nat):Int)=Y from by omega,Int.neg_mul,Int.neg_neg]
 .
  by_cases k:Y<0
  . rw[aN (by simp[h,k]),show ((X.natAbs:Nat):Int)=X from by omega,show ((Y.natAbs:Nat):Int)= -Y from by omega,QC,Int.neg_neg]
  . rw[aH (by simp[h,k]),show ((X.natAbs:Nat):Int)=X from by omega,show ((Y.natAbs:Nat):Int)=Y from by omega]
def V8(j x:Nat)(t:Vr)(C:Vw)(bx k:Nat)(X:Int)(a:Vx)(cap:Nat)(l:Vy)(g n:Nat)(Y:Int)(b:Vx)(cap':Nat)(m:Vy)(w:Vz)(A:SB w j t C)(B:ol C)(F:x+1<C.size)(p:iF w bx k X a cap l)(q:iF w g n Y b cap' m)(r:bx≠j)(i:g≠j)(G:l.length+m.length<1099511627770):
 Calls prog 118 #[.pointer (some ⟨j,x,none⟩),.pointer (some ⟨bx,k,none⟩),.pointer (some ⟨g,n,none⟩)] w (jO w j x t C (X+Y)):=by
 have H:=p.neg;have k1:=p.abs;have I:=q.neg;have J:=q.abs;have h:=p.lt;have c:=q.lt;obtain⟨D,K,L,M⟩:=Ic A B p.num q.num;clear A B p q;go_enter func118,ntmps118;go_wp2;go_region_held3 (fun w'=>w'.cell? ⟨bx,k,none⟩=some (.bool (decide (X<0)))/\w'.cell? ⟨bx,k+1,none⟩=some (.slice a l.length cap)/\w'.cell? ⟨g,n,none⟩=some (.bool (decide (Y<0)))/\w'.cell? ⟨g,n+1,none⟩=some (.slice b m.length cap')) ((simp [*]))
  (first
    |(go_at_call 174;refine(Ph (decide (X<0)) (decide (Y<0)) a b cap cap' l m X.natAbs Y.natAbs _ ?_ ?_ ?_ ?_).mono ?_;exact L.o.drew;exact M.o.drew;omega;omega;rintro e w1 ⟨⟨E,N,s,O,n1,rfl,u,v⟩,d⟩;have y:=Hi v;clear v;have P:=ce d h H;have c1:=ce d h k1;have c2:=ce d c I;have c3:=ce d c J;have z:=Hi u;have f:=Hi ((ac w.heap.size w).drew.trans d);clear u d)
    |(go_at_call 136;refine(DA j x t C _ N s O n1 (X+Y) _ ?_ K.o F z.o ?_).mono ?_;exact D.o.below f.o D.o.lt;exact Pg (y.o.trans (by rw[Lj,Lj]));rintro e w2 ⟨rfl,hl⟩;have d0:=(bJ (a:=⟨bx,k,none⟩) (hl.only.block bx (aF h f.o.size) r)).trans P;have d1:=(bJ (a:=⟨bx,k+1,none⟩) (hl.only.block bx (aF h f.o.size) r)).trans c1;have d2:=(bJ (a:=⟨g,n,none⟩) (hl.only.block g (aF c f.o.size) i)).trans c2;have d3:=(bJ (a:=⟨g,n+1,none⟩) (hl.only.block g (aF c f.o.size) i)).trans c3;have Q:=Hi hl;clear hl))
 go_wp2;go_ret;exact FP (qU f.o) ⟨rfl,_,_,_,Q.o⟩
def V5(j x:Nat)(t:Vr)(C:Vw)(bx k:Nat)(X:Int)(a:Vx)(cap:Nat)(l:Vy)(g n:Nat)(Y:Int)(b:Vx)(cap':Nat)(m:Vy)(w:Vz)(A:SB w j t C)(B:ol C)(F:x+1<C.size)(p:iF w bx k X a cap l)(q:iF w g n Y b cap' m)(r:bx≠j)(i:g≠j)(G:l.length+m.length<1099511627770):
 Calls prog 210 #[.pointer (some ⟨j,x,none⟩),.pointer (some ⟨bx,k,none⟩),.pointer (some ⟨g,n,none⟩)] w (jO w j x t C (X - Y)):=by
 have H:=p.neg;have k1:=p.abs;have I:=q.neg;have J:=q.abs;have h:=p.lt;have c:=q.lt;obtain⟨D,K,L,M⟩:=Ic A B p.num q.num;clear A B p q;go_enter func210,ntmps210;go_wp2;go_region_held3 (fun w'=>w'.cell? ⟨bx,k,none⟩=some (.bool (decide (X<0)))/\w'.cell? ⟨bx,k+1,none⟩=some (.slice a l.length cap)/\w'.cell? ⟨g,n,none⟩=some (.bool (decide (Y<0)))/\w'.cell? ⟨g,n+1,none⟩=some (.slice b m.length cap')) ((simp [*]))
  (first
    |(go_at_call 174;refine(Ph (decide (X<0)) (!decide (Y<0)) a b cap cap' l m X.natAbs Y.natAbs _ ?_ ?_ ?_ ?_).mono ?_;exact L.o.drew;exact M.o.drew;omega;omega;rintro e w1 ⟨⟨E,N,s,O,n1,rfl,u,v⟩,d⟩;have y:=Hi v;clear v;have P:=ce d h H;have c1:=ce d h k1;have c2:=ce d c I;have c3:=ce d c J;have z:=Hi u;have f:=Hi ((ac w.heap.size w).drew.trans d);clear u d)
    |(go_at_call 136;refine(DA j x t C _ N s O n1 (X - Y) _ ?_ K.o F z.o ?_).mono ?_;exact D.o.below f.o D.o.lt;exact Pg (y.o.trans (Wa X Y));rintro e w2 ⟨rfl,hl⟩;have d0:=(bJ (a:=⟨bx,k,none⟩) (hl.only.block bx (aF h f.o.size) r)).trans P;have d1:=(bJ (a:=⟨bx,k+1,none⟩) (hl.only.block bx (aF h f.o.size) r)).trans c1;have d2:=(bJ (a:=⟨g,n,none⟩) (hl.only.block g (aF c f.o.size) i)).trans c2;have d3:=(bJ (a:=⟨g,n+1,none⟩) (hl.only.block g (aF c f.o.size) i)).trans c3;have Q:=Hi hl;clear hl))
 go_wp2;go_ret;exact FP (qU f.o) ⟨rfl,_,_,_,Q.o⟩
def VZ(n x:Nat)(t:Vr)(C:Vw)(bx p:Nat)(X:Int)(a:Vx)(cap:Nat)(l:Vy)(g q:Nat)(Y:Int)(b:Vx)(cap':Nat)(m:Vy)(w:Vz)(A:SB w n t C)(B:ol C)(E:x+1<C.size)(r:iF w bx p X a cap l)(s:iF w g q Y b cap' m)(u:bx≠n)(i:g≠n)(F:l.length+m.length<1099511627770):
 Calls prog 114 #[.pointer (some ⟨n,x,none⟩),.pointer (some ⟨bx,p,none⟩),.pointer (some ⟨g,q,none⟩)] w (jO w n x t C (X*Y)):=by
 have G:=r.neg;have k1:=r.abs;have H:=s.neg;have I:=s.abs;have h:=r.lt;have c:=s.lt;obtain⟨D,J,K,L⟩:=Ic A B r.num s.num;clear A B r s;go_enter func114,ntmps114;go_wp2;go_region_held3 (fun w'=>w'.cell? ⟨bx,p,none⟩=some (.bool (decide (X<0)))/\w'.cell? ⟨bx,p+1,none⟩=some (.slice a l.length cap)/\w'.cell? ⟨g,q,none⟩=some (.bool (decide (Y<0)))/\w'.cell? ⟨g,q+1,none⟩=some (.slice b m.length cap')) ((simp [*]))
  (first
    |(go_at_call 134;refine(Qk a b cap cap' l m X.natAbs Y.natAbs _ ?_ ?_ ?_).mono ?_;exact K.o.drew;exact L.o.drew;omega;rintro e w1 ⟨⟨M,v,N,rfl,j⟩,d⟩;obtain⟨n1,k⟩:=nm (X.natAbs*Y.natAbs);rw[k]at j;have y:=Hi k;clear k;have O:=ce d h G;have c1:=ce d h k1;have c2:=ce d c H;have c3:=ce d c I;have z:=Hi j;have f:=Hi ((ac w.heap.size w).drew.trans d);clear j d)
    |(go_at_call 136;refine(DA n x t C _ M v N n1 (X*Y) _ ?_ J.o E z.o ?_).mono ?_;exact D.o.below f.o D.o.lt;exact(by rw[<-y.o];exact V9 X Y);rintro e w2 ⟨rfl,hl⟩;have d0:=(bJ (a:=⟨bx,p,none⟩) (hl.only.block bx (aF h f.o.size) u)).trans O;have d1:=(bJ (a:=⟨bx,p+1,none⟩) (hl.only.block bx (aF h f.o.size) u)).trans c1;have d2:=(bJ (a:=⟨g,q,none⟩) (hl.only.block g (aF c f.o.size) i)).trans c2;have d3:=(bJ (a:=⟨g,q+1,none⟩) (hl.only.block g (aF c f.o.size) i)).trans c3;have P:=Hi hl;clear hl))
 go_wp2;go_ret;exact FP (qU f.o) ⟨rfl,_,_,_,P.o⟩
end Go.Proofs.YtfgclhpgdanmfaaGreatDoor
