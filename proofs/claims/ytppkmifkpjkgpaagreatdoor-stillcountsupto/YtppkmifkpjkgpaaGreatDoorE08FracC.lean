import Derived.Test.YtppkmifkpjkgpaaGreatDoorE07NatStep
import Derived.Deep.DeepCutAuto
namespace Go.Proofs.YtppkmifkpjkgpaaGreatDoor
open Go.RowKit
open Go.Proofs.Tryz
set_option linter.unusedSimpArgs false
set_option linter.unusedVariables false
set_option maxHeartbeats 8000000
set_option maxRecDepth 1000000
def QR(w:Vz)(q r:Nat)(e:Ending)(w':Vz):Prop:=
 (∃aq cq lq ar cr lr,e=.returned (.tuple #[.slice aq (List.length lq) cq,.slice ar (List.length lr) cr])/\U64 w' aq cq lq q/\U64 w' ar cr lr r)/\Below w.heap.size w w'
theorem Qq4(b c:Vx)(c1 c2:Nat)(l m:Vy)(x y:Nat)(w:Vz)(d:U64 w b c1 l x)(g:U64 w c c2 m y)(a:x<y):
 Calls prog 194 #[.slice b l.length c1,.slice c m.length c2] w (QR w (x / y) (x % y)):=by
 have f:=Hi (Qdc b c c1 c2 l m x y w d g);rw[Qc1 a] at f;have j:=Hi d;clear d g;go_enter func194,ntmps194;go_wp2_with fail;refine f.o.mono ?_;rintro e k ⟨rfl,h⟩;have i:=Hi h;clear h f;go_wp2;go_ret2;exact⟨⟨none,0,[],b,c1,l,rfl,by rw[Nat.div_eq_of_lt a];exact U64.nil _,by rw[Nat.mod_eq_of_lt a];exact j.o.below i.o⟩,i.o⟩
theorem Qq5{q d r x:Nat}(h:q*d+r=x)(a:r<d):q=x / d/\r=x % d:=by
 rw[<-h,Nat.mul_comm q d];constructor
 . rw[Nat.mul_add_div (by omega),Nat.div_eq_of_lt a,Nat.add_zero]
 . rw[Nat.mul_add_mod,Nat.mod_eq_of_lt a]
theorem Qq6(F G:Vx)(c1 c2:Nat)(l m:Vy)(x y:Nat)(w:Vz)(q:U64 w F c1 l x)(s:U64 w G c2 m y)(aa:y<=x)(h0:0<y)(H:m.length=1):
 Calls prog 194 #[.slice F l.length c1,.slice G m.length c2] w (QR w (x / y) (x % y)):=by
 have I:=Hi (Qdc F G c1 c2 l m x y w q s);have V:¬(cmp3 x y<0):=fun h=>by have:=(Qaw x y).1 h;omega
 have J:0<l.length:=by
  rcases Nat.eq_zero_or_pos l.length with h|h
  . have:=(q.num.len_zero (by decide)).2 h;omega
  . exact h
 obtain⟨b,o,rfl,K,t⟩:=s.row.cell 0 (by omega);have L:m.getD 0 0=y:=by
  have W:=s.num.eq;obtain⟨d,rfl⟩:=List.length_eq_one_iff.1 H;rw[Qbt,Qcy,Nat.mul_zero,Nat.add_zero] at W;exact W
 rw[L,Nat.add_zero] at t;have M:y<18446744073709551616:=by rw[<-L];exact s.num.small.getD (by decide) 0
 have N:=q.short;have P:=Hi q;rw[H] at I;rw[H];have q1:((1:Int) == 1)=true:=rfl;clear q s L;go_enter func194,ntmps194;go_wp2_with fail;refine I.o.mono ?_;rintro e w1 ⟨rfl,i⟩;have a:=Hi i;have Q:=ce i K t;clear i I;go_wp2_with fail;refine(Qgb F c1 l x _ (P.o.below a.o) J).mono ?_;rintro e w2 ⟨⟨g,cap',rfl,X,hg,Y⟩,i⟩;have u:=Hi i;have ab:=ce i (by have:=a.o.size;show b<_;omega) Q;have HP:=Hi Y;clear i Y;go_wp2_with fail;refine(Qq9 g cap' y l _ HP.o P.o.num.small N h0 M).mono ?_;rintro e Z ⟨c,r,rfl,hr,j,n,v,hv3,f⟩;have z:=Hi (show Below w.heap.size w Z from ((a.o.trans (u.o.mono a.o.size)).trans (f.below (by have:=a.o.size;omega) (Nat.le_trans a.o.size u.o.size))));rw[P.o.num.eq] at hv3;have HQ:=Hi (Qq5 hv3 hr)
 obtain⟨R,S,T⟩:=Ib j v (Qga (some ⟨g,0,none⟩) cap' c Z (j.row cap' (by omega)) (by omega));rw[n] at T;have p:=Hi n;clear j v hv3 f n;go_wp2_with fail;refine T.o.mono ?_;rintro e w4 ⟨⟨k,hk,rfl,A,B⟩,hw⟩;subst hw;have HU:O (U64 w4 (some ⟨g,0,none⟩) cap' (c.take k) (x / y)):=Hi ⟨(R.o.row cap' (by have:=p.o;omega)).take k (by have:=p.o;omega),⟨S.o.take k,B,by rw[A,HQ.o.1]⟩,by rw[List.length_take];omega⟩;have HK:=Hi (show (c.take k).length=k by rw[List.length_take];have:=p.o;omega);clear A B T;go_wp2_with fail;refine(Qra r _ (by omega)).mono ?_;rintro e w5 ⟨⟨ar,cr,lr,rfl,C⟩,D⟩;obtain⟨U,E⟩:=Ia C D;clear C D;go_wp2;go_ret2;exact⟨⟨some ⟨g,0,none⟩,cap',c.take k,ar,cr,lr,by rw[HK.o];rfl,HU.o.below E.o,by rw[<-HQ.o.2];exact U.o⟩,z.o.trans (E.o.mono z.o.size)⟩
structure DInv (X D N M k:Nat) (us qs:Vy):Prop where
 ul:us.length=M+N
 ql:qs.length=M
 su:Small 18446744073709551616 us
 sq:Small 18446744073709551616 qs
 eq:val 18446744073709551616 us+D*(18446744073709551616 ^ k*val 18446744073709551616 (qs.drop k))=X
 rem:val 18446744073709551616 (us.drop k)<D
theorem DInv.zero{X D N M k:Nat}{us a:Vy}(h:DInv X D N M k us a)(hk:k<=M)(b:D<18446744073709551616 ^ N):val 18446744073709551616 (us.drop (k+N))=0:=by
 have:=Qfw 18446744073709551616 (by decide) (us.drop k) N (Nat.lt_trans h.rem b) (by rw[List.length_drop,h.ul];omega);rw[List.drop_drop] at this;exact this
theorem DInv.next{X D N M j q:Nat}{us b a:Vy}(h:DInv X D N M (j+1) us b)(c:j<M)(hl:a.length=us.length)(hs:Small 18446744073709551616 a)(d:q<18446744073709551616)(e:val 18446744073709551616 a+18446744073709551616 ^ j*(q*D)=val 18446744073709551616 us)(f:val 18446744073709551616 (a.drop j)<D):DInv X D N M j a (b.set j q):=by
 refine⟨hl.trans h.ul,by rw[List.length_set];exact h.ql,hs,h.sq.set j d,?_,f⟩;rw[Qam _ _ j (by rw[List.length_set,h.ql];exact c),Qbg _ _ _ (by rw[h.ql];exact c),List.drop_set,if_pos (by omega),<-h.eq,<-e,Nat.mul_add,Nat.mul_add,Nat.pow_succ,<-Nat.mul_assoc (18446744073709551616 ^ j) 18446744073709551616,Nat.mul_left_comm D (18446744073709551616 ^ j) q,Nat.mul_comm D q];omega
theorem DInv.win{X D N M j:Nat}{us a:Vy}(h:DInv X D N M (j+1) us a)(b:j<M)(c:0<D):val 18446744073709551616 (us.drop j)<18446744073709551616*D:=by
 rw[Qam _ us j (by rw[h.ul];omega)];have d:=h.su.getD (by decide) j;have e:=Nat.mul_le_mul_left 18446744073709551616 (show val 18446744073709551616 (us.drop (j+1))+1<=D from h.rem);omega
theorem Qq7{a c s N y:Nat}{d:Vy}(p:0<N)(q:y=c+18446744073709551616 ^ (N - 1)*a)(g:c<18446744073709551616 ^ (N - 1))(hs:s<64)(l:9223372036854775808<=a*2 ^ s)(h:a*2 ^ s<18446744073709551616)(b:Num 18446744073709551616 d (y*2 ^ s)):d.length=N/\y*2 ^ s<18446744073709551616 ^ N/\9223372036854775808*18446744073709551616 ^ (N - 1)<=y*2 ^ s:=by
 obtain⟨K,rfl⟩:∃K,N=K+1:=⟨N - 1,by omega⟩;rw[Nat.add_sub_cancel] at*;have m:(a+1)*2 ^ s<=18446744073709551616:=by
  have i:=Qbw (s:=s) (by omega);rw[<-i,Nat.mul_comm (2 ^ s)];apply Nat.mul_le_mul_right;rw[<-i,Nat.mul_comm (2 ^ s)] at h;exact Nat.lt_of_mul_lt_mul_right h
 have j:y*2 ^ s<18446744073709551616 ^ (K+1):=by
  have e:y<18446744073709551616 ^ K*(a+1):=by rw[Nat.mul_add];omega
  have f:=Nat.mul_lt_mul_of_pos_right e (Nat.two_pow_pos s);rw[Nat.mul_assoc] at f;have k:=Nat.mul_le_mul_left (18446744073709551616 ^ K) m;rw[Nat.pow_succ];omega
 have n:9223372036854775808*18446744073709551616 ^ K<=y*2 ^ s:=by
  have e:18446744073709551616 ^ K*a<=y:=by omega
  have f:=Nat.mul_le_mul_right (2 ^ s) e;rw[Nat.mul_assoc] at f;have k:=Nat.mul_le_mul_left (18446744073709551616 ^ K) l;rw[Nat.mul_comm (18446744073709551616 ^ K) 9223372036854775808] at k;omega
 refine⟨?_,j,n⟩;apply Nat.le_antisymm
 . exact b.length_le_of_lt (by decide) j
 .
  apply bC;intro r;have o:=Qaa (B:=18446744073709551616) (by decide) b.small;rw[b.eq] at o;have t:18446744073709551616 ^ d.length<=18446744073709551616 ^ K:=Nat.pow_le_pow_right (by decide) (by omega);omega
theorem Qq8{x s L M N D:Nat}{us:Vy}(a:x<18446744073709551616 ^ L)(b:M+N=L+1)(f:0<N)(hs:s<64)(g:9223372036854775808*18446744073709551616 ^ (N - 1)<=D)(c:us.length=M+N)(h:val 18446744073709551616 us=x*2 ^ s):val 18446744073709551616 (us.drop M)<D:=by
 apply bC;intro i;have j:=Qah 18446744073709551616 us M (by omega);have d:18446744073709551616 ^ M*(9223372036854775808*18446744073709551616 ^ (N - 1))<=18446744073709551616 ^ M*val 18446744073709551616 (us.drop M):=Nat.mul_le_mul_left _ (by omega);have e:2 ^ s<=9223372036854775808:=Nat.pow_le_pow_right (by decide) (show s<=63 by omega);have k:x*2 ^ s<18446744073709551616 ^ L*9223372036854775808:=Nat.lt_of_le_of_lt (Nat.mul_le_mul_left x e) (Nat.mul_lt_mul_of_pos_right a (by decide));rw[Nat.mul_left_comm,<-Nat.pow_add,show M+(N - 1)=L by omega,Nat.mul_comm] at d;omega
theorem Qjp{l:Vy}{y N:Nat}(h:Num 18446744073709551616 l y)(hl:l.length=N+1):∃c a,l.getD N 0=a/\y=c+18446744073709551616 ^ N*a/\c<18446744073709551616 ^ N/\0<a/\a<18446744073709551616:=by
 refine⟨val 18446744073709551616 (l.take N),l.getD N 0,rfl,?_,?_,?_,h.small.getD (by decide) N⟩
 .
  have b:=Qbu 18446744073709551616 l N (by omega);rw[List.take_of_length_le (by omega),h.eq] at b;exact b
 .
  have:=Qaa (B:=18446744073709551616) (by decide) (h.small.take N);rw[List.length_take,Nat.min_eq_left (by omega)] at this;exact this
 .
  rcases h.trim with b|b
  . rw[b] at hl;simp at hl
  . rw[hl,Nat.add_sub_cancel] at b;omega
theorem Blk.onlyG{k:IntKind}{t:Vr}{w w':Vz}{g c:Nat}{l:Vy}(h:Blk k t w g l)(b:Only c w w')(a:g≠c):Blk k t w' g l:=by
 have:=h.lt;unfold Blk at h ⊢;rw[b.block g this a];exact h
def QRo(w:Vz)(q r:Nat)(e:Ending)(w':Vz):Prop:=
 (∃aq cq lq g cr C lr,e=.returned (.tuple #[.slice aq (List.length lq) cq,.slice (some ⟨g,0,none⟩) (List.length lr) cr])/\U64 w' aq cq lq q/\ON w' g cr C lr r/\w.heap.size<=g)/\Below w.heap.size w w'
theorem Qjq(a1 a2:Vx)(c1 c2 n:Nat)(l m:Vy)(x y:Nat)(w:Vz)(G:U64 w a1 c1 l x)(F:U64 w a2 c2 m y)(bx:y<=x)(hm:m.length=n+2)(bz:l.length<1099511627770):
 Calls prog 194 #[.slice a1 l.length c1,.slice a2 m.length c2] w (QRo w (x / y) (x % y)):=by
 have HC:=Hi (Qdc a1 a2 c1 c2 l m x y w G F);have bs:¬(cmp3 x y<0):=fun h=>by have:=(Qaw x y).1 h;omega
 have a5:m.length<=l.length:=by
  apply bC;intro hc;have:=Qav (B:=18446744073709551616) (by decide) G.num.small F.num.trim (by omega);rw[G.num.eq,F.num.eq] at this;omega
 obtain⟨b0,ab,P,hy,Q,a6,a7⟩:=Qjp (N:=n+1) F.num hm;obtain⟨b,o,rfl,a8,H⟩:=F.row.cell (n+1) (by omega);rw[P] at H;obtain⟨s,f,hs,ad,ae⟩:=Qfl ab a6 a7;have t:=Hi (fun w=>Qfk (ab:Int) w (by omega) (by omega));rw[hs] at t;obtain⟨N,hN⟩:=nm m.length;obtain⟨p,hp⟩:=nm (n+1);have af:N=p+1:=by omega
 rw[hp] at H;obtain⟨H1,H2⟩:=Ia G F;rw[hN] at HC;rw[hN];have S:=Qaa (B:=18446744073709551616) (by decide) G.num.small;rw[G.num.eq] at S;obtain⟨a9,HY⟩:=Ia S hy;have q1:((N:Int) == 1)=false:=by rw[beq_eq_false_iff_ne];omega
 have b1:IntKind.i64.wrap ((N:Int) - 1)=(p:Int):=by rw[wrap_i64 _ (by omega) (by omega)];omega
 obtain⟨ba,bb,ag,HP,ah,HM,HN⟩:=If ad ae Q hp af hm hN;have b2:1<=N:=by omega
 have b3:p<N:=by omega
 have bt:(p:Int)<(N:Int):=by omega
 have b4:2<=N:=by omega
 rw[hN] at a5;clear G F hy hs P S ad ae Q hp af hm hN;go_enter func194,ntmps194;go_wp2_with fail;go_fit HC.o;rintro e w1 ⟨rfl,v⟩;have I:=Hi v;have b5:=ce v a8 H;clear v HC H;go_wp2_with fail;go_fit (t.o _);rintro e w2 ⟨rfl,hw⟩;subst hw;clear t;go_wp2_with fail;go_fit (Qj0 a1 c1 s l x _ (H1.o.below I.o) (by omega) f);rintro e J ⟨⟨us,rfl,d,E,ai,aj⟩,v⟩;have ak:=Hi (I.o.trans (v.mono I.o.size));have bu:w2.heap.size<J.heap.size:=d.lt;have T:=Qj0 (some ⟨b,o,none⟩) c2 s m y J (H2.o.below ak.o) (by have:=HN.o;omega) f;rw[HN.o] at T;obtain⟨al,U,V,am,W⟩:=Id T d E ai aj;clear v d E ai aj T;go_wp2_with fail;go_fit al.o;rintro e w4 ⟨⟨vs,rfl,X,an,ao,ap⟩,v⟩;have aq:=Hi v
 have bv:J.heap.size<w4.heap.size:=X.lt;have ar:=Hi (Qda J.heap.size (N+1) (N+1) (y*2 ^ s) vs w4 X an ao lZ (by omega) ap);clear v X an ao ap al;go_wp2_with fail;go_fit ar.o;rintro e w5 ⟨⟨md,rfl,K⟩,hw⟩;subst hw;have A:=Qq7 (N:=N) (by omega) (by have h:=HY.o;rw[HP.o,show p=N - 1 by have:=ah.o;omega] at h;exact h) (by have h:=ag.o;rw[HP.o,show p=N - 1 by have:=ah.o;omega] at h;exact h) f ba.o bb.o K.num;rw[A.1];obtain⟨D,hD⟩:=nm (y*2 ^ s);rw[hD] at K A;obtain⟨M,hM,b6⟩:∃M,M+N=l.length+1/\1<=M:=⟨l.length+1 - N,by omega,by omega⟩;obtain⟨bc,au,av,bd,be⟩:=Id A.1 A.2.1 A.2.2 K hD;clear K A hD ar;have wm:IntKind.i64.wrap ((l.length:Int)+1 - (N:Int))=(M:Int):=by rw[wrap_i64 _ (by omega) (by omega)];omega
 have b7:(l.length:Int)+1 - (N:Int)=(M:Int):=by omega
 have bf:∀w,(Instr.makeSlice 139 (.int .i64 (M:Int)) (.int .i64 (M:Int))).run prog w=.ok (.slice (some ⟨w.heap.size,0,none⟩) M M) (w.alloc (.cells (wordCells .u64 (zeros M)) 170)):=
  fun w=>Qc8 _ M rfl (by omega) w
 have C:=Hi hM;clear hM;go_wp2_with fail;clear bf;have bg:0<D:=Nat.lt_of_lt_of_le (Nat.mul_pos (by decide) (Nat.pow_pos (by decide))) av.o;have bw:w.heap.size<=w2.heap.size:=I.o.size;go_loopw [11] (fun i wr=>∃(k:Nat) (us qs:Vy),k<=M/\i=.int .i64 ((k:Int) - 1)/\Blk .u64 170 wr w2.heap.size us/\Blk .u64 170 wr w5.heap.size qs/\U64 wr (some ⟨J.heap.size,0,none⟩) (N+1) md D/\DInv (x*2 ^ s) D N M k us qs/\Below w.heap.size w wr) (fun i _=>(intOf i+1).toNat)
 case atStart=>
  refine⟨M,us,zeros M,Nat.le_refl _,rfl,(U.o.below aq.o (by omega)).alloc _,Blk.new _ _ _ _,bd.o.below (bR.alloc lZ _),⟨?_,Qaf _,am.o,Qal _ _ (by decide),?_,?_⟩,(ak.o.trans (aq.o.mono (by omega))).alloc (by omega) _⟩
  . rw[V.o];have:=C.o;omega
  . rw[List.drop_of_length_le (by rw[Qaf];exact Nat.le_refl _),Qcy,Nat.mul_zero,Nat.mul_zero,Nat.add_zero];exact W.o
  . exact Qq8 a9.o C.o (by omega) f av.o (by rw[V.o];have:=C.o;omega) W.o
 case round=>
  clear U V am W;obtain⟨k,us,qs,hk,rfl,d,L,O,g,v⟩:=hrel;obtain⟨U,bh,bi,HI,HB⟩:=Id d L O g v;by_cases h0:k=0
  .
   subst h0;have a:=g.rem;have Y:=g.eq;rw[List.drop_zero] at a;rw[List.drop_zero,Nat.pow_zero,Nat.one_mul] at Y;have aw:=Hi (Qfx (Nat.two_pow_pos s) rfl be.o Y a);have ax:val 18446744073709551616 (us.take N)=val 18446744073709551616 us:=by
    have G:=Qfw 18446744073709551616 (by decide) us N (Nat.lt_trans a au.o) (by rw[g.ul];omega);have F:=Qah 18446744073709551616 us N (by rw[g.ul];omega);rw[G,Nat.mul_zero,Nat.add_zero] at F;exact F.symm
   have E:us.length=l.length+1:=by rw[g.ul];exact C.o
   have bj:=Hi (Qda w5.heap.size M M (x / y) qs wr.drew L.drew g.ql g.sq lZ (by omega) aw.o.1);have Z:=Qrc (some ⟨w2.heap.size,0,none⟩) (l.length+1) s (us.take N) wr.drew ((d.drew).row N (by omega) (l.length+1) (by omega)) (g.su.take N) (by rw[List.length_take];omega) f;rw[List.length_take,Nat.min_eq_left (by omega),ax,aw.o.2] at Z;have bk:=Hi Z;clear a Y ax E d L O g v Z;go_wp2_with fail;have iN:(0:Int)<=(N:Int):=by omega
   have b8:(N:Int)<=(l.length:Int)+1:=by omega
   go_region_held3 (fun _=>True) (trivial) (first
    |(
     go_at_call 204;go_fit bj.o;rintro e w6 ⟨⟨r,rfl,hu⟩,hw⟩;subst hw;have HU:=Hi hu
     clear hu)
    |(
     go_at_call 219;go_fit bk.o;rintro e w7 ⟨⟨C7,lr,rfl,ay⟩,az⟩;obtain⟨bl,a0⟩:=Ia ay az
     clear ay az))
   go_wp2;go_ret2;exact⟨⟨_,_,r,_,_,C7,lr,rfl,HU.o.below a0.o,bl.o,HB.o.size⟩,HB.o.drew.trans (a0.o.mono HB.o.size)⟩
  .
   obtain⟨j,rfl⟩:∃j,k=j+1:=⟨k - 1,by omega⟩;obtain⟨z,hz⟩:=nm (qs.getD j 0);have a3:j<M:=by omega
   have bm:j+N<=l.length:=by have:=C.o;omega
   have E:us.length=l.length+1:=by rw[g.ul];exact C.o
   have hS:=Qr7 w2.heap.size j n (l.length+1 - j) N p us (some ⟨J.heap.size,0,none⟩) (N+1) md D wr d g.su O bc.o (by have:=HM.o;have:=HN.o;omega) HP.o.symm (fun b' o' h=>by
    obtain⟨rfl,rfl⟩:J.heap.size=b'/\0=o':=by simpa using h
    omega) (by omega) (by have:=g.zero (by omega) au.o;rw[show j+N+1=j+1+N by omega];exact this) (g.win a3 bg) (by omega)
   obtain⟨HS,bn,HZ⟩:=Ib hS g.ql hz;have ei:((j+1:Nat):Int) - 1=(j:Int):=by omega
   rw[ei];clear ei d L O g v hz hS;go_wp2_with fail;rw[show j+N+1 - j=N+1 by omega];go_fit HS.o;rintro e w6 ⟨q,bo,rfl,hq,c,R,a⟩;have u:=bh.o.onlyG c.only (by omega);have g1:=u.free j;have g2:=u.cell j (by have:=bn.o;omega);rw[HZ.o] at g2;obtain⟨bp,a4,aa⟩:=Ib (HI.o.next a3 c.len c.small hq R a) u c;clear u c R a HS;go_wp2;go_roundw
   case rel=>
    have bq:=HB.o.size;refine⟨j,bo,qs.set j q,by omega,by go_num,aa.o.blk.other (by omega) _ _,a4.o.set j q,?_,bp.o,(HB.o.trans (aa.o.only.below (by omega) bq)).setCell (by show w.heap.size<=w5.heap.size;omega) _⟩;have br:=bi.o.onlyG aa.o.only (fun b' o' h=>by
     obtain⟨rfl,rfl⟩:J.heap.size=b'/\0=o':=by simpa using h
     omega)
    exact br.onlyG ((Only.refl w5.heap.size w6).setCell _ _) (fun b' o' h=>by
     obtain⟨rfl,rfl⟩:J.heap.size=b'/\0=o':=by simpa using h
     omega)
   case measure=>simp[intOf]
theorem Qrb(a b:Vx)(c1 c2 n:Nat)(l m:Vy)(x y:Nat)(w:Vz)(f:U64 w a c1 l x)(h:U64 w b c2 m y)(c:y<=x)(i:m.length=n+2)(d:l.length<1099511627770):
 Calls prog 194 #[.slice a l.length c1,.slice b m.length c2] w (QR w (x / y) (x % y)):=by
 refine(Qjq a b c1 c2 n l m x y w f h c i d).mono ?_;rintro e w' ⟨⟨j,k,o,g,p,C,q,rfl,r,s,_⟩,t⟩;exact⟨⟨j,k,o,_,p,q,rfl,r,s.u64⟩,t⟩
theorem Qju(a b:Vx)(c1 c2:Nat)(l m:Vy)(x y:Nat)(w:Vz)(d:U64 w a c1 l x)(c:U64 w b c2 m y)(i:0<y)(e:l.length<1099511627770):
 Calls prog 194 #[.slice a l.length c1,.slice b m.length c2] w (QR w (x / y) (x % y)):=by
 by_cases f:x<y
 . exact Qq4 a b c1 c2 l m x y w d c f
 .
  have j:m.length≠0:=fun h=>by have:=(c.num.len_zero (by decide)).2 h;omega
  by_cases g:m.length=1
  . exact Qq6 a b c1 c2 l m x y w d c (by omega) i g
  . exact Qrb a b c1 c2 (m.length - 2) l m x y w d c (by omega) (by omega) e
def Nat64(w:Vz)(n:Nat)(e:Ending)(w':Vz):Prop:=(∃a cap l,e=.returned (.slice a (List.length l) cap)/\U64 w' a cap l n)/\Below w.heap.size w w'
theorem Qrn(b c:Vx)(c1 c2:Nat)(l m:Vy)(x y:Nat)(w:Vz)(d:U64 w b c1 l x)(f:U64 w c c2 m y)(p:0<y)(g:l.length<1099511627770):
 Calls prog 169 #[.slice b l.length c1,.slice c m.length c2] w (Nat64 w (x / y)):=by
 obtain⟨a,h,q⟩:=Ib (Qdb c c2 m y w f) (Qju b c c1 c2 l m x y w d f p g) d;clear d f;by_cases i:y=1
 .
  rw[show decide (y=1)=true by simpa using i] at a;go_enter func169,ntmps169;go_wp2_with fail;go_fit a.o;rintro e r ⟨rfl,j⟩;subst j;clear a h;go_wp2;go_ret;exact⟨⟨b,c1,l,rfl,by rw[i,Nat.div_one];exact q.o⟩,Below.refl _ _⟩
 .
  rw[show decide (y=1)=false by simpa using i] at a;go_enter func169,ntmps169;go_wp2_with fail;go_fit a.o;rintro e r ⟨rfl,j⟩;subst j;go_wp2_with fail;go_fit h.o;rintro e B ⟨⟨s,t,u,C,D,E,rfl,k,v⟩,n⟩;obtain⟨z,A⟩:=Ia k n;clear k v n a h;go_wp2;go_ret;exact⟨⟨s,t,u,rfl,z.o⟩,A.o⟩
theorem Qro(x y:Nat)(w:Vz)(j:x<18446744073709551616)(k:y<18446744073709551616):
 Calls prog 196 #[.int .u64 x,.int .u64 y] w fun e w'=>e=.returned (.int .u64 ((Nat.gcd x y:Nat):Int))/\Below w.heap.size w w':=by
 obtain⟨G,hG⟩:=nm (Nat.gcd x y);rw[hG];have l:=Hi hG;clear hG;go_enter func196,ntmps196;go_wp2;go_loopw [0,1] (fun m g wr=>∃a b:Nat,m=.int .u64 a/\g=.int .u64 b/\a<18446744073709551616/\b<18446744073709551616/\Nat.gcd a b=G/\Below w.heap.size w wr) (fun _ g _=>(intOf g).toNat)
 case atStart=>exact⟨x,y,rfl,rfl,j,k,l.o,Below.refl _ _⟩
 case round=>
  obtain⟨a,b,rfl,rfl,t,n,h,c⟩:=hrel;obtain⟨d,i⟩:=Ia h c;clear h c;by_cases p:b=0
  .
   subst p;go_wp2;go_ret;exact⟨by rw[<-d.o,Nat.gcd_zero_right];rfl,i.o⟩
  .
   obtain⟨r,f⟩:=nm (a % b);have q:r<b:=by rw[<-f];exact Nat.mod_lt _ (by omega)
   have d1:(a:Int) % (b:Int)=(r:Int):=by rw[<-f];rfl
   have d2:Int.tmod (a:Int) (b:Int)=(r:Int):=by rw[<-f];rfl
   have u:((b:Int) != 0)=true:=by rw[bne_iff_ne];omega
   have v:((b:Int) == 0)=false:=by rw[beq_eq_false_iff_ne];omega
   have s:=Hi f;clear f;go_wp2_with fail;go_region
   all_goals
    go_wp2;go_roundw
    case rel=>exact⟨b,r,rfl,rfl,n,by omega,by rw[<-d.o,<-s.o,Nat.gcd_comm a b,Nat.gcd_rec b a,Nat.gcd_comm],i.o.drew⟩
    case measure=>simp[intOf];omega
theorem Qrp(a:Vx)(cap d:Nat)(l:Vy)(x:Nat)(w:Vz)(h:U64 w a cap l x)(s:0<d)(I:d<18446744073709551616):
 Calls prog 197 #[.slice a l.length cap,.int .u64 d] w fun e w'=>e=.returned (.int .u64 ((x % d:Nat):Int))/\Below w.heap.size w w':=by
 have hs:=h.short;obtain⟨R,t⟩:=nm (x % d);rw[t];obtain⟨J,H⟩:=Ia t h;clear t h;go_enter func197,ntmps197;go_wp2;go_loopw [5,6] (fun r i wr=>∃(k c:Nat),k<=l.length/\c<d/\r=.int .u64 c/\i=.int .i64 ((k:Int) - 1)/\val 18446744073709551616 (l.drop k) % d=c/\Below w.heap.size w wr) (fun _ i _=>(intOf i+1).toNat)
 case atStart=>exact⟨l.length,0,Nat.le_refl _,s,rfl,rfl,by rw[List.drop_of_length_le lZ,Qcy,Nat.zero_mod],Below.refl _ _⟩
 case round=>
  obtain⟨k,r,hk,K,rfl,rfl,C,D⟩:=hrel;obtain⟨E,u⟩:=Ia C D;clear C D;by_cases L:k=0
  .
   subst L;go_wp2;go_ret;exact⟨by rw[<-J.o,<-H.o.num.eq];have:=E.o;rw[List.drop_zero] at this;rw[this];rfl,u.o⟩
  .
   obtain⟨j,rfl⟩:∃j,k=j+1:=⟨k - 1,by omega⟩;obtain⟨b,M,rfl,N,v⟩:=(H.o.row.below u.o).cell j (by omega);obtain⟨z,p⟩:=nm (l.getD j 0);rw[p] at v;have y:z<18446744073709551616:=by rw[<-p];exact H.o.num.small.getD (by omega) j
   obtain⟨q,c,T,f,A,g⟩:=div64 r z d K y I;have m:=Hi g;have P:O (val 18446744073709551616 (l.drop j) % d=c):=Hi (by
    rw[Qam _ l j (by omega),p];have F:=Nat.div_add_mod (val 18446744073709551616 (l.drop (j+1))) d;rw[E.o] at F
    rw[<-F,Nat.mul_add,show z+(18446744073709551616*(d*(val 18446744073709551616 (l.drop (j+1)) / d))+18446744073709551616*r)=d*(18446744073709551616*(val 18446744073709551616 (l.drop (j+1)) / d))+(d*q+c) by rw[Nat.mul_left_comm];omega,Nat.mul_add_mod,Nat.mul_add_mod,Nat.mod_eq_of_lt f])
   have G:((j+1:Nat):Int) - 1=(j:Int):=by omega
   rw[G];clear G g A p;go_wp2_with fail;go_fit (m.o _);rintro e Q ⟨rfl,S,n⟩;have B:O (Bl w Q):=Hi (by rw[n];exact Qeb u.o S);clear n m;go_wp2;go_roundw
   case rel=>exact⟨j,c,by omega,f,rfl,by go_num,P.o,B.o⟩
   case measure=>simp[intOf]
theorem Qde(x y c:Nat)(p:x<18446744073709551616)(q:y<18446744073709551616)(s:c<18446744073709551616):∃h l:Nat,h<18446744073709551616/\l<18446744073709551616/\l+18446744073709551616*h=x*y+c/\
 ∀w,Calls prog 189 #[.int .u64 x,.int .u64 y,.int .u64 c] w fun e w'=>e=.returned (.tuple #[.int .u64 (h:Int),.int .u64 (l:Int)])/\w'=w:=by
 obtain⟨h,l,u,hl,f,b⟩:=mul64 x y p q;obtain⟨r,c1,g,t,i,j⟩:=Qc9 l c hl s;have d:=Qgd (over:=c) p q;have a:r+18446744073709551616*(h+c1)=x*y+c:=by omega
 have k:h+c1<18446744073709551616:=by omega
 refine⟨h+c1,r,k,g,a,fun w=>?_⟩;have m:=Hi b;clear b f i a d;go_enter func189,ntmps189;go_wp2_with (first|(go_at_call 211;go_fit (m.o _);rintro e v ⟨rfl,n⟩;subst n)|simp only[j]);go_ret2;exact⟨by rw[Int.natCast_add];rfl,rfl⟩
theorem Qjv{B k u v d e r i j l a b c f g:Nat}{rs xs m:Vy}(hk:k<rs.length)(n:xs.getD k 0=d)(o:m.getD k 0=e)(p:f+B*a=d*u+i)(q:g+B*b=e*v+j)(s:r+l+g=f+B*c)
 (h:val B (rs.take k)+v*val B (m.take k)+B ^ k*i=u*val B (xs.take k)+B ^ k*(j+l)):
 val B ((rs.set k r).take (k+1))+v*val B (m.take (k+1))+B ^ (k+1)*a=u*val B (xs.take (k+1))+B ^ (k+1)*(b+c):=by
 rw[take_set _ _ _ hk,Qak,List.length_take,Nat.min_eq_left (by omega),Qac,Qac,n,o,Nat.pow_succ,Nat.mul_add v,Nat.mul_add u];have t:B ^ k*(f+B*a)=B ^ k*(d*u+i):=by rw[p]
 have w:B ^ k*(g+B*b)=B ^ k*(e*v+j):=by rw[q]
 have x:B ^ k*(r+l+g)=B ^ k*(f+B*c):=by rw[s]
 rw[Nat.mul_add,Nat.mul_add,<-Nat.mul_assoc] at t w;rw[Nat.mul_add,Nat.mul_add,Nat.mul_add,<-Nat.mul_assoc] at x;rw[Nat.mul_add] at h;rw[Nat.mul_add,Nat.mul_left_comm v,Nat.mul_left_comm u,Nat.mul_comm v e,Nat.mul_comm u d];omega
structure Two (b c:Nat) (w w':Vz):Prop where
 os:w'.os=w.os
 tape:w'.tape=w.tape
 output:w'.output=w.output
 size:w.heap.size<=w'.heap.size
 block:∀k,k<w.heap.size->k≠b->k≠c->w'.heap[k]?=w.heap[k]?
theorem Two.refl(b c:Nat)(w:Vz):Two b c w w:=⟨rfl,rfl,rfl,Nat.le_refl _,fun _ _ _ _=>rfl⟩
theorem Two.swap{b c:Nat}{w w':Vz}(h:Two b c w w'):Two c b w w':=⟨h.os,h.tape,h.output,h.size,fun k hk a d=>h.block k hk d a⟩
theorem Two.set1{b c:Nat}{u w:Vz}(h:Two b c u w)(i:Nat)(v:Value):Two b c u (w.setCell ⟨b,i,none⟩ v):=
 ⟨h.os,h.tape,h.output,by simpa [World.setCell] using h.size,fun k hk a d=>by rw[Below.heap_setCell _ _ _ _ a];exact h.block k hk a d⟩
theorem Two.set2{b c:Nat}{u w:Vz}(h:Two b c u w)(i:Nat)(v:Value):Two b c u (w.setCell ⟨c,i,none⟩ v):=(h.swap.set1 i v).swap
theorem Two.below{b c B:Nat}{w w':Vz}(h:Two b c w w')(a:B<=b)(d:B<=c)(e:B<=w.heap.size):Below B w w':=⟨h.os,h.tape,h.output,h.size,fun k hk=>h.block k (by omega) (by omega) (by omega)⟩
theorem Pre.other{w:Vz}{g a:Nat}{rs:Vy}(h:Pre w g rs)(b:g≠a)(i:Nat)(v:Value):Pre (w.setCell ⟨a,i,none⟩ v) g rs:=by
 obtain⟨C,h,c⟩:=h;refine⟨C,?_,c⟩;unfold SB at h ⊢;rw[Below.heap_setCell _ _ _ _ b];exact h
def Took(n u v:Nat)(V xs ys:Vy):Prop:=∃o p q:Nat,val 18446744073709551616 (V.take n)+v*val 18446744073709551616 (ys.take n)+18446744073709551616 ^ n*o=u*val 18446744073709551616 (xs.take n)+18446744073709551616 ^ n*(p+q)
theorem Took.end{n u v x y z:Nat}{V xs a:Vy}(h:Took n u v V xs a)(hs:Small 18446744073709551616 V)(e:n<=V.length)(f:∃t,x=val 18446744073709551616 (xs.take n)+18446744073709551616 ^ n*t)(g:∃t,y=val 18446744073709551616 (a.take n)+18446744073709551616 ^ n*t)(i:u*x=v*y+z)(b:z<18446744073709551616 ^ n):
 val 18446744073709551616 (V.take n)=z:=by
 obtain⟨o,p,q,h⟩:=h;obtain⟨t,rfl⟩:=f;obtain⟨r,rfl⟩:=g;have d:=Qaa (B:=18446744073709551616) (by decide) (hs.take n);rw[List.length_take,Nat.min_eq_left e] at d;generalize val 18446744073709551616 (V.take n)=A at*;generalize val 18446744073709551616 (xs.take n)=D at*;generalize val 18446744073709551616 (a.take n)=E at*;generalize 18446744073709551616 ^ n=M at*;have j:A+M*(o+u*t)=z+M*(p+q+v*r):=by
  have k:u*(D+M*t)=u*D+M*(u*t):=by rw[Nat.mul_add,Nat.mul_left_comm]
  have l:v*(E+M*r)=v*E+M*(v*r):=by rw[Nat.mul_add,Nat.mul_left_comm]
  rw[k,l] at i;rw[Nat.mul_add,Nat.mul_add M (p+q)];omega
 have c:=congrArg (· % M) j;simp only[Nat.add_mul_mod_self_left] at c;rw[Nat.mod_eq_of_lt d,Nat.mod_eq_of_lt b] at c;exact c
theorem Qjw(j l n cx cy a b c d:Nat)(X Y:Vy)(w:Vz)(hX:Pre w j X)(hY:Pre w l Y)(E:j≠l)(sX:Small 18446744073709551616 X)(sY:Small 18446744073709551616 Y)(nX:n<=X.length)(nY:n<=Y.length)(hn:n<=1099511627776)(bl:n<=cx)(bm:n<=cy)
 (ha:a<18446744073709551616) (hb:b<18446744073709551616) (hc:c<18446744073709551616) (hd:d<18446744073709551616):
 Calls prog 220 #[.slice (some ⟨j,0,none⟩) n cx,.slice (some ⟨l,0,none⟩) n cy,.int .u64 a,.int .u64 b,.int .u64 c,.int .u64 d] w fun e w'=>e=.returned (.tuple #[])/\
  ∃g i,Pre w' j g/\Pre w' l i/\g.length=X.length/\i.length=Y.length/\Small 18446744073709551616 g/\Small 18446744073709551616 i/\Took n a b g X Y/\Took n c d i Y X/\Two j l w w':=by
 obtain⟨av,aw,F,G⟩:=Ic hX hY sX sY;have H:l≠j:=fun h=>E h.symm
 clear hX hY sX sY;go_enter func220,ntmps220;go_wp2;go_loopw [12,13,14,15,16,17,31] (fun ax ay az a0 a1 a2 iv wr=>∃(k y z A B C D:Nat) (g i:Vy),k<=n/\y<18446744073709551616/\z<18446744073709551616/\A<18446744073709551616/\B<18446744073709551616/\C<=1/\D<=1/\
  ax=.int .u64 y/\ay=.int .u64 z/\az=.int .u64 A/\a0=.int .u64 B/\a1=.int .u64 C/\a2=.int .u64 D/\iv=.int .i64 k/\Pre wr j g/\Pre wr l i/\g.length=X.length/\i.length=Y.length/\Small 18446744073709551616 g/\Small 18446744073709551616 i/\
  (∀p,k<=p->g.getD p 0=X.getD p 0)/\(∀p,k<=p->i.getD p 0=Y.getD p 0)/\
  val 18446744073709551616 (g.take k)+b*val 18446744073709551616 (Y.take k)+18446744073709551616 ^ k*y=a*val 18446744073709551616 (X.take k)+18446744073709551616 ^ k*(z+C)/\
  val 18446744073709551616 (i.take k)+d*val 18446744073709551616 (X.take k)+18446744073709551616 ^ k*A=c*val 18446744073709551616 (Y.take k)+18446744073709551616 ^ k*(B+D)/\Two j l w wr) (fun _ _ _ _ _ _ iv _=>n - (intOf iv).toNat)
 case atStart=>exact⟨0,0,0,0,0,0,0,X,Y,by omega,by omega,by omega,by omega,by omega,by omega,by omega,rfl,rfl,rfl,rfl,rfl,rfl,rfl,av.o,aw.o,rfl,rfl,F.o,G.o,fun _ _=>rfl,fun _ _=>rfl,by simp[val],by simp[val],Two.refl _ _ _⟩
 case round=>
  obtain⟨k,y,z,A,B,C,D,g,i,hk,a3,a4,a5,a6,a7,a8,rfl,rfl,rfl,rfl,rfl,rfl,rfl,I,J,lX,lY,tX,tY,rX,rY,eX,eY,K⟩:=hrel;obtain⟨HP,HQ,m,q,L,M,N,O,t⟩:=Ih I J lX lY tX tY rX rY eX;obtain⟨x,P⟩:=Ia eY K;clear tX tY rX rY eX eY K;by_cases bn:k<n
  .
   obtain⟨u,Q⟩:=nm (X.getD k 0);obtain⟨v,R⟩:=nm (Y.getD k 0);have S:u<18446744073709551616:=by rw[<-Q];exact F.o.getD (by omega) k
   have T:v<18446744073709551616:=by rw[<-R];exact G.o.getD (by omega) k
   obtain⟨a9,lA,U,ba,V,W⟩:=Qde u a y S ha a3;obtain⟨bb,lB,Z,bc,aa,ab⟩:=Qde v b z T hb a4;obtain⟨bd,lC,ad,be,ae,af⟩:=Qde v c A T hc a5;obtain⟨bf,lD,ag,bg,ah,ai⟩:=Qde u d B S hd a6;obtain⟨r,bh,hr,aj,ak,bi⟩:=sub64 lA lB C ba bc a7;obtain⟨s,bj,hs,al,am,bk⟩:=sub64 lC lD D be bg a8;have g1:=I.free k;have g2:=I.cell k (by omega);rw[N.o k lZ,Q] at g2;have g3:=J.free k;have g4:=J.cell k (by omega);rw[O.o k lZ,R] at g4;obtain⟨an,ao,ap,aq,ar,au⟩:=Ie W ab af ai (Qjv (by omega) Q R V aa ak t.o) (Qjv (by omega) R Q ae ah am x.o);clear Q R W ab af ai V aa ae ah ak am I J lX lY;go_wp2_with fail;go_fit (an.o _);rintro e1 w1 ⟨rfl,f⟩;subst f;go_wp2_with fail;go_fit (ao.o _);rintro e1 w1 ⟨rfl,f⟩;subst f
   go_wp2_with fail;go_fit (ap.o _);rintro e1 w1 ⟨rfl,f⟩;subst f;go_wp2_with fail;go_fit (aq.o _);rintro e1 w1 ⟨rfl,f⟩;subst f;clear an ao ap aq;go_wp2_with (simp only[bi,bk]);go_roundw
   case rel=>
    refine⟨k+1,a9,bb,bd,bf,bh,bj,g.set k r,i.set k s,by omega,U,Z,ad,ag,aj,al,rfl,rfl,rfl,rfl,rfl,rfl,by go_num,(HP.o.set k r (by have:=m.o;omega)).other E _ _,(HQ.o.other H _ _).set k s (by have:=q.o;omega),by rw[List.length_set];exact m.o,by rw[List.length_set];exact q.o,L.o.set k hr,M.o.set k hs,?_,?_,ar.o,au.o,(P.o.set1 _ _).set2 _ _⟩
    .
     intro p hp;rw[getD_set_ne _ _ _ _ (by omega)];exact N.o p (by omega)
    .
     intro p hp;rw[getD_set_ne _ _ _ _ (by omega)];exact O.o p (by omega)
   case measure=>simp[intOf];omega
  .
   have e1:k=n:=by omega
   clear I J lX lY;go_wp2;go_end0;rw[e1] at t x;exact⟨rfl,g,i,HP.o,HQ.o,m.o,q.o,L.o,M.o,⟨y,z,C,t.o⟩,⟨A,B,D,x.o⟩,P.o⟩
structure LInv (a0 b0 st:Nat) (odd:Bool) (xx xy yx yy nX nY a b pa:Nat):Prop where
 ra:if odd then yx*a0=yy*b0+a else yy*b0=yx*a0+a
 rb:if odd then nY*b0=nX*a0+b else nX*a0=nY*b0+b
 ab:b≤a
 d1:if odd then yx*nY=yy*nX+1 else yy*nX=yx*nY+1
 n1:nX≤nY
 n2:1≤nY
 s0:st=0→odd=true∧xy=0∧yx=1∧yy=0∧nX=0
 s1:1≤st→yx≤yy∧1≤yy∧yy≤a∧a+xy+yy≤pa∧1≤nX
 dd:1≤st→if odd then xy*yx=xx*yy+1 else xx*yy=xy*yx+1
 rp:1≤st→if odd then xy*b0=xx*a0+pa else xx*a0=xy*b0+pa
 s2:st=1→xy=0
 s3:2≤st→xx≤xy∧1≤xy∧1≤yx
theorem LInv.start(a b:Nat)(h:b≤a):LInv a b 0 true 0 0 1 0 0 1 a b 0:=
 ⟨by simp,by simp,h,by simp,by omega,by omega,fun _=>⟨rfl,rfl,rfl,rfl,rfl⟩,fun h=>by omega,fun h=>by omega,fun h=>by omega,fun h=>by omega,fun h=>by omega⟩
theorem LInv.whole{d e n:Nat}{c:Bool}{o p f g i j a b q:Nat}(h:LInv d e n c o p f g i j a b q):d=j*a+g*b∧e=i*a+f*b:=by
 have k:=h.ra;have l:=h.rb;have m:=h.d1;cases c
 · simp only[Bool.false_eq_true,if_false] at k l m
   constructor<;>grind
 · simp only[if_true] at k l m
   constructor<;>grind
theorem LInv.next{v w l q r:Nat}{c:Bool}{A B m n g e a b C:Nat}(h:LInv v w l c A B m n g e a b C)(D:e≤b)(E:b+n+e≤a)(I:q*b+r=a)(J:r<b)(o:1≤q):
 LInv v w (min (l+1) 2) (!c) m n g e (m+q*g) (n+q*e) b r a:=by
 have d:=h.ra;have j:=h.rb;have k:=h.d1;have p:=h.n1;have s:=h.n2;have F:q*g≤q*e:=Nat.mul_le_mul_left q p;have G:e≤q*e:=by have:=Nat.mul_le_mul_right e o;omega
 have H:g≤q*g:=by have:=Nat.mul_le_mul_right g o;omega
 have i:l=0∨1≤l:=by omega
 have t:m+q*g≤n+q*e:=by
  rcases i with f|f
  · obtain⟨_,_,x,y,z⟩:=h.s0 f
    rw[x,y,z,Nat.mul_zero];omega
  · have:=(h.s1 f).1;omega
 have u:1≤m+q*g:=by
  rcases i with f|f
  · obtain⟨_,_,x,y,z⟩:=h.s0 f
    omega
  · have:=(h.s1 f).2.2.2.2;omega
 refine⟨?_,?_,by omega,?_,t,by omega,fun f=>by omega,fun _=>⟨p,s,D,by omega,u⟩,fun _=>?_,fun _=>?_,fun f=>?_,fun f=>?_⟩
 ·
  cases c
  · simp only[Bool.not_false,if_true,Bool.false_eq_true,if_false] at j ⊢;exact j
  · simp only[Bool.not_true,Bool.false_eq_true,if_false,if_true] at j ⊢;exact j
 ·
  cases c
  · simp only[Bool.not_false,if_true,Bool.false_eq_true,if_false] at d j ⊢;grind
  · simp only[Bool.not_true,Bool.false_eq_true,if_false,if_true] at d j ⊢;grind
 ·
  cases c
  · simp only[Bool.not_false,if_true,Bool.false_eq_true,if_false] at k ⊢;grind
  · simp only[Bool.not_true,Bool.false_eq_true,if_false,if_true] at k ⊢;grind
 ·
  cases c
  · simp only[Bool.not_false,if_true,Bool.false_eq_true,if_false] at k ⊢;exact k
  · simp only[Bool.not_true,Bool.false_eq_true,if_false,if_true] at k ⊢;exact k
 ·
  cases c
  · simp only[Bool.not_false,if_true,Bool.false_eq_true,if_false] at d ⊢;exact d
  · simp only[Bool.not_true,Bool.false_eq_true,if_false,if_true] at d ⊢;exact d
 ·
  rcases i with d|d
  · exact(h.s0 d).2.2.2.1
  · omega
 · have d:1≤l:=by omega
   exact⟨(h.s1 d).1,(h.s1 d).2.1,(h.s1 d).2.2.2.2⟩
structure Lehm (odd:Bool) (xx xy yx yy x y X Y:Nat):Prop where
 fx:if odd then xy*y=xx*x+X else xx*x=xy*y+X
 fy:if odd then yx*x=yy*y+Y else yy*y=yx*x+Y
 le:Y≤X
 bx:x=yy*X+xy*Y
 by':y=yx*X+xx*Y
 p1:1≤xy
 p2:1≤yx
 p3:1≤yy
theorem Qd8{u v z P:Nat}(b:z<P)(a:u≤v):u*z≤v*P:=Nat.mul_le_mul a (Nat.le_of_lt b)
theorem LInv.done{i j t:Nat}{g:Bool}{e d f c C D a b o P k l x y:Nat}(h:LInv i j t g e d f c C D a b o)(E:2≤t)(p:x=i*P+k)(q:y=j*P+l)(m:k<P)(n:l<P):∃X Y,Lehm g e d f c x y X Y:=by
 obtain⟨F,u,G,M,N⟩:=h.s1 (by omega);obtain⟨H,v,w⟩:=h.s3 E;have z:=h.ra;have A:=h.rp (by omega);have B:=h.dd (by omega);have O:=Qd8 m H;have Q:=Qd8 n (Nat.le_refl d);have R:=Qd8 m F;have S:=Qd8 n (Nat.le_refl c);have T:d*P+c*P+a*P≤o*P:=by rw[←Nat.add_mul,←Nat.add_mul];exact Nat.mul_le_mul_right _ (by omega)
 have U:c*P≤a*P:=Nat.mul_le_mul_right _ G;cases g
 ·
  simp only[Bool.false_eq_true,if_false] at z A B;have I:e*x=d*(j*P)+o*P+e*k:=by rw[p];grind
  have J:d*y=d*(j*P)+d*l:=by rw[q];grind
  have K:c*y=f*(i*P)+a*P+c*l:=by rw[q];grind
  have L:f*x=f*(i*P)+f*k:=by rw[p];grind
  obtain⟨X,r⟩:∃X,e*x=d*y+X:=⟨e*x - d*y,by omega⟩;obtain⟨Y,s⟩:∃Y,c*y=f*x+Y:=⟨c*y - f*x,by omega⟩;refine⟨X,Y,by simpa using r,by simpa using s,by omega,?_,?_,v,w,u⟩
  · grind
  · grind
 ·
  simp only[if_true] at z A B;have I:d*y=e*(i*P)+o*P+d*l:=by rw[q];grind
  have J:e*x=e*(i*P)+e*k:=by rw[p];grind
  have K:f*x=c*(j*P)+a*P+f*k:=by rw[p];grind
  have L:c*y=c*(j*P)+c*l:=by rw[q];grind
  obtain⟨X,r⟩:∃X,d*y=e*x+X:=⟨d*y - e*x,by omega⟩;obtain⟨Y,s⟩:∃Y,f*x=c*y+Y:=⟨f*x - c*y,by omega⟩;refine⟨X,Y,by simpa using r,by simpa using s,by omega,?_,?_,v,w,u⟩
  · grind
  · grind
theorem Lehm.gcd{a:Bool}{b c d e x y X Y:Nat}(h:Lehm a b c d e x y X Y):Nat.gcd X Y=Nat.gcd x y:=by
 apply Nat.dvd_antisymm
 ·
  apply Nat.dvd_gcd
  · rw[h.bx]
    exact Nat.dvd_add (Nat.dvd_trans (Nat.gcd_dvd_left X Y) (Nat.dvd_mul_left X e)) (Nat.dvd_trans (Nat.gcd_dvd_right X Y) (Nat.dvd_mul_left Y c))
  · rw[h.by']
    exact Nat.dvd_add (Nat.dvd_trans (Nat.gcd_dvd_left X Y) (Nat.dvd_mul_left X d)) (Nat.dvd_trans (Nat.gcd_dvd_right X Y) (Nat.dvd_mul_left Y b))
 ·
  have j:=Nat.gcd_dvd_left x y;have k:=Nat.gcd_dvd_right x y;have f1:=h.fx;have f2:=h.fy;generalize Nat.gcd x y=g at*;have f:∀u,g ∣ u*x:=fun u=>Nat.dvd_trans j (Nat.dvd_mul_left x u)
  have i:∀u,g ∣ u*y:=fun u=>Nat.dvd_trans k (Nat.dvd_mul_left y u)
  apply Nat.dvd_gcd
  ·
   cases a
   · simp only[Bool.false_eq_true,if_false] at f1
     exact(Nat.dvd_add_right (i c)).1 (f1 ▸ f b)
   · simp only[if_true] at f1
     exact(Nat.dvd_add_right (f b)).1 (f1 ▸ i c)
  ·
   cases a
   · simp only[Bool.false_eq_true,if_false] at f2
     exact(Nat.dvd_add_right (f d)).1 (f2 ▸ i e)
   · simp only[if_true] at f2
     exact(Nat.dvd_add_right (i e)).1 (f2 ▸ f d)
theorem Lehm.less{a:Bool}{d e f g x y X Y:Nat}(h:Lehm a d e f g x y X Y)(i:0<y):X≤y∧X+Y<x+y:=by
 have j:=h.bx;have c:=h.by';have k:=Nat.mul_le_mul_right X h.p3;have l:=Nat.mul_le_mul_right Y h.p1;have m:=Nat.mul_le_mul_right X h.p2;have n:=h.le;have o:0<X:=by
  rcases Nat.eq_zero_or_pos X with b|b
  ·
   have:Y=0:=by omega
   rw[b,this] at c;simp at c;omega
  · exact b
 constructor<;>omega
theorem Qjs(d e s:Nat)(hs:s<64)(f:d*2 ^ s<18446744073709551616)(i:e<18446744073709551616):∃lo g b r:Nat,IntKind.u64.wrap ((d:Int)*2 ^ s)=(lo:Int)/\(e:Int) / 2 ^ (64 - s)=(g:Int)/\bits .or .u64 (lo:Int) (g:Int)=(b:Int)/\b<18446744073709551616/\r<2 ^ (64 - s)/\b*2 ^ (64 - s)+r=e+18446744073709551616*d:=by
 have c:=Qbw (s:=s) (by omega);have j:=Qfn (lo:=e) (s:=s) (by omega) i;have n:=Nat.div_add_mod e (2 ^ (64 - s));have h:2 ^ s*d+e / 2 ^ (64 - s)<18446744073709551616:=by
  have k:d+1<=2 ^ (64 - s):=by
   apply Nat.lt_of_mul_lt_mul_left (a:=2 ^ s);rw[c,Nat.mul_comm];exact f
  have l:=Nat.mul_le_mul_left (2 ^ s) k;rw[c,Nat.mul_add,Nat.mul_one] at l;omega
 refine⟨d*2 ^ s,e / 2 ^ (64 - s),2 ^ s*d+e / 2 ^ (64 - s),e % 2 ^ (64 - s),?_,?_,?_,h,Nat.mod_lt _ (Nat.two_pow_pos _),?_⟩
 . rw[show (d:Int)*2 ^ s=((d*2 ^ s:Nat):Int) by rw[Int.natCast_mul,Int.natCast_pow];rfl,Qb8 _ f]
 . rw[Int.natCast_ediv,Int.natCast_pow];rfl
 . exact or64 _ _ d (e / 2 ^ (64 - s)) s (by rw[Nat.mul_comm]) rfl j h
 .
  have m:2 ^ s*d*2 ^ (64 - s)=18446744073709551616*d:=by rw[Nat.mul_right_comm,c]
  rw[Nat.add_mul,m,Nat.mul_comm (e / 2 ^ (64 - s))];omega
theorem Qjt{l:Vy}{x N:Nat}(h:Num 18446744073709551616 l x)(hl:l.length<=N+2):∃a,a<18446744073709551616 ^ N/\x=a+18446744073709551616 ^ N*(l.getD N 0+18446744073709551616*l.getD (N+1) 0):=by
 refine⟨val 18446744073709551616 (l.take N),?_,?_⟩
 . have b:=Qaa (B:=18446744073709551616) (by decide) (h.small.take N)
   exact Nat.lt_of_lt_of_le b (Nat.pow_le_pow_right (by decide) (by rw[List.length_take];omega))
 .
  have b:=Qac 18446744073709551616 l (N+1);rw[List.take_of_length_le (by omega),h.eq,Qac,Nat.pow_succ] at b;rw[b,Nat.mul_add,Nat.mul_assoc];omega
structure Highs (x y a b P x' y':Nat):Prop where
 hx:x=a*P+x'
 hy:y=b*P+y'
 hx':x'<P
 hy':y'<P
 ab:b<=a
 ha:a<18446744073709551616
theorem Qrl{x y c d N s d1 d0 e g a b r t:Nat}(h:y<=x)(i:x=c+18446744073709551616 ^ N*(d0+18446744073709551616*d1))(j:y=d+18446744073709551616 ^ N*(g+18446744073709551616*e))(k:c<18446744073709551616 ^ N)(l:d<18446744073709551616 ^ N)
 (m:a*2 ^ (64 - s)+r=d0+18446744073709551616*d1) (n:b*2 ^ (64 - s)+t=g+18446744073709551616*e) (o:r<2 ^ (64 - s)) (q:t<2 ^ (64 - s)) (f:a<18446744073709551616):∃P u v,Highs x y a b P u v:=by
 generalize 18446744073709551616 ^ N=M at*;generalize 2 ^ (64 - s)=p at*;have w:M*(r+1)<=M*p:=Nat.mul_le_mul_left M o;have z:M*(t+1)<=M*p:=Nat.mul_le_mul_left M q;rw[Nat.mul_add,Nat.mul_one] at w z;have e:x=a*(M*p)+(c+M*r):=by rw[i,<-m];grind
 have A:y=b*(M*p)+(d+M*t):=by rw[j,<-n];grind
 refine⟨M*p,c+M*r,d+M*t,e,A,by omega,by omega,?_,f⟩;apply bC;intro C;have B:(a+1)*(M*p)<=b*(M*p):=Nat.mul_le_mul_right _ (by omega);rw[Nat.add_mul,Nat.one_mul] at B;omega
theorem Qrm(N:Nat)(l m:Vy)(x y:Nat)(v:Num 18446744073709551616 l x)(E:Num 18446744073709551616 m y)(F:y<=x)(hl:l.length=N+2)(ad:l.length<=1099511627776):
 ∃a b:Nat,(∃P x' y',Highs x y a b P x' y')/\∀(W G:Vx) (c1 c2:Nat) (w:Vz),U64 w W c1 l x->U64 w G c2 m y->Calls prog 213 #[.slice W l.length c1,.slice G m.length c2] w fun e w'=>e=.returned (.tuple #[.int .u64 (a:Int),.int .u64 (b:Int)])/\Below w.heap.size w w':=by
 have H:m.length<=N+2:=by
  apply bC;intro hc;have:=Qav (B:=18446744073709551616) (by decide) v.small E.trim (by omega);rw[v.eq,E.eq] at this;omega
 have g:m.length<=1099511627776:=by omega
 obtain⟨lx,I,X⟩:=Qjt v (N:=N) (by omega);obtain⟨ly,J,Y⟩:=Qjt E (N:=N) H;obtain⟨d1,j⟩:∃d,l.getD (N+1) 0=d:=⟨_,rfl⟩;obtain⟨d0,n⟩:∃d,l.getD N 0=d:=⟨_,rfl⟩;obtain⟨f1,z⟩:∃d,m.getD (N+1) 0=d:=⟨_,rfl⟩;obtain⟨f0,q⟩:∃d,m.getD N 0=d:=⟨_,rfl⟩;have K:d1<18446744073709551616:=by rw[<-j];exact v.small.getD (by omega) _
 have M:d0<18446744073709551616:=by rw[<-n];exact v.small.getD (by omega) _
 have O:f0<18446744073709551616:=by rw[<-q];exact E.small.getD (by omega) _
 have Q:0<d1:=by
  obtain⟨_,t,V,_,_,h,_⟩:=Qjp v (N:=N+1) (by omega);rw[<-j,V];exact h
 rw[j,n] at X;rw[z,q] at Y;have Z:f1<=d1:=by
  apply bC;intro hc;have k1:18446744073709551616 ^ N*(d0+18446744073709551616*d1+1)<=18446744073709551616 ^ N*(f0+18446744073709551616*f1):=Nat.mul_le_mul_left _ (by omega);rw[Nat.mul_add _ _ 1,Nat.mul_one] at k1;omega
 obtain⟨s,u,hs,R,k⟩:=Qfl d1 Q K;have c:=Hi (fun w=>Qfk (d1:Int) w (by omega) (by omega));rw[hs] at c;obtain⟨lo,hi,a,r,u1,u2,u3,aa,hr,S⟩:=Qjs d1 d0 s u k M;obtain⟨ae,af,b,t,v1,v2,v3,ag,V,T⟩:=Qjs f1 f0 s u (Nat.lt_of_le_of_lt (Nat.mul_le_mul_right _ Z) k) O;refine⟨a,b,Qrl F X Y I J S T hr V aa,?_⟩;intro W G c1 c2 w h1 h2;obtain⟨b1,o1,rfl,ah,U⟩:=h1.row.cell (N+1) (by omega);obtain⟨b2,o2,e2,ai,ab⟩:=h1.row.cell N (by omega);obtain⟨rfl,rfl⟩:b1=b2/\o1=o2:=by simp at e2;exact e2
 clear e2;have f:=Qb1 G c2 m (N+1);have i:=Qb1 G c2 m N;rw[z] at f;rw[q] at i;rw[j] at U;rw[n] at ab;obtain⟨D,f,i⟩:=Ib h2 f i;obtain⟨L,hL⟩:=nm l.length;obtain⟨p,hp⟩:=nm (N+1);rw[hL];rw[hp] at U f;have w1:IntKind.i64.wrap ((L:Int) - 1)=(p:Int):=by rw[wrap_i64 _ (by omega) (by omega)];omega
 have w2:IntKind.i64.wrap ((L:Int) - 2)=(N:Int):=by rw[wrap_i64 _ (by omega) (by omega)];omega
 have w3:IntKind.i64.wrap (64 - (s:Int))=((64 - s:Nat):Int):=by rw[wrap_i64 _ (by omega) (by omega)];omega
 have i1:(p:Int)<(L:Int):=by omega
 have i2:(N:Int)<(L:Int):=by omega
 have A:p<=2199023255552:=by omega
 have C:N<=2199023255552:=by omega
 clear h1 h2 v E X Y I J S T hr V R k j n z q hs F hl H hp;go_enter func213,ntmps213;go_wp2_with fail;go_fit (c.o _);rintro e w2 ⟨rfl,hw⟩;subst hw;clear c;go_wp2_with fail;go_region
 all_goals
  go_wp2_with fail;go_region_held3 (fun _=>True) (trivial) (first
   |(
    go_at_call 199
    first
     |go_fit (f.o _ (D.o.row) g A)
     |go_fit (f.o _ (D.o.drew.row) g A)
     |go_fit (f.o _ (D.o.drew.drew.row) g A)
     |go_fit (i.o _ (D.o.row) g C)
     |go_fit (i.o _ (D.o.drew.row) g C)
     |go_fit (i.o _ (D.o.drew.drew.row) g C)
    rintro e w6 ⟨rfl,hw⟩
    subst hw))
  all_goals
   go_wp2;go_ret2;exact⟨rfl,bR.drew.drew⟩
theorem SB.apart{w:Vz}{b g:Nat}{t:Vr}{C:Vw}(h:SB w b t C)(a:b≠g)(i:Nat)(v:Value):SB (w.setCell ⟨g,i,none⟩ v) b t C:=by
 unfold SB at h ⊢;rw[Below.heap_setCell _ _ _ _ a];exact h
def StepsVal(odd:Bool)(xx xy yx yy:Nat):Value:=.agg #[.int .u64 xx,.int .u64 xy,.int .u64 yx,.int .u64 yy,.bool odd]
structure Steps (x y:Nat) (odd:Bool) (xx xy yx yy:Nat):Prop where
 bxx:xx<18446744073709551616
 bxy:xy<18446744073709551616
 byx:yx<18446744073709551616
 byy:yy<18446744073709551616
 go:0<xy->∃X Y,Lehm odd xx xy yx yy x y X Y
def StepsSaid(x y:Nat)(w:Vz)(e:Ending)(w':Vz):Prop:=(∃odd xx xy yx yy,e=.returned (StepsVal odd xx xy yx yy)/\Steps x y odd xx xy yx yy)/\Below w.heap.size w w'
theorem LInv.small{d k f:Nat}{g:Bool}{l m i c j e a b n:Nat}(h:LInv d k f g l m i c j e a b n)(o:1<=b):j<=d/\e+c<=d/\i<=d+1:=by
 have p:=h.whole;have q:=h.ab;have r:e*1<=e*a:=Nat.mul_le_mul_left _ (by omega);have s:c*1<=c*b:=Nat.mul_le_mul_left _ o;have t:=h.n1;have u:i<=c+1:=by
  rcases(show f=0∨1<=f by omega) with h0|h0
  . have:=h.s0 h0;omega
  . have:=h.s1 h0;omega
 refine⟨by omega,by omega,by have:=h.n2;omega⟩
theorem LInv.step{j o p:Nat}{g:Bool}{t w k f i c a b x:Nat}(h:LInv j o p g t w k f i c a b x)(y:c<=b)(l:b+f+c<=a):∃q r u v d e:Nat,(a:Int) / (b:Int)=(q:Int)/\Int.tdiv (a:Int) (b:Int)=(q:Int)/\(a:Int) % (b:Int)=(r:Int)/\Int.tmod (a:Int) (b:Int)=(r:Int)/\(q:Int)*(i:Int)=(u:Int)/\(q:Int)*(c:Int)=(v:Int)/\(k:Int)+(u:Int)=(d:Int)/\(f:Int)+(v:Int)=(e:Int)/\
 d<=j/\e<=j/\u<=d/\v<=e/\r<b/\q<=a/\LInv j o (min (p+1) 2) (!g) k f i c d e b r a:=by
 have z:=h.n2;have A:a / b*b+a % b=a:=by rw[Nat.mul_comm];exact Nat.div_add_mod a b
 have s:a % b<b:=Nat.mod_lt _ (by omega);have m:1<=a / b:=(Nat.one_le_div_iff (by omega)).2 (by omega);have n:=h.next y l A s m;have B:=n.whole;have C:=n.n1;have D:(f+a / b*c)*1<=(f+a / b*c)*b:=Nat.mul_le_mul_left _ (by omega);refine⟨a / b,a % b,a / b*i,a / b*c,k+a / b*i,f+a / b*c,rfl,rfl,rfl,rfl,(Int.natCast_mul _ _).symm,(Int.natCast_mul _ _).symm,(Int.natCast_add _ _).symm,(Int.natCast_add _ _).symm,by omega,by omega,by omega,by omega,s,Nat.div_le_self _ _,n⟩
theorem Tryz.stepsInfo:(prog.info? 234).map (·.size)=some 5:=by kernel_rfl
theorem LInv.steps{j k d:Nat}{c:Bool}{e f g i l m a b n P o p x y:Nat}(h:LInv j k d c e f g i l m a b n)(H:Highs x y j k P o p)(q:e<18446744073709551616)(r:f<18446744073709551616)(s:g<18446744073709551616)(t:i<18446744073709551616):Steps x y c e f g i:=by
 refine⟨by omega,by omega,by omega,by omega,fun u=>?_⟩;rcases(show d=0∨d=1∨2<=d by omega) with h1|h1|h1
 . have:=h.s0 h1;omega
 . have:=h.s2 h1;omega
 . exact h.done h1 H.hx H.hy H.hx' H.hy'
theorem Qrq(L M:Vx)(c1 c2 N:Nat)(l m:Vy)(x y:Nat)(w:Vz)(H:U64 w L c1 l x)(O:U64 w M c2 m y)(C:y<=x)(hl:l.length=N+2):
 Calls prog 192 #[.slice L l.length c1,.slice M m.length c2] w (StepsSaid x y w):=by
 obtain⟨I,Q,⟨P,x',y',J⟩,hC⟩:=Qrm N l m x y H.num O.num C hl H.short;obtain⟨HC,HH⟩:=Ia hC J;have an:=J.ha;have S:=J.ab;obtain⟨H1,H2⟩:=Ia H O;clear J hC H O C hl;go_enter func192,ntmps192;go_wp2_with fail;go_fit (HC.o L M c1 c2 _ (H1.o.below (bR.alloc lZ _)) (H2.o.below (bR.alloc lZ _)));rintro e w1 ⟨rfl,A⟩;have HB:=Hi ((bR.alloc lZ _).trans (A.mono (by rw[World.size_alloc];omega)));have hs:=SB.below (SB.new w _ _) A (by rw[World.size_alloc];omega);obtain⟨R,D⟩:=nm w.heap.size;obtain⟨g,K⟩:=nm w1.heap.size;have h:R<g:=by rw[<-K,<-D];exact hs.lt
 have HS:=Hi hs;rw[D] at HB HS;clear A HC hs;go_wp2_with fail
 try rw[K]
 try rw[D]
 obtain⟨HG,HR⟩:=Ia K D;clear K D;go_loopw [5,6,8,9] (fun av T U V wr=>∃(W:Nat) (c:Bool) (j k i d E n a b pa:Nat),av=.int .u64 a/\T=.int .u64 b/\U=.int .u64 E/\V=.int .u64 n/\a<=I/\E<18446744073709551616/\n<18446744073709551616/\j<18446744073709551616/\k<18446744073709551616/\i<18446744073709551616/\d<18446744073709551616/\LInv I Q W c j k i d E n a b pa/\
  SB wr g 234 #[.int .u64 j,.int .u64 k,.int .u64 i,.int .u64 d,.bool c]/\SB wr R 234 #[.int .u64 0,.int .u64 0,.int .u64 0,.int .u64 0,.bool false]/\Below R w wr) (fun _ T _ _ _=>(intOf T).toNat)
 case atStart=>
  refine⟨0,true,0,0,1,0,0,1,I,Q,0,rfl,rfl,rfl,rfl,by omega,by omega,by omega,by omega,by omega,by omega,by omega,LInv.start I Q S,?_,HS.o.alloc _,HB.o.alloc (by rw[HG.o];omega) _⟩;rw[<-HG.o];exact SB.new _ _ _
 case round=>
  obtain⟨W,c,j,k,i,d,E,n,a,b,pa,rfl,rfl,rfl,rfl,ao,X,Y,F,G,p,s,Z,hs,f,A⟩:=hrel;obtain⟨B,aa,t,z⟩:=Ic Z hs f A;have k0:=hs.cell 0;have k1:=hs.cell 1;have k2:=hs.cell 2;have k3:=hs.cell 3;have k4:=hs.cell 4;have f0:=hs.free 0;have f1:=hs.free 1;have f2:=hs.free 2;have f3:=hs.free 3;have f4:=hs.free 4;have r0:=f.cell 0;have r1:=f.cell 1;have r2:=f.cell 2;have r3:=f.cell 3;have r4:=f.cell 4;have q0:=f.free 0;have q1:=f.free 1;have q2:=f.free 2;have q3:=f.free 3;have q4:=f.free 4;simp at k0 k1 k2 k3 k4 r0 r1 r2 r3 r4;have ap:=Z.ab;clear hs f A Z;by_cases ad:n<=b
  .
   have ae:=B.o.small (by have:=B.o.n2;omega);obtain⟨ai,aj,ak⟩:=ae;by_cases af:b+d+n<=a
   .
    obtain⟨q,r,u,v,ag,ah,d1,d2,d3,d4,d5,d6,d7,d8,al,am,hu,hv,f,aq,hN⟩:=B.o.step ad af;have HN:=Hi hN;clear hN;have t1:((b:Int) == 0)=false:=by rw[beq_eq_false_iff_ne];have:=B.o.n2;omega
    have t2:decide ((d:Int)+(n:Int)<=(a:Int) - (b:Int))=true:=by simp;omega
    clear r0 r1 r2 r3 r4 q0 q1 q2 q3 q4;go_wp2_with fail;go_region
    all_goals
     go_wp2;refine⟨⟨min (W+1) 2,!c,i,d,E,n,ag,ah,b,r,a,rfl,rfl,rfl,rfl,by omega,by omega,by omega,p,s,X,Y,HN.o,?_,?_,?_⟩,?_⟩
     . exact SB.drew (((((aa.o.set 0 _).set 2 _).set 1 _).set 3 _).set 4 _)
     . refine SB.drew (SB.apart (SB.apart (SB.apart (SB.apart (SB.apart t.o ?_ 0 _) ?_ 2 _) ?_ 1 _) ?_ 3 _) ?_ 4 _)
       all_goals omega
     . exact(((((z.o.setCell (Nat.le_of_lt h) _).setCell (Nat.le_of_lt h) _).setCell (Nat.le_of_lt h) _).setCell (Nat.le_of_lt h) _).setCell (Nat.le_of_lt h) _).drew
     . simp[intOf];omega
   .
    have t1:((a:Int) - (b:Int)≥(d:Int)+(n:Int))=False:=by simp;omega
    have t2:decide ((d:Int)+(n:Int)<=(a:Int) - (b:Int))=false:=by simp;omega
    go_wp2;refine bodyPost_ret (v:=StepsVal c j k i d) (results_cell_row rfl _ _ R 234 #[.int .u64 j,.int .u64 k,.int .u64 i,.int .u64 d,.bool c] (0,0) _ rfl (((((t.o.set 0 _).set 1 _).set 2 _).set 3 _).set 4 _) underlying234 rfl Tryz.stepsInfo) rfl ?_;exact⟨⟨c,j,k,i,d,rfl,B.o.steps HH.o F G p s⟩,by rw[HR.o];exact((((z.o.setCell lZ _).setCell lZ _).setCell lZ _).setCell lZ _).setCell lZ _⟩
  .
   go_wp2;refine bodyPost_ret (v:=StepsVal c j k i d) (results_cell_row rfl _ _ R 234 #[.int .u64 j,.int .u64 k,.int .u64 i,.int .u64 d,.bool c] (0,0) _ rfl (((((t.o.set 0 _).set 1 _).set 2 _).set 3 _).set 4 _) underlying234 rfl Tryz.stepsInfo) rfl ?_;exact⟨⟨c,j,k,i,d,rfl,B.o.steps HH.o F G p s⟩,by rw[HR.o];exact((((z.o.setCell lZ _).setCell lZ _).setCell lZ _).setCell lZ _).setCell lZ _⟩
theorem Qrr(b:Bool)(c a d f:Nat)(w:Vz):
 Calls prog 193 #[StepsVal b c a d f] w fun e w'=>e=.returned (.bool (decide (a=0)))/\Below w.heap.size w w':=by
 rw[show (decide (a=0))=((a:Int) == 0) by by_cases h:a=0<;>simp[h]];unfold StepsVal;go_enter func193,ntmps193;go_wp2;go_ret;exact⟨rfl,bR.alloc lZ _⟩
theorem Qjx{w:Vz}{g cap n:Nat}{C l:Vy}{x:Nat}(h:ON w g cap C l x)(a:n<=l.length):∃t,x=val 18446744073709551616 (C.take n)+18446744073709551616 ^ n*t:=by
 refine⟨val 18446744073709551616 (l.drop n),?_⟩;have e:C.take n=l.take n:=by
  have:=congrArg (List.take n) h.fro;rw[List.take_take,Nat.min_eq_left a] at this;exact this
 rw[e,<-Qah _ _ _ a];exact h.num.eq.symm
theorem ON.lt{w:Vz}{g cap:Nat}{C l:Vy}{x:Nat}(h:ON w g cap C l x):x<18446744073709551616 ^ l.length:=by
 have:=Qaa (B:=18446744073709551616) (by decide) h.num.small;rw[h.num.eq] at this;exact this
def Both(w:Vz)(gx gy X Y:Nat)(e:Ending):Prop:=∃ga gb ca cb Ca Cb la lb,e=.returned (.tuple #[.slice (some ⟨ga,0,none⟩) (List.length la) ca,.slice (some ⟨gb,0,none⟩) (List.length lb) cb])/\ON w ga ca Ca la X/\ON w gb cb Cb lb Y/\((ga=gx/\gb=gy)∨(ga=gy/\gb=gx))
theorem Qrs(c:Bool)(H I J K:Nat)(j k v A:Nat)(Cx Cy l m:Vy)(x y X Y:Nat)(w:Vz)(d:ON w j v Cx l x)(g:ON w k A Cy m y)(af:j≠k)(ap:y<=x)(z:Steps x y c H I J K)(hL:Lehm c H I J K x y X Y)(hy:0<y)(B:Nat)(ag:B<=j)(ah:B<=k):
 Calls prog 195 #[StepsVal c H I J K,.slice (some ⟨j,0,none⟩) l.length v,.slice (some ⟨k,0,none⟩) m.length A] w fun e w'=>Both w' j k X Y e/\Below B w w':=by
 have hl:=hL.less hy;have aq:=g.num.length_le_of_lt (by decide) (Nat.lt_of_le_of_lt ap d.lt);have L:=d.fit;have M:=g.fit;have N:=d.le;have P:=g.le;have Q:=d.len;have R:=g.len;have C:=Nat.lt_of_le_of_lt hl.1 g.lt;have S:=Nat.lt_of_le_of_lt (by have:=hL.le;omega) C;have tx:=Qjx d aq;have ty:=Qjx g lZ;have fx:=hL.fx;have fy:=hL.fy;have i:=Hi (⟨C,S,tx,ty⟩:X<18446744073709551616 ^ m.length/\Y<18446744073709551616 ^ m.length/\_/\_);obtain⟨wa,n⟩:=nm (w.alloc (.cells #[Value.int .u64 H,.int .u64 I,.int .u64 J,.int .u64 K,.bool c] 234));obtain⟨gs,hg⟩:=nm w.heap.size;have f:Below w.heap.size w wa:=by rw[<-n];exact(Below.refl _ _).alloc lZ _
 have a:SB wa gs 234 #[Value.int .u64 H,.int .u64 I,.int .u64 J,.int .u64 K,.bool c]:=by rw[<-n,<-hg];exact SB.new _ _ _
 have p1:=d.pre.below f d.pre.lt;have p2:=g.pre.below f g.pre.lt;have HB:O (Below B w wa):=Hi (f.mono (by have:=d.pre.lt;omega));have ai:O (B<=wa.heap.size):=Hi (by have:=d.pre.lt;have:=f.size;omega);have k0:=a.cell 0;have k1:=a.cell 1;have k2:=a.cell 2;have k3:=a.cell 3;have k4:=a.cell 4;simp at k0 k1 k2 k3 k4;obtain⟨HW,HG,aj,ak,D,E,ar,au⟩:=Ig n hg Q R N P L M;have al:m.length<=v:=by omega
 have am:m.length<=A:=by omega
 obtain⟨an,ao⟩:=Ia al am;have im:(m.length:Int)<=(v:Int):=by omega
 have av:(0:Int)<=(m.length:Int):=by omega
 unfold StepsVal;cases c
 .
  simp only[Bool.false_eq_true,if_false] at fx fy;obtain⟨p,T,U⟩:=Ib (Qjw j k m.length v A H I K J Cx Cy wa p1 p2 af d.small g.small (by omega) (by omega) (by omega) (by omega) (by omega) z.bxx z.bxy z.byy z.byx) fx fy;clear d g z hL hl C S tx ty fx fy p1 p2 f a n hg Q R N P L M;go_enter func195,ntmps195;go_wp2_with fail;rw[HW.o,HG.o];go_wp2_with fail;go_fit p.o;rintro e w2 ⟨rfl,X2,Y2,q,r,F,G,V,W,oX,oY,s⟩;obtain⟨Z,aa⟩:=Ia (Qdd j m.length v X X2 w2 q V (by rw[F];exact aj.o) (by rw[F];have:=D.o;omega) an.o (oX.end V (by rw[F];have:=D.o;omega) i.o.2.2.1 i.o.2.2.2 T.o i.o.1)) (Qdd k m.length A Y Y2 w2 r W (by rw[G];exact ak.o) (by rw[G];have:=E.o;omega) ao.o (oY.end W (by rw[G];have:=E.o;omega) i.o.2.2.2 i.o.2.2.1 U.o i.o.2.1))
  have ab:=Hi (HB.o.trans (s.below ag ah ai.o));clear q r F G V W oX oY s p k0 k1 k2 k3 k4;go_wp2_with fail;go_fit Z.o;rintro e w3 ⟨⟨r1,rfl,t,_⟩,b⟩;subst b;have ad:=Hi t;clear t;go_wp2_with fail;go_fit aa.o;rintro e w3 ⟨⟨r2,rfl,u,_⟩,b⟩;subst b;have ae:=Hi u;clear u;go_wp2;go_ret2;exact⟨⟨j,k,v,A,X2,Y2,r1,r2,rfl,ad.o,ae.o,.inl ⟨rfl,rfl⟩⟩,ab.o⟩
 .
  simp only[if_true] at fx fy;obtain⟨p,T,U⟩:=Ib (Qjw k j m.length A v I H J K Cy Cx wa p2 p1 (fun h=>af h.symm) g.small d.small (by omega) (by omega) (by omega) (by omega) (by omega) z.bxy z.bxx z.byx z.byy) fx fy;clear d g z hL hl C S tx ty fx fy p1 p2 f a n hg Q R N P L M;go_enter func195,ntmps195;go_wp2_with fail;rw[HW.o,HG.o];go_wp2_with fail;go_fit p.o;rintro e w2 ⟨rfl,X2,Y2,q,r,F,G,V,W,oX,oY,s⟩;obtain⟨Z,aa⟩:=Ia (Qdd k m.length A X X2 w2 q V (by rw[F];exact ak.o) (by rw[F];have:=E.o;omega) ao.o (oX.end V (by rw[F];have:=E.o;omega) i.o.2.2.2 i.o.2.2.1 T.o i.o.1)) (Qdd j m.length v Y Y2 w2 r W (by rw[G];exact aj.o) (by rw[G];have:=D.o;omega) an.o (oY.end W (by rw[G];have:=D.o;omega) i.o.2.2.1 i.o.2.2.2 U.o i.o.2.1))
  have ab:=Hi (HB.o.trans (s.below ah ag ai.o));clear q r F G V W oX oY s p k0 k1 k2 k3 k4;go_wp2_with fail;go_fit Z.o;rintro e w3 ⟨⟨r1,rfl,t,_⟩,b⟩;subst b;have ad:=Hi t;clear t;go_wp2_with fail;go_fit aa.o;rintro e w3 ⟨⟨r2,rfl,u,_⟩,b⟩;subst b;have ae:=Hi u;clear u;go_wp2;go_ret2;exact⟨⟨k,j,A,v,X2,Y2,r1,r2,rfl,ad.o,ae.o,.inr ⟨rfl,rfl⟩⟩,ab.o⟩
theorem U64.uniq{w:Vz}{a:Vx}{c p:Nat}{l f:Vy}{n n':Nat}(h:U64 w a c l n)(k:U64 w a p f n')(hl:l.length=f.length):n=n':=by
 have e:l=f:=by
  apply List.ext_getElem hl;intro i m o;obtain⟨b,g,q,_,d1⟩:=h.row.cell i m;obtain⟨r,d,j,_,d2⟩:=k.row.cell i o;rw[q] at j;obtain⟨rfl,rfl⟩:b=r/\g=d:=by simp at j;exact j
  rw[d1] at d2;simp only[Option.some.injEq,Value.int.injEq,true_and] at d2;have d3:l.getD i 0=f.getD i 0:=by omega
  rw[List.getD_eq_getElem?_getD,List.getD_eq_getElem?_getD,gE m,gE o] at d3
  simpa using d3
 rw[<-h.num.eq,<-k.num.eq,e]
open Classical in
theorem Qrd:∃f:World->Value->Nat,∀(w:Vz) (a:Vx) (c:Nat) (l:Vy) (n:Nat),U64 w a c l n->f w (.slice a l.length c)=n:=by
 have h:∀(w:Vz) (v:Value),∃n:Nat,∀(a:Vx) (c:Nat) (l:Vy) (m:Nat),v=.slice a l.length c->U64 w a c l m->n=m:=by
  intro w v;by_cases g:∃n a c l,v=.slice a (List.length l) c/\U64 w a c l n
  .
   obtain⟨n,a,c,l,rfl,b⟩:=g;refine⟨n,fun o q r m e d=>?_⟩;simp only[Value.slice.injEq] at e;obtain⟨rfl,i,rfl⟩:=e;exact b.uniq d i
  . exact⟨0,fun a c l m e d=>absurd ⟨m,a,c,l,e,d⟩ g⟩
 have j:∀p:World × Value,∃n:Nat,∀(a:Vx) (c:Nat) (l:Vy) (m:Nat),p.2=.slice a l.length c->U64 p.1 a c l m->n=m:=fun p=>h p.1 p.2
 obtain⟨f,k⟩:=Classical.axiomOfChoice j;exact⟨fun w v=>f (w,v),fun w a c l n b=>k (w,.slice a l.length c) a c l n rfl b⟩
theorem U64.len_mono{w w':Vz}{a b:Vx}{c d:Nat}{l m:Vy}{x y:Nat}(h:U64 w a c l x)(k:U64 w' b d m y)(e:x<=y):l.length<=m.length:=
 h.num.length_le_of_lt (by decide) (Nat.lt_of_le_of_lt e (by have:=Qaa (B:=18446744073709551616) (by decide) k.num.small;rw[k.num.eq] at this;exact this))
theorem Qre{l:Vy}{x:Nat}(h:Num 18446744073709551616 l x)(a:l.length=1):l.getD 0 0=x:=by
 rw[<-h.eq]
 match l,a with
 | [z],_=>simp[val]
structure HoldsC (w:Vz) (p:Addr) (v:Value) (wl:Vz):Prop where
 b:Bl w wl
 c:wl.cell? p=some v
theorem HoldsC.drew{w:Vz}{p:Addr}{v:Value}{a:Vz}(h:HoldsC w p v a):HoldsC w p v a.drew:=⟨h.b.drew,h.c⟩
theorem HoldsC.below{w:Vz}{p:Addr}{v:Value}{a w':Vz}(h:HoldsC w p v a)(d:p.block<w.heap.size)(k:Bl a w'):HoldsC w p v w':=
 ⟨h.b.trans (k.mono h.b.size),(k.cell (Nat.lt_of_lt_of_le d h.b.size)).trans h.c⟩
theorem Qrf(w:Vz)(f:Addr)(v:Value)(k:f.block<w.heap.size)(a:Vx)(cap d:Nat)(l:Vy)(x:Nat)(h:U64 w a cap l x)(g:0<d)(m:d<18446744073709551616)(c:Vz)(i:HoldsC w f v c):
 Calls prog 197 #[.slice a l.length cap,.int .u64 d] c fun e w'=>e=.returned (.int .u64 ((x % d:Nat):Int))/\HoldsC w f v w'/\Below c.heap.size c w':=by
 refine(Qrp a cap d l x c (h.below i.b) g m).mono ?_;rintro e w' ⟨rfl,j⟩;exact⟨rfl,i.below k j,j⟩
theorem Qrg(w:Vz)(b:Addr)(v:Value)(d:b.block<w.heap.size)(x y:Nat)(f:x<18446744073709551616)(g:y<18446744073709551616)(a:Vz)(h:HoldsC w b v a):
 Calls prog 196 #[.int .u64 x,.int .u64 y] a fun e w'=>e=.returned (.int .u64 ((Nat.gcd x y:Nat):Int))/\HoldsC w b v w'/\Below a.heap.size a w':=by
 refine(Qro x y a f g).mono ?_;rintro e w' ⟨rfl,c⟩;exact⟨rfl,h.below d c,c⟩
theorem Qrh{w a:Vz}{G:Nat}(h:Bl w a)(c:0<G)(e:G<18446744073709551616):Nat64 w G (.returned (.slice (some ⟨a.heap.size,0,none⟩) 1 1)) (a.alloc (.cells #[.int .u64 G] 170)):=by
 have hB:Blk .u64 170 (a.alloc (.cells (wordCells .u64 [G]) 170)) a.heap.size [G]:=Blk.new _ _ _ _;exact⟨⟨some ⟨a.heap.size,0,none⟩,1,[G],rfl,hB.row 1 (by simp) 1 (by omega),⟨fun d b=>by simp at b;omega,.inr (by simp;omega),by simp[val]⟩,by simp⟩,h.alloc h.size _⟩
def Own2(B:Nat)(w:Vz)(a b:Vx)(c d:Nat)(l m:Vy)(p q:Nat):Prop:=∃g1 g2 C1 C2,a=some ⟨g1,0,none⟩/\b=some ⟨g2,0,none⟩/\ON w g1 c C1 l p/\ON w g2 d C2 m q/\g1≠g2/\B<=g1/\B<=g2
theorem Qjr{w w':Vz}{a:Vx}{cap cap' g x:Nat}{l:Vy}(h:U64 w a cap l x)(b:Pre w' g l)(c:l.length<=cap'):ON w' g cap' l l x:=⟨b,h.num.small,h.short,List.take_length,h.num,c⟩
theorem Qri(a1 a2:Vx)(c1 c2:Nat)(l m:Vy)(x y:Nat)(w:Vz)(h1:U64 w a1 c1 l x)(h2:U64 w a2 c2 m y)(hl:l.length<1099511627770)(hm:m.length<1099511627770):
 Calls prog 168 #[.slice a1 l.length c1,.slice a2 m.length c2] w (Nat64 w (Nat.gcd x y)):=by
 have HC:=Hi (Qdc a1 a2 c1 c2 l m x y w h1 h2);obtain⟨G,hG⟩:=nm (Nat.gcd x y);rw[hG];obtain⟨H1,H2,HG⟩:=Ib h1 h2 hG;clear h1 h2 hG;obtain⟨natAt,ar⟩:=Qrd;have t:=Hi ar;clear ar;go_enter func168,ntmps168;go_wp2_with fail;go_fit HC.o;rintro e w1 ⟨rfl,D⟩;have Q:=Hi D;clear D HC;go_upto_if 11 with fail
 go_cut [0,1] (fun xv yv wr=>∃(p q:Nat) (a b:Vx) (c d:Nat) (l m:Vy),xv=.slice a l.length c/\yv=.slice b m.length d/\q<=p/\l.length<1099511627770/\U64 w a c l p/\U64 w b d m q/\Nat.gcd p q=G/\wr=w1)
 case first=>
  by_cases bf:x<y
  .
   have au:=(Qaw x y).2 bf;go_wp2_with fail;go_meet
   case rel=>exact⟨y,x,a2,a1,c2,c1,m,l,rfl,rfl,by omega,hm,H2.o,H1.o,(Nat.gcd_comm y x).trans HG.o,rfl⟩
  .
   have au:¬(cmp3 x y<0):=fun h=>by have:=(Qaw x y).1 h;omega
   go_wp2_with fail;go_meet
   case rel=>exact⟨x,y,a1,a2,c1,c2,l,m,rfl,rfl,by omega,hl,H1.o,H2.o,HG.o,rfl⟩
 case rest=>
 clear hl hm H1 H2 HG;obtain⟨wx,rfl⟩:∃wx,wx=wc:=⟨wc,rfl⟩;obtain⟨p,q,a,b,c,d,l,m,rfl,rfl,s,E,g,f,V,rfl⟩:=hcut;obtain⟨HX,HY,HG⟩:=Ib g f V;clear g f V;go_upto_if 16 with fail
 go_cut [0,1] (fun xv yv wr=>∃(p q:Nat) (a b:Vx) (c d:Nat) (l m:Vy),xv=.slice a l.length c/\yv=.slice b m.length d/\q<=p/\l.length<1099511627770/\U64 wr a c l p/\U64 wr b d m q/\Nat.gcd p q=G/\(1<m.length->Own2 w.heap.size wr a b c d l m p q)/\Below w.heap.size w wr)
 case first=>
  by_cases bg:1<m.length
  .
   have bh:(1:Int)<(m.length:Int):=by omega
   have bx:=HY.o.len_mono HX.o s;have av:=Hi (Qgb a c l p wx (HX.o.below Q.o) (by omega));go_wp2_with fail;go_fit av.o;rintro e W ⟨⟨Z,d1,rfl,bi,bz,aw⟩,A⟩;obtain⟨ax,ab,i⟩:=Ib (Qgb b d m q W ((HY.o.below Q.o).below A) (by omega)) aw (Q.o.trans (A.mono Q.o.size));have ay:w.heap.size<=Z:=by have:=Q.o.size;omega
   clear aw A av;go_wp2_with fail;go_fit ax.o;rintro e w3 ⟨⟨P,d2,rfl,bj,b0,az⟩,k⟩;obtain⟨R,B⟩:=Ia (Qjr HX.o (ab.o.below k ab.o.lt) bi) (Qjr HY.o az bj);have b1:Z<P:=by have:=ab.o.lt;omega
   have j:=Hi (i.o.trans (k.mono i.o.size));clear az k ax;go_wp2_with fail;go_meet
   case rel=>exact⟨p,q,some ⟨Z,0,none⟩,some ⟨P,0,none⟩,d1,d2,l,m,rfl,rfl,s,(by omega),R.o.u64,B.o.u64,HG.o,(fun _=>⟨Z,P,l,m,rfl,rfl,R.o,B.o,(by omega),ay,(by omega)⟩),j.o⟩
  .
   have bh:¬((1:Int)<(m.length:Int)):=by omega
   go_wp2_with fail;go_meet
   case rel=>exact⟨p,q,a,b,c,d,l,m,rfl,rfl,s,(by omega),HX.o.below Q.o,HY.o.below Q.o,HG.o,(fun h=>absurd h bg),Q.o⟩
 case rest=>
 clear s E HX HY HG Q;obtain⟨wy,rfl⟩:∃wy,wy=wc:=⟨wc,rfl⟩;have a0:=Hi hcut;clear hcut;go_wp2_with fail;go_loopw [0,1] (fun xv yv wr=>∃(p q:Nat) (a b:Vx) (c d:Nat) (l m:Vy),xv=.slice a l.length c/\yv=.slice b m.length d/\q<=p/\l.length<1099511627770/\U64 wr a c l p/\U64 wr b d m q/\Nat.gcd p q=G/\(1<m.length->Own2 w.heap.size wr a b c d l m p q)/\Below w.heap.size w wr) (fun xv yv wr=>natAt wr xv+natAt wr yv)
 case atStart=>exact a0.o
 case round=>
  obtain⟨p,q,a,b,c,d,l,m,rfl,rfl,s,E,g,f,V,a3,D⟩:=hrel;have a4:=Hi a3;clear a3;have b2:=f.len_mono g s;obtain⟨S,v,F,u⟩:=Ic g f V D;by_cases b3:m.length<=1
  .
   have bk:¬(1:Int)<(m.length:Int):=by omega
   by_cases n:q=0
   .
    have bl:((m.length:Int) == 0)=true:=by have:=(f.num.len_zero (by decide)).1 n;simp[this]
    have HQ:=Hi n;clear g f V D n;go_wp2;go_ret;have e1:=F.o;rw[HQ.o,Nat.gcd_zero_right] at e1;exact⟨⟨a,c,l,rfl,by rw[<-e1];exact S.o⟩,u.o⟩
   .
    have bl:((m.length:Int) == 0)=false:=by
     rw[beq_eq_false_iff_ne];have:=(f.num.len_zero (by decide)).2;omega
    have H:m.length=1:=by have:=(f.num.len_zero (by decide)).2;omega
    have HO:=Hi (Qdb b d m q wr f);by_cases C:q=1
    .
     rw[show decide (q=1)=true by simpa using C] at HO;have HQ:=Hi C;clear g f V D n C H;go_wp2_with fail;go_fit HO.o;rintro e W ⟨rfl,hw⟩;subst hw;go_wp2;go_ret;have e1:=F.o;rw[HQ.o,Nat.gcd_one_right] at e1;exact⟨⟨b,d,m,rfl,by rw[<-e1,<-HQ.o];exact v.o⟩,u.o⟩
    .
     rw[show decide (q=1)=false by simpa using C] at HO;obtain⟨b',T,rfl,ad,a5⟩:=f.row.cell 0 (by omega);have U:=Qre f.num H;rw[U,Nat.add_zero] at a5;have ae:q<18446744073709551616:=by rw[<-U];exact f.num.small.getD (by omega) 0
     obtain⟨b4,HR⟩:=Ia U (Qrf wr ⟨b',T,none⟩ (.int .u64 q) ad a c q l p g (by omega) ae);obtain⟨r,hr⟩:=nm (p % q);rw[hr] at HR;have b5:r<q:=by rw[<-hr];exact Nat.mod_lt _ (by omega)
     obtain⟨bm,b6,af⟩:=Ib hr C n;clear g f V D C U hr n H;go_wp2_with fail;go_fit HO.o;rintro e W ⟨rfl,hw⟩;subst hw;go_wp2_with fail;have HI:O (HoldsC W ⟨b',T,none⟩ (.int .u64 q) W):=Hi ⟨Below.refl _ _,a5⟩;have i0:(0:Int)<(m.length:Int):=by have:=(v.o.num.len_zero (by decide)).2;have:=af.o;omega
     have ag:O (Nat.gcd q r=G):=Hi (by rw[<-F.o,<-bm.o];exact Qb6 p q);have HW:=Hi (Qrg W ⟨b',T,none⟩ (.int .u64 q) ad q r ae (by omega));have b7:0<m.length:=by omega
     rw[ag.o] at HW;go_region_held3 (fun w'=>w'.cell? ⟨b',T,none⟩=some (.int .u64 q)) ((first|(simp [*];done)|exact ce ((Below.refl _ w4).alloc lZ _) z4 k0)) (first
      |(
       go_at_call 197
       first
        |go_fit (HR.o _ HI.o)
        |go_fit (HR.o _ HI.o.drew)
       rintro e w3 ⟨rfl,hi,D⟩;have k0:=hi.c;have a6:=Hi hi
       clear hi D)
      |(
       go_at_call 196
       first
        |go_fit (HW.o _ a6.o)
        |go_fit (HW.o _ a6.o.drew)
       rintro e w4 ⟨rfl,hi,D⟩;have k0:=hi.c;have z4:=Nat.lt_of_lt_of_le ad hi.b.size;have z5:=Nat.ne_of_lt z4;have bn:=Hi hi
       clear hi D))
     all_goals
      go_wp2;go_ret;have bo:0<G:=by rw[<-ag.o];exact Nat.gcd_pos_of_pos_left _ (by have:=af.o;omega)
      have bp:G<18446744073709551616:=by rw[<-ag.o];exact Nat.lt_of_le_of_lt (Nat.gcd_le_left _ (by have:=af.o;omega)) ae
      exact Qrh (u.o.trans (bn.o.b.mono u.o.size)) bo bp
  .
   have bk:(1:Int)<(m.length:Int):=by omega
   have n:0<q:=by
    rcases Nat.eq_zero_or_pos q with h0|h0
    . have:=(f.num.len_zero (by decide)).1 h0;omega
    . exact h0
   obtain⟨Z,P,C1,C2,rfl,rfl,a7,a8,a9,bq,ba⟩:=a4.o (by omega);obtain⟨R,B,HM⟩:=Ib a7 a8 (Qrq (some ⟨Z,0,none⟩) (some ⟨P,0,none⟩) c d (l.length - 2) l m p q wr g f s (by omega));clear g f V D a7 a8 a4;go_wp2_with fail;go_fit HM.o;rintro e W ⟨⟨bb,xx,xy,yx,yy,rfl,hS⟩,A⟩;obtain⟨HS,i,HN⟩:=Ib hS A (Qrr bb xx xy yx yy);clear hS A HM;unfold StepsVal;unfold StepsVal at HN;by_cases z:xy=0
   .
    rw[show decide (xy=0)=true by simpa using z] at HN;clear z;go_wp2_with fail;go_fit (HN.o _);rintro e w3 ⟨rfl,k⟩;have j:=Hi ((i.o.alloc i.o.size _).trans (k.mono (i.o.alloc i.o.size _).size));clear k HN;have HD:=Hi (Qjq (some ⟨Z,0,none⟩) (some ⟨P,0,none⟩) c d (m.length - 2) l m p q w3 (S.o.below j.o) (v.o.below j.o) s (by omega) E);go_wp2_with fail;go_fit HD.o;rintro e w4 ⟨⟨aq,cq,lq,gr,cr,Cr,lr,rfl,I,ah,b8⟩,J⟩;have K:=Hi (j.o.trans (J.mono j.o.size));have L:=ah.u64;have M:=Hi L;have bc:=Hi (B.o.below K.o);have br:=Hi ah;have bv:P<gr:=by have:=B.o.pre.lt;have:=j.o.size;omega
    clear ah;have bw:=Nat.mod_lt p n;have aa:=Hi (v.o.below K.o);have m1:=t.o _ _ _ _ _ S.o;have m2:=t.o _ _ _ _ _ v.o;have m3:=t.o _ _ _ _ _ aa.o;have m4:=t.o _ _ _ _ _ M.o;obtain⟨ai,aj,ak,al⟩:=Ic m1 m2 m3 m4;clear I L J HD m1 m2 m3 m4;go_wp2;refine⟨⟨q,p % q,some ⟨P,0,none⟩,some ⟨gr,0,none⟩,d,cr,m,lr,rfl,rfl,by omega,by omega,aa.o,M.o,(Qb6 p q).trans F.o,fun _=>⟨P,gr,C2,Cr,rfl,rfl,bc.o,br.o,by omega,ba,by omega⟩,u.o.trans (K.o.mono u.o.size)⟩,?_⟩;rw[ai.o,aj.o,ak.o,al.o];omega
   .
    rw[show decide (xy=0)=false by simpa using z] at HN;obtain⟨X,Y,hL⟩:=HS.o.go (by omega);have HL:=Hi hL;have am:=hL.less n;have b9:=hL.le;have bs:=Hi hL.gcd;clear hL z;go_wp2_with fail;go_fit (HN.o _);rintro e w3 ⟨rfl,k⟩;obtain⟨j,N⟩:=Ia ((i.o.alloc i.o.size _).trans (k.mono (i.o.alloc i.o.size _).size)) ((SB.new W _ _).below k (by rw[World.size_alloc];omega));clear k HN;have k0:=N.o.cell 0;have k1:=N.o.cell 1;have k2:=N.o.cell 2;have k3:=N.o.cell 3;have k4:=N.o.cell 4;simp at k0 k1 k2 k3 k4;have HD:=Hi (Qrs bb xx xy yx yy Z P c d C1 C2 l m p q X Y w3 (R.o.below j.o) (B.o.below j.o) a9 s HS.o HL.o n w.heap.size bq ba);go_wp2_with fail;go_fit HD.o;rintro e w4 ⟨⟨ga,gb,ca,cb,Ca,Cb,la,lb,rfl,an,ao,bd⟩,J⟩;have K:=Hi ((u.o.trans (j.o.mono u.o.size)).trans J)
    have I:=an.u64;have L:=ao.u64;obtain⟨bt,bu⟩:=Ia an ao;have ap:ga≠gb/\w.heap.size<=ga/\w.heap.size<=gb:=by omega
    clear an ao bd;obtain⟨be,M,ai,aj⟩:=Ic I L (t.o _ _ _ _ _ S.o) (t.o _ _ _ _ _ v.o);obtain⟨ak,al⟩:=Ia (t.o _ _ _ _ _ be.o) (t.o _ _ _ _ _ M.o);have cc:=I.len_mono v.o am.1;clear I L J HD;go_wp2;refine⟨⟨X,Y,some ⟨ga,0,none⟩,some ⟨gb,0,none⟩,ca,cb,la,lb,rfl,rfl,by omega,by omega,be.o,M.o,bs.o.trans F.o,fun _=>⟨ga,gb,Ca,Cb,rfl,rfl,bt.o,bu.o,ap.1,ap.2.1,ap.2.2⟩,K.o⟩,?_⟩;rw[ai.o,aj.o,ak.o,al.o];omega
theorem Qim(neg:Bool):sgn neg 0=0:=by cases neg<;>simp[sgn]
theorem Qo2{neg:Bool}{t:Nat}(h:0<t):decide (sgn neg t<0)=neg:=by cases neg<;>simp[sgn]<;>omega
theorem Qbx(x:Int):sgn (decide (x<0)) x.natAbs=x:=by
 unfold sgn;by_cases h:x<0
 . simp[h];omega
 . simp[h];omega
theorem Qcc(p q:Bool)(s t:Nat):sgn (p != q) (s*t)=sgn p s*sgn q t:=by cases p<;>cases q<;>simp[sgn]<;>grind
theorem Qo3(p:Bool)(s:Nat):sgn (!p) s= - sgn p s:=by cases p<;>simp[sgn]
theorem Qin{neg:Bool}{t d:Nat}(b:0<d)(a:Nat.Coprime t d):(mkRat (sgn neg t) d).num=sgn neg t/\(mkRat (sgn neg t) d).den=d:=by
 have e:=Rat.mk_eq_mkRat (sgn neg t) d (by omega) (by rw[Qd6];exact a);rw[<-e];exact⟨rfl,rfl⟩
theorem Qo4(x y:Rat){g h:Nat}(b:Nat.gcd x.num.natAbs y.den=g)(c:Nat.gcd y.num.natAbs x.den=h):
 mkRat (sgn (decide (x.num<0) != decide (y.num<0)) (x.num.natAbs / g*(y.num.natAbs / h))) (x.den / h*(y.den / g))=x*y/\Nat.Coprime (x.num.natAbs / g*(y.num.natAbs / h)) (x.den / h*(y.den / g)):=by
 have f:0<g:=by rw[<-b];exact Nat.gcd_pos_of_pos_right _ y.den_pos
 have i:0<h:=by rw[<-c];exact Nat.gcd_pos_of_pos_right _ x.den_pos
 have d1:g ∣ x.num.natAbs:=b ▸ Nat.gcd_dvd_left _ _;have d2:g ∣ y.den:=b ▸ Nat.gcd_dvd_right _ _;have d3:h ∣ y.num.natAbs:=c ▸ Nat.gcd_dvd_left _ _;have d4:h ∣ x.den:=c ▸ Nat.gcd_dvd_right _ _;have j:=Nat.div_mul_cancel d1;have k:=Nat.div_mul_cancel d2;have l:=Nat.div_mul_cancel d3;have o:=Nat.div_mul_cancel d4;constructor
 .
  rw[<-Qgq,<-Rat.mkRat_mul_right (a:=g*h) (by have:=Nat.mul_pos f i;omega)]
  congr 1
  .
   have d:(sgn (decide (x.num<0)) (x.num.natAbs / g))*(g:Int)=x.num:=by
    have:=Qcc (decide (x.num<0)) false (x.num.natAbs / g) g;rw[show sgn false g=(g:Int) from rfl,j,Bool.bne_false,Qbx] at this;exact this.symm
   have e:(sgn (decide (y.num<0)) (y.num.natAbs / h))*(h:Int)=y.num:=by
    have:=Qcc (decide (y.num<0)) false (y.num.natAbs / h) h;rw[show sgn false h=(h:Int) from rfl,l,Bool.bne_false,Qbx] at this;exact this.symm
   rw[Qcc,<-d,<-e,Int.natCast_mul];rw[d,e]
   conv=>rhs;rw[<-d,<-e]
   grind
  .
   rw[Int.natAbs_mul,Int.natAbs_natCast,Int.natAbs_natCast]
   conv=>rhs;rw[<-o,<-k]
   grind
 .
  have c1:Nat.Coprime (x.num.natAbs / g) (x.den / h):=Nat.Coprime.coprime_dvd_left (Nat.div_dvd_of_dvd d1) (Nat.Coprime.coprime_dvd_right (Nat.div_dvd_of_dvd d4) x.reduced);have c2:Nat.Coprime (x.num.natAbs / g) (y.den / g):=by have:=Nat.coprime_div_gcd_div_gcd (m:=x.num.natAbs) (n:=y.den) (by omega);rw[b] at this;exact this
  have c3:Nat.Coprime (y.num.natAbs / h) (x.den / h):=by have:=Nat.coprime_div_gcd_div_gcd (m:=y.num.natAbs) (n:=x.den) (by omega);rw[c] at this;exact this
  have c4:Nat.Coprime (y.num.natAbs / h) (y.den / g):=Nat.Coprime.coprime_dvd_left (Nat.div_dvd_of_dvd d3) (Nat.Coprime.coprime_dvd_right (Nat.div_dvd_of_dvd d2) y.reduced);exact Nat.Coprime.mul_left (Nat.Coprime.mul_right c1 c2) (Nat.Coprime.mul_right c3 c4)
theorem Qo5(x y:Rat){g h t:Nat}{neg:Bool}(c:Nat.gcd x.den y.den=g)(e:sgn neg t=x.num*((y.den / g:Nat):Int)+y.num*((x.den / g:Nat):Int))(d:Nat.gcd t g=h):
 mkRat (sgn neg (t / h)) (x.den / g*(y.den / h))=x+y/\Nat.Coprime (t / h) (x.den / g*(y.den / h)):=by
 have f:0<g:=by rw[<-c];exact Nat.gcd_pos_of_pos_right _ y.den_pos
 have i:0<h:=by rw[<-d];exact Nat.gcd_pos_of_pos_right _ f
 have d1:g ∣ x.den:=c ▸ Nat.gcd_dvd_left _ _;have d2:g ∣ y.den:=c ▸ Nat.gcd_dvd_right _ _;have d3:h ∣ t:=d ▸ Nat.gcd_dvd_left _ _;have d4:h ∣ g:=d ▸ Nat.gcd_dvd_right _ _;have j:=Nat.div_mul_cancel d1;have l:=Nat.div_mul_cancel d2;have o:=Nat.div_mul_cancel d3;have p:=Nat.div_mul_cancel (Nat.dvd_trans d4 d2);have q:t=(x.num*((y.den / g:Nat):Int)+y.num*((x.den / g:Nat):Int)).natAbs:=by rw[<-e,Qd6]
 constructor
 .
  rw[<-Qej,<-Rat.mkRat_mul_right (a:=h*g) (by have:=Nat.mul_pos i f;omega)]
  congr 1
  .
   have r:sgn neg (t / h)*(h:Int)=sgn neg t:=by
    have:=Qcc neg false (t / h) h;rw[show sgn false h=(h:Int) from rfl,o,Bool.bne_false] at this;exact this.symm
   rw[Int.natCast_mul,<-Int.mul_assoc,r,e]
   conv=>rhs;rw[<-j,<-l,Int.natCast_mul,Int.natCast_mul]
   grind
  .
   rw[Int.natAbs_mul,Int.natAbs_natCast,Int.natAbs_natCast]
   conv=>rhs;rw[<-j,<-p]
   grind
 .
  have b:=Rat.add.aux x y c.symm rfl rfl;simp only[] at b;rw[<-q,d] at b;have k:=Nat.coprime_div_gcd_div_gcd (m:=t) (n:=x.den / g*y.den) (by rw[<-b];exact i);rw[<-b,Nat.mul_div_assoc _ (Nat.dvd_trans d4 d2)] at k;exact k
theorem Qio{y:Rat}(a:y≠0):mkRat (sgn (decide (y.num<0)) y.den) y.num.natAbs=y⁻¹/\Nat.Coprime y.den y.num.natAbs/\0<y.num.natAbs:=by
 have b:y.num≠0:=fun h=>a (Rat.num_eq_zero.1 h)
 refine⟨?_,Nat.Coprime.symm y.reduced,by omega⟩;rw[Rat.inv_def];by_cases h:y.num<0
 . conv=>rhs;rw[show y.num= -((y.num.natAbs:Nat):Int) by omega,Rat.divInt_neg',Rat.divInt_ofNat]
   simp[sgn,h]
 .
  conv=>rhs;rw[show y.num=((y.num.natAbs:Nat):Int) by omega]
  rw[Rat.divInt_ofNat];simp[sgn,h]
structure Ent where
 a:Option Addr
 n:Nat
 c:Nat
 x:Nat
 k:Nat
def NumV(w:Vz)(a:Vx)(n c x:Nat):Prop:=∃l,List.length l=n/\U64 w a c l x
theorem NumV.below{w w':Vz}{a:Vx}{n c x:Nat}(h:NumV w a n c x)(b:Bl w w'):NumV w' a n c x:=by
 obtain⟨l,hl,h⟩:=h;exact⟨l,hl,h.below b⟩
theorem NumV.zero_iff{w:Vz}{a:Vx}{n c x:Nat}(h:NumV w a n c x):x=0↔n=0:=by
 obtain⟨l,rfl,h⟩:=h;exact h.num.len_zero (by decide)
theorem U64.len_bits{w:Vz}{a:Vx}{c:Nat}{l:Vy}{n k:Nat}(h:U64 w a c l n)(b:n<2 ^ k):l.length<=k:=by
 apply h.num.length_le_of_lt (by decide);refine Nat.lt_of_lt_of_le b ?_;exact Nat.pow_le_pow_left (by decide) k
theorem NumV.some{w:Vz}{a:Vx}{n c x:Nat}(h:NumV w a n c x)(f:0<x):∃b o,a=some ⟨b,o,none⟩:=by
 have g:n≠0:=fun d=>by have:=h.zero_iff.2 d;omega
 obtain⟨l,hl,h⟩:=h;obtain⟨b,o,e,_⟩:=h.row.cell 0 (by omega);exact⟨b,o,e⟩
structure NBag (w0 w:Vz) (L:List Ent):Prop where
 base:Bl w0 w
 ts:∀t,t∈ L->NumV w t.a t.n t.c t.x/\t.x<2 ^ t.k
theorem NBag.below{w0 w w':Vz}{L:List Ent}(h:NBag w0 w L)(a:Bl w w'):NBag w0 w' L:=
 ⟨h.base.trans (a.mono h.base.size),fun t b=>⟨(h.ts t b).1.below a,(h.ts t b).2⟩⟩
theorem NBag.drew{w0 w:Vz}{L:List Ent}(h:NBag w0 w L):NBag w0 w.drew L:=h.below bR.drew
theorem NBag.alloc{w0 w:Vz}{L:List Ent}(h:NBag w0 w L)(o:Obj):NBag w0 (w.alloc o) L:=h.below (bR.alloc lZ _)
theorem NBag.put{w0 w:Vz}{L:List Ent}{a:Vx}{n c x k:Nat}(h:NBag w0 w L)(d:NumV w a n c x)(hk:x<2 ^ k):NBag w0 w (⟨a,n,c,x,k⟩ :: L):=
 ⟨h.base,fun t b=>by
   rcases List.mem_cons.1 b with rfl|b
   . exact⟨d,hk⟩
   . exact h.ts t b⟩
theorem NBag.get{w0 w:Vz}{L:List Ent}{a:Vx}{n c x k:Nat}(h:NBag w0 w L)(b:⟨a,n,c,x,k⟩∈ L):NumV w a n c x/\x<2 ^ k:=h.ts _ b
def NNew(w0:Vz)(L:List Ent)(x k:Nat)(e:Ending)(w':Vz):Prop:=∃a n c,e=.returned (.slice a n c)/\NBag w0 w' (⟨a,n,c,x,k⟩ :: L)
theorem NBag.new{w0 w w':Vz}{L:List Ent}{x k:Nat}{e:Ending}(h:NBag w0 w L)(b:(∃a cap r,e=.returned (.slice a (List.length r) cap)/\U64 w' a cap r x)/\Below w.heap.size w w')(hk:x<2 ^ k):NNew w0 L x k e w':=by
 obtain⟨⟨a,c,r,rfl,d⟩,f⟩:=b;exact⟨a,r.length,c,rfl,(h.below f).put ⟨r,rfl,d⟩ hk⟩
theorem NBag.gcd{w0 w:Vz}{L:List Ent}{a b:Vx}{n1 g c1 c2 x y j k:Nat}(h:NBag w0 w L)(o:⟨a,n1,c1,x,j⟩∈ L)(p:⟨b,g,c2,y,k⟩∈ L)(r:j+k<274877906000):
 Calls prog 168 #[.slice a n1 c1,.slice b g c2] w (NNew w0 L (Nat.gcd x y) (j+k)):=by
 obtain⟨⟨l,rfl,i⟩,c⟩:=h.get o;obtain⟨⟨m,rfl,n⟩,d⟩:=h.get p;refine(Qri a b c1 c2 l m x y w i n (by have:=i.len_bits c;omega) (by have:=n.len_bits d;omega)).mono fun e w' q=>h.new q ?_
 have s:2 ^ j<=2 ^ (j+k):=Nat.pow_le_pow_right (by decide) (by omega);have t:2 ^ k<=2 ^ (j+k):=Nat.pow_le_pow_right (by decide) (by omega);rcases Nat.eq_zero_or_pos x with f|f
 . subst f;rw[Nat.gcd_zero_left];omega
 . have:=Nat.gcd_le_left y f;omega
theorem NBag.quot{w0 w:Vz}{L:List Ent}{b c:Vx}{n1 d c1 c2 x y j k:Nat}(h:NBag w0 w L)(g:⟨b,n1,c1,x,j⟩∈ L)(i:⟨c,d,c2,y,k⟩∈ L)(r:j<274877906000)(n:0<y):
 Calls prog 169 #[.slice b n1 c1,.slice c d c2] w (NNew w0 L (x / y) j):=by
 obtain⟨⟨l,rfl,f⟩,a⟩:=h.get g;obtain⟨⟨m,rfl,o⟩,p⟩:=h.get i;refine(Qrn b c c1 c2 l m x y w f o n (by have:=f.len_bits a;omega)).mono fun e w' q=>h.new q ?_
 exact Nat.lt_of_le_of_lt (Nat.div_le_self _ _) a
theorem NBag.mul{w0 w:Vz}{L:List Ent}{c d:Vx}{n1 f c1 c2 x y j k:Nat}(h:NBag w0 w L)(n:⟨c,n1,c1,x,j⟩∈ L)(o:⟨d,f,c2,y,k⟩∈ L)(q:j+k<274877906000):
 Calls prog 177 #[.slice c n1 c1,.slice d f c2] w (NNew w0 L (x*y) (j+k)):=by
 obtain⟨⟨l,rfl,g⟩,a⟩:=h.get n;obtain⟨⟨m,rfl,i⟩,b⟩:=h.get o;exact(Qjy c d c1 c2 l m x y w g i (by have:=g.len_bits a;have:=i.len_bits b;omega)).mono fun e w' p=>h.new p (Qbr a b)
theorem NBag.add{w0 w:Vz}{L:List Ent}{c d:Vx}{n1 f c1 c2 x y j k:Nat}(h:NBag w0 w L)(n:⟨c,n1,c1,x,j⟩∈ L)(o:⟨d,f,c2,y,k⟩∈ L)(q:j+k<274877906000):
 Calls prog 201 #[.slice c n1 c1,.slice d f c2] w (NNew w0 L (x+y) (j+k+1)):=by
 obtain⟨⟨l,rfl,g⟩,a⟩:=h.get n;obtain⟨⟨m,rfl,i⟩,b⟩:=h.get o;refine(Qq2 c d c1 c2 l m x y w g i (by have:=g.len_bits a;omega) (by have:=i.len_bits b;omega)).mono fun e w' p=>h.new p ?_
 have r:2 ^ j<=2 ^ (j+k):=Nat.pow_le_pow_right (by decide) (by omega);have s:2 ^ k<=2 ^ (j+k):=Nat.pow_le_pow_right (by decide) (by omega);have t:(2:Nat) ^ (j+k+1)=2 ^ (j+k)*2:=Nat.pow_succ _ _;have u:x<2 ^ j:=a;have v:y<2 ^ k:=b;omega
theorem NBag.sub{w0 w:Vz}{L:List Ent}{a b:Vx}{n1 f c1 c2 x y j k:Nat}(h:NBag w0 w L)(g:⟨a,n1,c1,x,j⟩∈ L)(i:⟨b,f,c2,y,k⟩∈ L)(c:y<=x):
 Calls prog 202 #[.slice a n1 c1,.slice b f c2] w (NNew w0 L (x - y) j):=by
 obtain⟨⟨l,rfl,n⟩,d⟩:=h.get g;obtain⟨⟨m,rfl,o⟩,p⟩:=h.get i;exact(Qq3 a b c1 c2 l m x y w n o c).mono fun e w' q=>h.new q (Nat.lt_of_le_of_lt (Nat.sub_le _ _) d)
theorem NBag.compare{w0 w:Vz}{L:List Ent}{a b:Vx}{n1 c c1 c2 x y j k:Nat}(h:NBag w0 w L)(d:⟨a,n1,c1,x,j⟩∈ L)(f:⟨b,c,c2,y,k⟩∈ L):
 Calls prog 190 #[.slice a n1 c1,.slice b c c2] w (fun e w'=>e=.returned (.int .i64 (cmp3 x y))/\NBag w0 w' L):=by
 obtain⟨⟨l,rfl,g⟩,i⟩:=h.get d;obtain⟨⟨m,rfl,n⟩,o⟩:=h.get f;refine(Qdc a b c1 c2 l m x y w g n).mono ?_;rintro e w' ⟨rfl,p⟩;exact⟨rfl,h.below p⟩
def LowIn(w:Vz)(b:Vx)(m d k:Nat):Prop:=(b=none/\m=0/\d=0/\k=1)∨(0<k/\NumV w b m d k)
def Low(w:Vz)(b:Vx)(m d k:Nat):Prop:=(b=none/\m=0/\d=0/\k=1)∨(1<k/\NumV w b m d k)
theorem Low.lowIn{w:Vz}{b:Vx}{m d k:Nat}(h:Low w b m d k):LowIn w b m d k:=by
 rcases h with h|⟨h,a⟩
 . exact .inl h
 . exact .inr ⟨by omega,a⟩
theorem Low.below{w w':Vz}{b:Vx}{m d k:Nat}(h:Low w b m d k)(a:Bl w w'):Low w' b m d k:=by
 rcases h with h|⟨h,c⟩
 . exact .inl h
 . exact .inr ⟨h,c.below a⟩
structure FracAt (w:Vz) (neg:Bool) (a:Vx) (n c:Nat) (b:Vx) (m d:Nat) (q:Rat):Prop where
 neg:neg=decide (q.num<0)
 top:NumV w a n c q.num.natAbs
 low:Low w b m d q.den
theorem FracAt.below{w w':Vz}{neg:Bool}{a b:Vx}{n c m d:Nat}{q:Rat}(h:FracAt w neg a n c b m d q)(e:Bl w w'):FracAt w' neg a n c b m d q:=⟨h.neg,h.top.below e,h.low.below e⟩
def FracV(w:Vz)(v:Value)(q:Rat):Prop:=∃neg a n c b m d,v=.agg #[.bool neg,.slice a n c,.slice b m d]/\FracAt w neg a n c b m d q
theorem FracV.below{w w':Vz}{v:Value}{q:Rat}(h:FracV w v q)(f:Bl w w'):FracV w' v q:=by
 obtain⟨neg,a,n,c,b,m,d,e,h⟩:=h;exact⟨neg,a,n,c,b,m,d,e,h.below f⟩
def FNew(w:Vz)(q:Rat)(e:Ending)(w':Vz):Prop:=(∃v,e=.returned v/\FracV w' v q)/\Below w.heap.size w w'
theorem NumV.nil(w:Vz):NumV w none 0 0 0:=⟨[],rfl,U64.nil w⟩
theorem FracV.zero(w:Vz):FracV w (.agg #[.bool false,.slice none 0 0,.slice none 0 0]) 0:=
 ⟨false,none,0,0,none,0,0,rfl,by decide,NumV.nil w,.inl ⟨rfl,rfl,rfl,rfl⟩⟩
theorem FracV.mk{w:Vz}{neg:Bool}{a b:Vx}{n c m d t k:Nat}(f:NumV w a n c t)(hl:Low w b m d k)(g:Nat.Coprime t k)(i:0<t):FracV w (.agg #[.bool neg,.slice a n c,.slice b m d]) (mkRat (sgn neg t) k):=by
 have hk:0<k:=by rcases hl with ⟨_,_,_,rfl⟩|⟨h,_⟩<;>omega
 obtain⟨e,j⟩:=Qin (neg:=neg) hk g;exact⟨neg,a,n,c,b,m,d,rfl,by rw[e,Qo2 i],by rw[e,Qd6];exact f,by rw[j];exact hl⟩
theorem Qii{w:Vz}{a:Vx}{n c x:Nat}(h:NumV w a n c x):Calls prog 162 #[.slice a n c] w fun e w'=>e=.returned (.bool (decide (x=1)))/\w'=w:=by
 obtain⟨l,rfl,h⟩:=h;exact Qdb a c l x w h
def NoU64(C:Vw):Prop:=∀(i:Nat) (n:Int),C[i]?≠some (Value.int .u64 n)
theorem Row.only64{w w':Vz}{a:Vx}{cap:Nat}{l:Vy}{c:Nat}{t:Vr}{C:Vw}(h:Row .u64 w a cap l)(e:Only c w w')(hs:SB w c t C)(m:NoU64 C):Row .u64 w' a cap l:=by
 refine⟨h.fit,?_,fun i n=>?_⟩
 .
  rcases h.shape with f|⟨d,b,rfl,k⟩
  . exact .inl f
  . exact .inr ⟨d,b,rfl,by have:=e.size;omega⟩
 .
  obtain⟨d,b,f,k,g⟩:=h.cell i n;have j:d≠c:=by
   rintro rfl;rw[hs.cell] at g;exact m _ _ g
  exact⟨d,b,f,by have:=e.size;omega,(World.cell?_of_block (w:=w) (e.block d k j)).trans g⟩
theorem NumV.only{w w':Vz}{a:Vx}{n c x g:Nat}{t:Vr}{C:Vw}(h:NumV w a n c x)(b:Only g w w')(hs:SB w g t C)(d:NoU64 C):NumV w' a n c x:=by
 obtain⟨l,hl,h⟩:=h;exact⟨l,hl,h.row.only64 b hs d,h.num,h.short⟩
theorem FracAt.only{w w':Vz}{neg:Bool}{a b:Vx}{n c m d g:Nat}{q:Rat}{t:Vr}{C:Vw}(h:FracAt w neg a n c b m d q)(f:Only g w w')(hs:SB w g t C)(i:NoU64 C):FracAt w' neg a n c b m d q:=by
 refine⟨h.neg,h.top.only f hs i,?_⟩;rcases h.low with e|⟨e,j⟩
 . exact .inl e
 . exact .inr ⟨e,j.only f hs i⟩
theorem FracV.only{w w':Vz}{v:Value}{g:Nat}{q:Rat}{t:Vr}{C:Vw}(h:FracV w v q)(f:Only g w w')(hs:SB w g t C)(i:NoU64 C):FracV w' v q:=by
 obtain⟨neg,a,n,c,b,m,d,e,h⟩:=h;exact⟨neg,a,n,c,b,m,d,e,h.only f hs i⟩
def zeroFrac:Array Value:=#[.bool false,.slice none 0 0,.slice none 0 0]
theorem Qbi:NoU64 zeroFrac:=by
 intro i n h
 match i with
 |0=>simp[zeroFrac] at h
 |1=>simp[zeroFrac] at h
 |2=>simp[zeroFrac] at h
 |i+3=>simp[zeroFrac] at h
theorem SB.new2(w:Vz)(t1 t2:Vr)(C D:Vw):SB ((w.alloc (.cells C t1)).alloc (.cells D t2)) (w.heap.size+1) t2 D:=by
 have:=SB.new (w.alloc (.cells C t1)) t2 D;rw[World.size_alloc] at this;exact this
theorem SB.new3(w:Vz)(t1 t2 t3:Vr)(C D E:Vw):SB (((w.alloc (.cells C t1)).alloc (.cells D t2)).alloc (.cells E t3)) (w.heap.size+1+1) t3 E:=by
 have:=SB.new ((w.alloc (.cells C t1)).alloc (.cells D t2)) t3 E;rw[World.size_alloc,World.size_alloc] at this;exact this
theorem Below.new2(w:Vz)(a b:Obj):Bl w ((w.alloc a).alloc b):=bR.alloc lZ _ |>.alloc (by rw[World.size_alloc];omega) _
theorem Below.new3(w:Vz)(a b c:Obj):Bl w (((w.alloc a).alloc b).alloc c):=(Below.new2 w a b).alloc (by rw[World.size_alloc,World.size_alloc];omega) _
theorem Tryz.fracInfo:(prog.info? 141).map (·.size)=some 3:=by kernel_rfl
theorem Qd5(neg:Bool)(a b:Vx)(n c m d t k:Nat)(w:Vz)(q:NumV w a n c t)(hl:LowIn w b m d k)(u:Nat.Coprime t k):
 Calls prog 130 #[.bool neg,.slice a n c,.slice b m d] w (FNew w (mkRat (sgn neg t) k)):=by
 obtain⟨r,s⟩:=Ia q u;have j:=q.zero_iff;have z:=Hi ((Below.refl w.heap.size w).alloc lZ (.cells #[.bool false,.slice none 0 0,.slice none 0 0] 141));clear q u;by_cases l:t=0
 .
  have x:n=0:=j.1 l;subst l x;rw[Qim,Rat.zero_mkRat];clear hl j;go_enter func130,ntmps130;go_wp2;refine bodyPost_ret (v:=.agg #[.bool false,.slice none 0 0,.slice none 0 0]) (results_cell_row rfl _ _ (w.heap.size) 141 #[.bool false,.slice none 0 0,.slice none 0 0] (0,0) _ rfl (SB.new w _ _) underlying141 rfl Tryz.fracInfo) rfl ?_;exact⟨⟨_,rfl,FracV.zero _⟩,z.o⟩
 .
  have x:((n:Int) == 0)=false:=by rw[beq_eq_false_iff_ne];omega
  have i:0<t:=by omega
  rcases hl with ⟨rfl,rfl,rfl,rfl⟩|⟨hk,hl⟩
  .
   have f:=Hi (Qii (NumV.nil (w.alloc (.cells #[.bool false,.slice none 0 0,.slice none 0 0] 141))));rw[show decide (0=1)=false by decide] at f;clear j l;go_enter func130,ntmps130;go_wp2_with fail;go_fit f.o;rintro e y ⟨rfl,p⟩;subst p;clear f;go_wp2;refine bodyPost_ret (v:=.agg #[.bool neg,.slice a n c,.slice none 0 0]) (results_cell_row rfl _ _ (w.heap.size) 141 #[.bool neg,.slice a n c,.slice none 0 0] (0,0) _ rfl (SB.new w _ _) underlying141 rfl Tryz.fracInfo) rfl ?_;have g:=(Below.refl w.heap.size w).alloc lZ (.cells #[.bool neg,.slice a n c,.slice none 0 0] 141);exact⟨⟨_,rfl,FracV.mk (r.o.below g) (.inl ⟨rfl,rfl,rfl,rfl⟩) s.o i⟩,g⟩
  .
   obtain⟨f,A⟩:=Ia (Qii (hl.below ((Below.refl w.heap.size w).alloc lZ (.cells #[.bool false,.slice none 0 0,.slice none 0 0] 141)))) hl;clear hl;by_cases h:k=1
   .
    rw[show decide (k=1)=true by simpa using h] at f;clear j l;go_enter func130,ntmps130;go_wp2_with fail;go_fit f.o;rintro e y ⟨rfl,p⟩;subst p;clear f;go_wp2;refine bodyPost_ret (v:=.agg #[.bool neg,.slice a n c,.slice none 0 0]) (results_cell_row rfl _ _ (w.heap.size) 141 #[.bool neg,.slice a n c,.slice none 0 0] (0,0) _ rfl (SB.new w _ _) underlying141 rfl Tryz.fracInfo) rfl ?_;have g:=(Below.refl w.heap.size w).alloc lZ (.cells #[.bool neg,.slice a n c,.slice none 0 0] 141);exact⟨⟨_,rfl,FracV.mk (r.o.below g) (.inl ⟨rfl,rfl,rfl,h⟩) s.o i⟩,g⟩
   .
    rw[show decide (k=1)=false by simpa using h] at f;have B:=Hi (show 1<k by omega);clear j l h;go_enter func130,ntmps130;go_wp2_with fail;go_fit f.o;rintro e y ⟨rfl,p⟩;subst p;clear f;go_wp2;refine bodyPost_ret (v:=.agg #[.bool neg,.slice a n c,.slice b m d]) (results_cell_row rfl _ _ (w.heap.size) 141 #[.bool neg,.slice a n c,.slice b m d] (0,0) _ rfl (SB.new w _ _) underlying141 rfl Tryz.fracInfo) rfl ?_;have g:=(Below.refl w.heap.size w).alloc lZ (.cells #[.bool neg,.slice a n c,.slice b m d] 141);exact⟨⟨_,rfl,FracV.mk (r.o.below g) (.inr ⟨B.o,A.o.below g⟩) s.o i⟩,g⟩
theorem Qov(neg:Bool)(a b:Vx)(n c m d k g:Nat)(w0 w:Vz)(L:List Ent)(hB:NBag w0 w L)(hl:Low w b m d k)(hk:k<2 ^ g):
 Calls prog 161 #[.agg #[.bool neg,.slice a n c,.slice b m d]] w (NNew w0 L k g):=by
 have r:∀(w:Vz) (a:Vx) (n c n' f:Nat),(binOp .eql 139 (.slice a n c) (.slice none n' f)).run prog w=.ok (.bool a.isNone) w:=fun w a n c n' f=>Lib.run_eql_slice_nil w _ _ a n c n' f underlying139
 obtain⟨i,j,p⟩:=Ib hB hk hl;clear hB hk;rcases hl with ⟨rfl,rfl,rfl,rfl⟩|⟨l,e⟩
 .
  go_enter func161,ntmps161;go_wp2;go_ret;have hB:Blk .u64 170 ((w.alloc (.cells #[.bool neg,.slice a n c,.slice none 0 0] 141)).alloc (.cells (wordCells .u64 [1]) 170)) (w.heap.size+1) [1]:=by
   have:=Blk.new .u64 170 (w.alloc (.cells #[.bool neg,.slice a n c,.slice none 0 0] 141)) [1];rw[World.size_alloc] at this;exact this
  exact⟨_,1,1,rfl,((i.o.alloc _).alloc _).put ⟨[1],rfl,hB.row 1 (by simp) 1 (by omega),⟨fun d q=>by simp at q;omega,.inr (by simp),by simp[val]⟩,by simp⟩ j.o⟩
 .
  obtain⟨s,t,rfl⟩:=e.some (by omega);clear l e;go_enter func161,ntmps161;go_wp2;go_ret;rcases p.o with ⟨h,_⟩|⟨l,e⟩
  . cases h
  . exact⟨_,m,d,rfl,(i.o.alloc _).put (e.below (bR.alloc lZ _)) j.o⟩
theorem Qij(neg:Bool)(a b:Vx)(n c m d t:Nat)(w:Vz)(f:NumV w a n c t):
 Calls prog 127 #[.agg #[.bool neg,.slice a n c,.slice b m d]] w fun e w'=>e=.returned (.bool (decide (t=0)))/\Below w.heap.size w w':=by
 have e:decide (t=0)=((n:Int) == 0):=by
  have:=f.zero_iff;by_cases h:t=0
  . simp[h,this.1 h]
  . rw[decide_eq_false h];symm;rw[beq_eq_false_iff_ne];omega
 rw[e];clear e f;go_enter func127,ntmps127;go_wp2;go_ret;exact⟨rfl,bR.alloc lZ _⟩
theorem Qik(neg:Bool)(a b:Vx)(n c m d:Nat)(q:Rat)(w:Vz)(h:FracAt w neg a n c b m d q):
 Calls prog 79 #[.agg #[.bool neg,.slice a n c,.slice b m d]] w (FNew w (-q)):=by
 have e:mkRat (sgn (!neg) q.num.natAbs) q.den= -q:=by
  rw[Qo3,h.neg,Qbx,<-Rat.neg_mkRat,Rat.mkRat_self]
 have x:=Hi (fun w' i=>Qd5 (!neg) a b n c m d q.num.natAbs q.den w' (h.top.below i) ((h.low.below i).lowIn) q.reduced);rw[e] at x;clear h e;go_enter func79,ntmps79;obtain⟨y,g⟩:=Ia (SB.new2 w 141 141 #[.bool neg,.slice a n c,.slice b m d] zeroFrac) (Below.new2 w (.cells #[.bool neg,.slice a n c,.slice b m d] 141) (.cells zeroFrac 141));go_wp2_with fail;go_fit (x.o _ g.o);rintro e A ⟨⟨F,rfl,k⟩,i⟩;obtain⟨f,l,p,r,s,t,d9,rfl,k⟩:=k;have hs:=y.o.below i y.o.lt;have B:=hs.cell 0;have C:=hs.cell 1;have D:=hs.cell 2;have f0:=hs.free 0;have f1:=hs.free 1;have f2:=hs.free 2;simp[zeroFrac] at B C D;obtain⟨E,j,u⟩:=Ib k hs (g.o.trans (i.mono g.o.size));clear k hs i;go_wp2
 refine bodyPost_ret (v:=.agg #[.bool f,.slice l p r,.slice s t d9]) (results_cell_row rfl _ _ (w.heap.size+1) 141 #[.bool f,.slice l p r,.slice s t d9] (0,0) _ rfl (((j.o.set 0 _).set 1 _).set 2 _) underlying141 rfl Tryz.fracInfo) rfl ?_;have z:=(((Only.refl (w.heap.size+1) A).setCell 0 (.bool f)).setCell 1 (.slice l p r)).setCell 2 (.slice s t d9);exact⟨⟨_,rfl,f,l,p,r,s,t,d9,rfl,E.o.only z j.o Qbi⟩,Only.fresh u.o z (by omega)⟩
theorem Qow{p q:Bool}{x y:Nat}(h:p≠q)(a:x<=y):sgn q (y - x)=sgn p x+sgn q y:=by
 cases p<;>cases q<;>simp[sgn] at h ⊢ <;>omega
theorem Qox{p q:Bool}{x y:Nat}(h:p≠q)(a:y<=x):sgn p (x - y)=sgn p x+sgn q y:=by
 cases p<;>cases q<;>simp[sgn] at h ⊢ <;>omega
theorem Qoy(p:Bool)(x y:Nat):sgn p (x+y)=sgn p x+sgn p y:=by
 cases p<;>simp[sgn]<;>omega
theorem Qoz{x j k:Nat}(h:x<2 ^ j)(hk:j<=k):x<2 ^ k:=Nat.lt_of_lt_of_le h (Nat.pow_le_pow_right (by decide) hk)
theorem NBag.grow{w0 w:Vz}{L:List Ent}{a:Vx}{n c x j k:Nat}(h:NBag w0 w (⟨a,n,c,x,j⟩ :: L))(hk:j<=k):NBag w0 w (⟨a,n,c,x,k⟩ :: L):=
 ⟨h.base,fun t b=>by
   rcases List.mem_cons.1 b with rfl|b
   . exact⟨(h.ts _ (List.Mem.head _)).1,Qoz (h.ts _ (List.Mem.head _)).2 hk⟩
   . exact h.ts t (List.mem_cons_of_mem _ b)⟩
theorem NBag.rebase{w0 w:Vz}{L:List Ent}(h:NBag w0 w L):NBag w w L:=⟨Below.refl _ _,h.ts⟩
def Signed(w0:Vz)(L:List Ent)(k:Nat)(z:Int)(e:Ending)(w':Vz):Prop:=∃r a n c t,e=.returned (.tuple #[.bool r,.slice a n c])/\NBag w0 w' (⟨a,n,c,t,k⟩ :: L)/\sgn r t=z
theorem NBag.addSigned{w0 w:Vz}{L:List Ent}{v z:Vx}{n1 A c1 c2 x y j k:Nat}{p q:Bool}(h:NBag w0 w L)(g:⟨v,n1,c1,x,j⟩∈ L)(i:⟨z,A,c2,y,k⟩∈ L)(t:j+k<274877906000):
 Calls prog 176 #[.bool p,.slice v n1 c1,.bool q,.slice z A c2] w (Signed w0 L (j+k+1) (sgn p x+sgn q y)):=by
 by_cases d:p=q
 .
  subst d;have f:=Hi (h.add g i t);clear h g i t;go_enter func176,ntmps176;go_wp2_with fail;go_fit f.o;rintro e r ⟨a,n,c,rfl,b⟩;have l:=Hi b;clear b f;go_wp2;go_ret2;exact⟨p,a,n,c,x+y,rfl,l.o,Qoy p x y⟩
 .
  have B:(p == q)=false:=by simpa using d
  obtain⟨s,C,D,E⟩:=Ic (h.compare g i) g i d;clear h g i t d;by_cases u:x<y
  .
   have m:=(Qaw x y).2 u;go_enter func176,ntmps176;go_wp2_with fail;go_fit s.o;rintro e r ⟨rfl,b⟩;have f:=Hi (b.sub D.o C.o (by omega));clear b s;go_wp2_with fail;go_fit f.o;rintro e r ⟨a,n,c,rfl,b⟩;have l:=Hi b;clear b f;go_wp2;go_ret2;exact⟨q,a,n,c,y - x,rfl,l.o.grow (by omega),Qow E.o (by omega)⟩
  .
   have m:¬(cmp3 x y<0):=fun h=>by have:=(Qaw x y).1 h;omega
   go_enter func176,ntmps176;go_wp2_with fail;go_fit s.o;rintro e r ⟨rfl,b⟩;have f:=Hi (b.sub C.o D.o (by omega));clear b s;go_wp2_with fail;go_fit f.o;rintro e r ⟨a,n,c,rfl,b⟩;have l:=Hi b;clear b f;go_wp2;go_ret2;exact⟨p,a,n,c,x - y,rfl,l.o.grow (by omega),Qox E.o (by omega)⟩
theorem Qo0{neg:Bool}{t k g:Nat}(hk:0<k)(b:Nat.gcd t k=g):mkRat (sgn neg (t / g)) (k / g)=mkRat (sgn neg t) k/\Nat.Coprime (t / g) (k / g)/\0<k / g/\0<g:=by
 have d:0<g:=by rw[<-b];exact Nat.gcd_pos_of_pos_right _ hk
 have d1:=b ▸ Nat.gcd_dvd_left _ _;have d2:=b ▸ Nat.gcd_dvd_right _ _;have e:=Nat.div_mul_cancel d1;have c:=Nat.div_mul_cancel d2;refine⟨?_,by have:=Nat.coprime_div_gcd_div_gcd (m:=t) (n:=k) (by omega);rw[b] at this;exact this,?_,d⟩
 .
  rw[<-Rat.mkRat_mul_right (a:=g) (by omega),c]
  congr 1
  have:=Qcc neg false (t / g) g;rw[show sgn false g=(g:Int) from rfl,e,Bool.bne_false] at this;exact this.symm
 .
  rcases Nat.eq_zero_or_pos (k / g) with h|h
  . rw[h] at c;omega
  . exact h
theorem NBag.start{w:Vz}{a b:Vx}{n c m d t k i j:Nat}(e:NumV w a n c t)(hk:NumV w b m d k)(f:t<2 ^ i)(g:k<2 ^ j):NBag w w [⟨a,n,c,t,i⟩,⟨b,m,d,k,j⟩]:=by
 refine⟨Below.refl _ _,fun s hs=>?_⟩;simp only[List.mem_cons,List.not_mem_nil,or_false] at hs;rcases hs with rfl|rfl
 . exact⟨e,f⟩
 . exact⟨hk,g⟩
theorem Qo1(neg:Bool)(a b:Vx)(n c m d t k i j:Nat)(w:Vz)(E:NumV w a n c t)(hk:NumV w b m d k)(F:t<2 ^ i)(H:k<2 ^ j)(I:i+j<137438953000):
 Calls prog 135 #[.bool neg,.slice a n c,.slice b m d] w (FNew w (mkRat (sgn neg t) k)):=by
 have J:=hk.zero_iff;by_cases K:k=0
 .
  have O:=J.1 K;subst K O;rw[Rat.mkRat_zero];have S:=Hi ((Below.refl w.heap.size w).alloc lZ (.cells #[.bool false,.slice none 0 0,.slice none 0 0] 141));clear E hk F H I J;go_enter func135,ntmps135;go_wp2;refine bodyPost_ret (v:=.agg #[.bool false,.slice none 0 0,.slice none 0 0]) (results_cell_row rfl _ _ w.heap.size 141 #[.bool false,.slice none 0 0,.slice none 0 0] (0,0) _ rfl (SB.new w _ _) underlying141 rfl Tryz.fracInfo) rfl ?_;exact⟨⟨_,rfl,FracV.zero _⟩,S.o⟩
 .
  have O:((m:Int) == 0)=false:=by rw[beq_eq_false_iff_ne];omega
  obtain⟨G,hG⟩:=nm (Nat.gcd t k);obtain⟨P,Q,L,T⟩:=Qo0 (neg:=neg) (by omega) hG;rw[<-P];have g:=Hi (((NBag.start E hk F H).alloc (.cells zeroFrac 141)).rebase);obtain⟨x,q⟩:=nm (w.alloc (.cells zeroFrac 141));obtain⟨r,f⟩:=Ia (SB.new w 141 zeroFrac) ((Below.refl w.heap.size w).alloc lZ (.cells zeroFrac 141));rw[q] at g r f;obtain⟨U,V,M⟩:=Ib Q hG q;clear E hk F H J K Q hG P q;go_enter func135,ntmps135;go_wp2_with fail;rw[show w.alloc (.cells #[.bool false,.slice none 0 0,.slice none 0 0] 141)=x from M.o];apply cM;apply NBag.gcd (w0:=x) g.o;(repeat(first|exact mH|apply mT));omega;rw[V.o];rintro e w1 ⟨aG,nG,cG,rfl,l⟩;clear g;have g:=Hi l;clear l;go_wp2_with fail
  apply cM;apply NBag.quot (w0:=x) g.o;(repeat(first|exact mH|apply mT));omega;(first|assumption|omega);rintro e w2 ⟨W,X,Y,rfl,l⟩;clear g;have g:=Hi l;clear l;go_wp2_with fail;apply cM;apply NBag.quot (w0:=x) g.o;(repeat(first|exact mH|apply mT));omega;(first|assumption|omega);rintro e w3 ⟨Z,nL,cL,rfl,l⟩;clear g;have g:=Hi l;clear l;go_wp2_with fail;have s:=Hi (r.o.below g.o.base r.o.lt);have p:=Hi (f.o.trans (g.o.base.mono f.o.size));clear r f;have r:=s;have f:=p;clear s p
  go_fit (Qd5 neg W Z X Y nL cL (t / G) (k / G) _ (g.o.get (List.Mem.tail _ (List.Mem.head _))).1 (.inr ⟨L,(g.o.get (List.Mem.head _)).1⟩) U.o);rintro e w9 ⟨⟨v9,rfl,y⟩,l⟩;obtain⟨h,z,A,B,C,D,d9,rfl,y⟩:=y;have hs:=r.o.below l r.o.lt;have k0:=hs.cell 0;have k1:=hs.cell 1;have k2:=hs.cell 2;have f0:=hs.free 0;have f1:=hs.free 1;have f2:=hs.free 2;simp[zeroFrac] at k0 k1 k2;obtain⟨HV,u,N⟩:=Ib y hs (f.o.trans (l.mono f.o.size));clear y hs l;go_wp2;refine bodyPost_ret (v:=.agg #[.bool h,.slice z A B,.slice C D d9]) (results_cell_row rfl _ _ (w.heap.size) 141 #[.bool h,.slice z A B,.slice C D d9] (0,0) _ rfl (((u.o.set 0 _).set 1 _).set 2 _) underlying141 rfl Tryz.fracInfo) rfl ?_;have R:=(((Only.refl (w.heap.size) w9).setCell 0 (.bool h)).setCell 1 (.slice z A B)).setCell 2 (.slice C D d9)
  exact⟨⟨_,rfl,h,z,A,B,C,D,d9,rfl,HV.o.only R u.o Qbi⟩,Only.fresh N.o R (by omega)⟩
theorem NBag.under{w0 w:Vz}{L:List Ent}{neg:Bool}{a b:Vx}{n c m d k e:Nat}(h:NBag w0 w L)(hl:Low w0 b m d k)(hk:k<2 ^ e):
 Calls prog 161 #[.agg #[.bool neg,.slice a n c,.slice b m d]] w (NNew w0 L k e):=Qov neg a b n c m d k e w0 w L h (hl.below h.base) hk
theorem NBag.built{w0 w:Vz}{L:List Ent}{neg:Bool}{a b:Vx}{n c m d t k i j:Nat}(h:NBag w0 w L)(e:⟨a,n,c,t,i⟩∈ L)(f:⟨b,m,d,k,j⟩∈ L)(hk:0<k)(g:Nat.Coprime t k):
 Calls prog 130 #[.bool neg,.slice a n c,.slice b m d] w (FNew w (mkRat (sgn neg t) k)):=Qd5 neg a b n c m d t k w (h.get e).1 (.inr ⟨hk,(h.get f).1⟩) g
theorem NBag.isZero{w0 w:Vz}{L:List Ent}{a b:Vx}{n c t k m d:Nat}{neg:Bool}(h:NBag w0 w L)(f:⟨a,n,c,t,k⟩∈ L):
 Calls prog 127 #[.agg #[.bool neg,.slice a n c,.slice b m d]] w (fun e w'=>e=.returned (.bool (decide (t=0)))/\NBag w0 w' L):=by
 refine(Qij neg a b n c m d t w (h.get f).1).mono ?_;rintro e w' ⟨rfl,g⟩;exact⟨rfl,h.below g⟩
theorem Qil(C D:Bool)(I bx J K:Vx)(L M N P Q R S T i j:Nat)(p q:Rat)(w:Vz)(hx:FracAt w C I L M bx N P p)(hy:FracAt w D J Q R K S T q)(hp:Fits p i)(hq:Fits q j)(ap:i+j<68719476000):
 Calls prog 160 #[.agg #[.bool C,.slice I L M,.slice bx N P],.agg #[.bool D,.slice J Q R,.slice K S T]] w (FNew w (p*q)):=by
 obtain⟨HX,HY,ae,af⟩:=Ic hx hy hp hq;obtain⟨CX,ag⟩:=nm (#[Value.bool C,.slice I L M,.slice bx N P]);obtain⟨CY,ah⟩:=nm (#[Value.bool D,.slice J Q R,.slice K S T]);obtain⟨a,E,F,G,c⟩:=Id ((((((NBag.start hx.top hy.top hp.1 hq.1).alloc (.cells CX 141)).alloc (.cells CY 141)).alloc (.cells zeroFrac 141)).rebase)) (SB.new3 w 141 141 141 CX CY zeroFrac) ((SB.new2 w 141 141 CX CY).alloc (.cells zeroFrac 141)) (((SB.new w 141 CX).alloc (.cells CY 141)).alloc (.cells zeroFrac 141)) (Below.new3 w (.cells CX 141) (.cells CY 141) (.cells zeroFrac 141));obtain⟨z,V⟩:=nm ((((w.alloc (.cells CX 141)).alloc (.cells CY 141)).alloc (.cells zeroFrac 141)));rw[V] at a E F G c;subst ag ah;obtain⟨ai,aj⟩:=Ia (hx.low.below c.o) (hy.low.below c.o);have d:=G.o.lt
 have f:=F.o.lt;obtain⟨g,h,k,l,m,n⟩:=Ie (G.o.cell 0) (G.o.cell 1) (G.o.cell 2) (F.o.cell 0) (F.o.cell 1) (F.o.cell 2);simp at g h k l m n;have W:=Hi V;have aq:w.heap.size+1+1≠w.heap.size:=by omega
 have ar:w.heap.size+1+1≠w.heap.size+1:=by omega
 clear hx hy hp hq V;by_cases X:p.num.natAbs=0
 .
  have ak:p=0:=Rat.num_eq_zero.1 (by omega);rw[show p*q=0 by rw[ak,Rat.zero_mul]];go_enter func160,ntmps160;obtain⟨r,s,t⟩:=Jb a.o.base d g.o h.o k.o;obtain⟨u,x,y⟩:=Jb a.o.base f l.o m.o n.o;go_wp2_with fail;rw[show (((w.alloc (.cells #[.bool C,.slice I L M,.slice bx N P] 141)).alloc (.cells #[.bool D,.slice J Q R,.slice K S T] 141)).alloc (.cells #[.bool false,.slice none 0 0,.slice none 0 0] 141))=z from W.o];apply cM;apply NBag.isZero (w0:=z) a.o
  (repeat(first|exact mH|apply mT));rw[(decide_eq_true X)];rintro e w1 ⟨rfl,b⟩;have hs:=E.o.below b.base E.o.lt;have k0:=hs.cell 0;have k1:=hs.cell 1;have k2:=hs.cell 2;have f0:=hs.free 0;have f1:=hs.free 1;have f2:=hs.free 2;simp[zeroFrac] at k0 k1 k2;obtain⟨B,H⟩:=Ia hs (c.o.trans (b.base.mono c.o.size));clear b hs a;go_wp2;refine bodyPost_ret (v:=.agg #[.bool false,.slice none 0 0,.slice none 0 0]) (results_cell_row rfl _ _ (w.heap.size+1+1) 141 #[.bool false,.slice none 0 0,.slice none 0 0] (0,0) _ rfl (((B.o.set 0 _).set 1 _).set 2 _) underlying141 rfl Tryz.fracInfo) rfl ?_;have ho:=(((Only.refl (w.heap.size+1+1) w1).setCell 0 (.bool false)).setCell 1 (.slice none 0 0)).setCell 2 (.slice none 0 0);exact⟨⟨_,rfl,FracV.zero _⟩,Only.fresh H.o ho (by omega)⟩
 .
  by_cases aa:q.num.natAbs=0
  .
   have al:q=0:=Rat.num_eq_zero.1 (by omega);rw[show p*q=0 by rw[al,Rat.mul_zero]];go_enter func160,ntmps160;obtain⟨r,s,t⟩:=Jb a.o.base d g.o h.o k.o;obtain⟨u,x,y⟩:=Jb a.o.base f l.o m.o n.o;go_wp2_with fail;rw[show (((w.alloc (.cells #[.bool C,.slice I L M,.slice bx N P] 141)).alloc (.cells #[.bool D,.slice J Q R,.slice K S T] 141)).alloc (.cells #[.bool false,.slice none 0 0,.slice none 0 0] 141))=z from W.o];apply cM;apply NBag.isZero (w0:=z) a.o
   (repeat(first|exact mH|apply mT));rw[(decide_eq_false X)];rintro e w1 ⟨rfl,b⟩;clear a;have a:=Hi b;clear b;obtain⟨r,s,t⟩:=Jb a.o.base d g.o h.o k.o;obtain⟨u,x,y⟩:=Jb a.o.base f l.o m.o n.o;go_wp2_with fail;apply cM;apply NBag.isZero (w0:=z) a.o;(repeat(first|exact mH|apply mT));rw[(decide_eq_true aa)];rintro e w2 ⟨rfl,b⟩;have hs:=E.o.below b.base E.o.lt;have k0:=hs.cell 0;have k1:=hs.cell 1;have k2:=hs.cell 2;have f0:=hs.free 0
   have f1:=hs.free 1;have f2:=hs.free 2;simp[zeroFrac] at k0 k1 k2;obtain⟨B,H⟩:=Ia hs (c.o.trans (b.base.mono c.o.size));clear b hs a;go_wp2;refine bodyPost_ret (v:=.agg #[.bool false,.slice none 0 0,.slice none 0 0]) (results_cell_row rfl _ _ (w.heap.size+1+1) 141 #[.bool false,.slice none 0 0,.slice none 0 0] (0,0) _ rfl (((B.o.set 0 _).set 1 _).set 2 _) underlying141 rfl Tryz.fracInfo) rfl ?_;have ho:=(((Only.refl (w.heap.size+1+1) w2).setCell 0 (.bool false)).setCell 1 (.slice none 0 0)).setCell 2 (.slice none 0 0);exact⟨⟨_,rfl,FracV.zero _⟩,Only.fresh H.o ho (by omega)⟩
  .
   obtain⟨he,ab⟩:=Qo4 p q rfl rfl;rw[<-HX.o.neg,<-HY.o.neg] at he;have HE:O (mkRat (sgn (!C == D) (p.num.natAbs / Nat.gcd p.num.natAbs q.den*(q.num.natAbs / Nat.gcd q.num.natAbs p.den))) (p.den / Nat.gcd q.num.natAbs p.den*(q.den / Nat.gcd p.num.natAbs q.den))=p*q):=Hi he;obtain⟨am,ao⟩:=Ia ab (show 0<p.den / Nat.gcd q.num.natAbs p.den*(q.den / Nat.gcd p.num.natAbs q.den) from Nat.mul_pos (Nat.div_pos (Nat.gcd_le_right _ p.den_pos) (Nat.gcd_pos_of_pos_right _ p.den_pos)) (Nat.div_pos (Nat.gcd_le_right _ q.den_pos) (Nat.gcd_pos_of_pos_right _ q.den_pos)));clear he ab;obtain⟨Y,Z⟩:=Ia (show 0<Nat.gcd p.num.natAbs q.den from Nat.gcd_pos_of_pos_right _ q.den_pos) (show 0<Nat.gcd q.num.natAbs p.den from Nat.gcd_pos_of_pos_right _ p.den_pos);go_enter func160,ntmps160;have r:=ce a.o.base d g.o
   obtain⟨s,t⟩:=Ja a.o.base d h.o k.o;obtain⟨u,x,y⟩:=Jb a.o.base f l.o m.o n.o;go_wp2_with fail;rw[show (((w.alloc (.cells #[.bool C,.slice I L M,.slice bx N P] 141)).alloc (.cells #[.bool D,.slice J Q R,.slice K S T] 141)).alloc (.cells #[.bool false,.slice none 0 0,.slice none 0 0] 141))=z from W.o];apply cM;apply NBag.isZero (w0:=z) a.o;(repeat(first|exact mH|apply mT));rw[(decide_eq_false X)];rintro e w1 ⟨rfl,b⟩;clear a;have a:=Hi b;clear b;have r:=ce a.o.base d g.o
   obtain⟨s,t⟩:=Ja a.o.base d h.o k.o;obtain⟨u,x,y⟩:=Jb a.o.base f l.o m.o n.o;go_wp2_with fail;apply cM;apply NBag.isZero (w0:=z) a.o;(repeat(first|exact mH|apply mT));rw[(decide_eq_false aa)];rintro e w2 ⟨rfl,b⟩;clear a;have a:=Hi b;clear b;obtain⟨r,s,t⟩:=Jb a.o.base d g.o h.o k.o;have u:=ce a.o.base f l.o
   obtain⟨x,y⟩:=Ja a.o.base f m.o n.o;go_wp2_with fail;go_region_held3
    (fun w'=>w'.cell? ⟨w.heap.size,0,none⟩=some (.bool C)/\w'.cell? ⟨w.heap.size,1,none⟩=some (.slice I L M)/\w'.cell? ⟨w.heap.size,2,none⟩=some (.slice bx N P)/\w'.cell? ⟨w.heap.size+1,0,none⟩=some (.bool D)/\w'.cell? ⟨w.heap.size+1,1,none⟩=some (.slice J Q R)/\w'.cell? ⟨w.heap.size+1,2,none⟩=some (.slice K S T)) ((first|(simp [*];done)|go_keep))
    (first
    |
     (go_at_call_of 161 (Value.agg #[.bool C,.slice I L M,.slice bx N P])
      apply cM;apply NBag.under (w0:=z) (hl:=ai.o) (hk:=ae.o.2);(focus(first|exact a.o|exact a.o.drew|exact a.o.drew.drew));rintro e w3 ⟨aA,nA,cA,rfl,b⟩;clear a;have a:=Hi b;clear b;obtain⟨r,s,t⟩:=Jb a.o.base d g.o h.o k.o;obtain⟨u,x,y⟩:=Jb a.o.base f l.o m.o n.o
      skip)
    |
     (go_at_call_of 161 (Value.agg #[.bool D,.slice J Q R,.slice K S T])
      apply cM;apply NBag.under (w0:=z) (hl:=aj.o) (hk:=af.o.2);(focus(first|exact a.o|exact a.o.drew|exact a.o.drew.drew));rintro e w4 ⟨aB,nB,cB,rfl,b⟩;clear a;have a:=Hi b;clear b;obtain⟨r,s,t⟩:=Jb a.o.base d g.o h.o k.o;obtain⟨u,x,y⟩:=Jb a.o.base f l.o m.o n.o
      skip)
    )
   go_wp2_with fail;go_region_held3
    (fun w'=>w'.cell? ⟨w.heap.size,0,none⟩=some (.bool C)/\w'.cell? ⟨w.heap.size,1,none⟩=some (.slice I L M)/\w'.cell? ⟨w.heap.size,2,none⟩=some (.slice bx N P)/\w'.cell? ⟨w.heap.size+1,0,none⟩=some (.bool D)/\w'.cell? ⟨w.heap.size+1,1,none⟩=some (.slice J Q R)/\w'.cell? ⟨w.heap.size+1,2,none⟩=some (.slice K S T)) ((first|(simp [*];done)|go_keep))
    ((skip
      first
       |(
        go_at_call 168;apply cM
        apply NBag.gcd (w0:=z))
       |(
        go_at_call 169;apply cM
        apply NBag.quot (w0:=z))
       |(
        go_at_call 177;apply cM
        apply NBag.mul (w0:=z))
      (focus(first|exact a.o|exact a.o.drew|exact a.o.drew.drew));(repeat(first|exact mH|apply mT));omega
      try (focus(first|exact Y.o|exact Z.o))
      rintro e wn ⟨an,nn,cn,rfl,b⟩;clear a;have a:=Hi b;clear b;obtain⟨r,s,t⟩:=Jb a.o.base d g.o h.o k.o;obtain⟨u,x,y⟩:=Jb a.o.base f l.o m.o n.o
      skip))
   go_wp2_with fail;go_region_held3
    (fun w'=>w'.cell? ⟨w.heap.size,0,none⟩=some (.bool C)/\w'.cell? ⟨w.heap.size,1,none⟩=some (.slice I L M)/\w'.cell? ⟨w.heap.size,2,none⟩=some (.slice bx N P)/\w'.cell? ⟨w.heap.size+1,0,none⟩=some (.bool D)/\w'.cell? ⟨w.heap.size+1,1,none⟩=some (.slice J Q R)/\w'.cell? ⟨w.heap.size+1,2,none⟩=some (.slice K S T)) ((first|(simp [*];done)|go_keep))
    ((skip
      first
       |(
        go_at_call 168;apply cM
        apply NBag.gcd (w0:=z))
       |(
        go_at_call 169;apply cM
        apply NBag.quot (w0:=z))
       |(
        go_at_call 177;apply cM
        apply NBag.mul (w0:=z))
      (focus(first|exact a.o|exact a.o.drew|exact a.o.drew.drew));(repeat(first|exact mH|apply mT));omega
      try (focus(first|exact Y.o|exact Z.o))
      rintro e wn ⟨an,nn,cn,rfl,b⟩;clear a;have a:=Hi b;clear b;obtain⟨r,s,t⟩:=Jb a.o.base d g.o h.o k.o;obtain⟨u,x,y⟩:=Jb a.o.base f l.o m.o n.o
      skip))
   go_wp2_with
    ((skip
      first
       |(
        go_at_call 168;apply cM
        apply NBag.gcd (w0:=z))
       |(
        go_at_call 169;apply cM
        apply NBag.quot (w0:=z))
       |(
        go_at_call 177;apply cM
        apply NBag.mul (w0:=z))
      (focus(first|exact a.o|exact a.o.drew|exact a.o.drew.drew));(repeat(first|exact mH|apply mT));omega
      try (focus(first|exact Y.o|exact Z.o))
      rintro e wn ⟨an,nn,cn,rfl,b⟩;clear a;have a:=Hi b;clear b;obtain⟨r,s,t⟩:=Jb a.o.base d g.o h.o k.o;obtain⟨u,x,y⟩:=Jb a.o.base f l.o m.o n.o
      skip))
   have ad:=Hi (E.o.below a.o.base E.o.lt);have U:=Hi (c.o.trans (a.o.base.mono c.o.size));clear E c;have E:=ad;have c:=U;clear ad U;apply cM;apply NBag.built (w0:=z) a.o;(repeat(first|exact mH|apply mT));(focus(exact ao.o));(focus(exact am.o));rw[HE.o];rintro e w9 ⟨⟨v9,rfl,hv⟩,b⟩;obtain⟨A,a9,n9,c9,b9,m9,d9,rfl,hv⟩:=hv;have hs:=E.o.below b E.o.lt;have k0:=hs.cell 0;have k1:=hs.cell 1;have k2:=hs.cell 2;have f0:=hs.free 0;have f1:=hs.free 1;have f2:=hs.free 2;simp[zeroFrac] at k0 k1 k2;obtain⟨HV,B,H⟩:=Ib hv hs (c.o.trans (b.mono c.o.size));clear hv hs b;go_wp2
   refine bodyPost_ret (v:=.agg #[.bool A,.slice a9 n9 c9,.slice b9 m9 d9]) (results_cell_row rfl _ _ (w.heap.size+1+1) 141 #[.bool A,.slice a9 n9 c9,.slice b9 m9 d9] (0,0) _ rfl (((B.o.set 0 _).set 1 _).set 2 _) underlying141 rfl Tryz.fracInfo) rfl ?_;have ho:=(((Only.refl (w.heap.size+1+1) w9).setCell 0 (.bool A)).setCell 1 (.slice a9 n9 c9)).setCell 2 (.slice b9 m9 d9);exact⟨⟨_,rfl,A,a9,n9,c9,b9,m9,d9,rfl,HV.o.only ho B.o Qbi⟩,Only.fresh H.o ho (by omega)⟩
theorem Qed(s:Vs):s.toList= []↔s.data.toList= []:=by rw[Lib.toList_data]
def DigAns(s:Vs)(w:Vz)(e:Ending)(w':Vz):Prop:=(∃v,e=.returned (.bool v)/\(v=true↔IsDig s.data.toList))/\w'=w
theorem Qka(s:Vs)(w:Vz)(hs:s.size<=1073741824):
 Calls prog 133 #[.string s] w (DigAns s w):=by
 go_enter func133,ntmps133;go_wp2;go_loop [6] (fun i=>∃k:Nat,k<=s.size/\i=.int .i64 k/\AllDigits (s.data.toList.take k)) (fun i=>s.size - (intOf i).toNat)
 case atStart=>exact⟨0,by omega,rfl,fun c a=>by simp at a⟩
 case round=>
  obtain⟨k,hk,rfl,f⟩:=hrel;have g:=Hi f;clear f;by_cases b:k<s.size
  .
   have l:=Hi (Qfe s k b);have q:(0:Int)<=(k:Int):=by omega
   have r:(k:Int)<(s.size:Int):=by omega
   have j:O (s[k]∈ s.data.toList):=Hi (List.mem_iff_getElem.2 ⟨k,by simpa using b,rfl⟩);by_cases t:s[k].toNat<48
   .
    have m:((s[k].toNat:Int)<48):=by omega
    go_wp2;go_ret;refine⟨⟨false,rfl,?_⟩,rfl⟩;constructor
    . intro h;cases h
    . intro h;have:=(h.2 _ j.o).1;omega
   .
    have m:¬((s[k].toNat:Int)<48):=by omega
    by_cases u:57<s[k].toNat
    .
     have n:((57:Int)<(s[k].toNat:Int)):=by omega
     go_wp2;go_ret;refine⟨⟨false,rfl,?_⟩,rfl⟩;constructor
     . intro h;cases h
     . intro h;have:=(h.2 _ j.o).2;omega
    .
     have n:¬((57:Int)<(s[k].toNat:Int)):=by omega
     go_wp2;go_round
     case rel=>
      refine⟨k+1,by omega,by go_num,?_⟩;rw[l.o];intro c a;rcases List.mem_append.1 a with a|a
      . exact g.o c a
      . rw[List.mem_singleton.1 a];omega
     case measure=>simp[intOf];omega
  .
   have e:k=s.size:=by omega
   subst e;have p:O (AllDigits s.data.toList):=Hi (by have:=g.o;rwa [List.take_of_length_le (by simp)] at this);by_cases d:s.toList= []
   .
    go_wp2;go_ret;refine⟨⟨_,rfl,?_⟩,rfl⟩;have:¬IsDig s.data.toList:=fun h=>h.1 ((Qed s).1 d)
    simp[d,this]
   .
    go_wp2;go_ret;refine⟨⟨_,rfl,?_⟩,rfl⟩;have:IsDig s.data.toList:=⟨fun h=>d ((Qed s).2 h),p.o⟩;simp[d,this]
theorem Qkb(s:Vs)(w:Vz)(hs:s.size<=19)(n:AllDigits s.data.toList):
 Calls prog 167 #[.string s] w fun e w'=>e=.returned (.int .u64 ((decVal s.data.toList:Nat):Int))/\w'=w:=by
 have p:=Hi n;clear n;go_enter func167,ntmps167;go_wp2;go_loop [3,7] (fun r i=>∃k v:Nat,k<=s.size/\i=.int .i64 k/\r=.int .u64 v/\decVal (s.data.toList.take k)=v) (fun _ i=>s.size - (intOf i).toNat)
 case atStart=>exact⟨0,0,by omega,rfl,rfl,by simp[decVal]⟩
 case round=>
  obtain⟨k,v,hk,rfl,rfl,b⟩:=hrel;have j:=Hi b;clear b;by_cases c:k<s.size
  .
   have a:=Qff p.o k c;have q:=Hi (Qfe s k c);obtain⟨d,t,f,u⟩:=Qis s[k] a.1 a.2;have l:=Hi f;have C:(0:Int)<=(k:Int):=by omega
   have D:(k:Int)<(s.size:Int):=by omega
   have x:(48:Int)+(d:Int) - 48=d:=by omega
   have y:v<1000000000000000000:=by
    have z:=Qa3 _ (p.o.take k);rw[j.o] at z;have A:(s.data.toList.take k).length<=18:=by rw[List.length_take];omega
    have E:10 ^ (s.data.toList.take k).length<=10 ^ 18:=Nat.pow_le_pow_right (by decide) A;omega
   obtain⟨h,g⟩:∃h,v*10+d=h:=⟨_,rfl⟩;have B:=Hi g;have F:(v:Int)*10+(d:Int)=(h:Int):=by omega
   clear f a g;go_wp2;go_round
   case rel=>exact⟨k+1,h,by omega,by go_num,by go_num,by rw[q.o,Qfd,j.o,l.o,<-B.o];omega⟩
   case measure=>simp[intOf];omega
  .
   have m:k=s.size:=by omega
   subst m;go_wp2;go_ret;have b:=j.o;rw[List.take_of_length_le (by simp)] at b;exact⟨by rw[b];rfl,rfl⟩
structure OwnB (w:Vz) (B g cap:Nat) (ws:Vy):Prop where
 base:B<=g
 fit:ws.length<=cap
 most:cap<=maxLen
 blk:∃C,SB w g 170 C/\C.size=cap/\C.toList.take ws.length=ws.map (fun n:Nat=>Value.int .u64 n)
theorem OwnB.lt{w:Vz}{B g cap:Nat}{a:Vy}(h:OwnB w B g cap a):g<w.heap.size:=by obtain⟨C,h,_⟩:=h.blk;exact h.lt
theorem OwnB.owns{w:Vz}{B g cap:Nat}{a:Vy}(h:OwnB w B g cap a):w.ownsRow B 170 1 (.slice (some ⟨g,0,none⟩) a.length cap) a.length (a.map (fun n:Nat=>Value.int .u64 n)):=by
 obtain⟨C,b,d,c⟩:=h.blk;exact⟨by simp,.inr ⟨g,cap,C,rfl,h.base,b,h.fit,h.most,by omega,by rw[Nat.mul_one];exact c⟩⟩
theorem OwnB.of{w:Vz}{B g n cap:Nat}{b:Vy}(d:b.length=n)(h:w.ownsRow B 170 1 (.slice (some ⟨g,0,none⟩) n cap) n (b.map (fun n:Nat=>Value.int .u64 n))):OwnB w B g cap b:=by
 rcases h.2 with ⟨h,_⟩|⟨l,cap',C,e,f,i,m,j,hs,c⟩
 . cases h
 .
  injection e with a o k
  injection a with a
  injection a with a _ _
  subst a;subst k;rw[Nat.mul_one] at hs c;exact⟨f,by omega,j,C,i,hs,by rw[d];exact c⟩
theorem OwnB.at{w:Vz}{B g cap:Nat}{a:Vy}(h:OwnB w B g cap a)(i:Nat)(b:i<a.length):w.cell? ⟨g,i,none⟩=some (.int .u64 ((a.getD i 0:Nat):Int)):=by
 obtain⟨C,c,f,d⟩:=h.blk;rw[c.cell];have e:(C.toList.take a.length)[i]?=(a.map (fun n:Nat=>Value.int .u64 (n:Int)))[i]?:=by rw[d]
 rw[List.getElem?_take_of_lt b,List.getElem?_map,gE b] at e;rw[Array.getElem?_toList] at e;rw[e,List.getD_eq_getElem?_getD,gE b];rfl
theorem OwnB.free{w:Vz}{B g cap:Nat}{a:Vy}(h:OwnB w B g cap a)(i:Nat):w.frozen? ⟨g,i,none⟩=false:=by
 obtain⟨C,b,_⟩:=h.blk;exact b.free i
theorem OwnB.set{w:Vz}{B g cap:Nat}{a:Vy}(h:OwnB w B g cap a)(i x:Nat):OwnB (w.setCell ⟨g,i,none⟩ (.int .u64 (x:Int))) B g cap (a.set i x):=by
 obtain⟨C,b,c,d⟩:=h.blk;refine⟨h.base,by rw[List.length_set];exact h.fit,h.most,_,b.set i _,by rw[Array.size_setIfInBounds];exact c,?_⟩;rw[List.length_set,Array.toList_setIfInBounds,List.take_set,d,List.map_set]
theorem OwnB.pre{w:Vz}{B g cap:Nat}{a:Vy}(h:OwnB w B g cap a):Pre w g a:=by
 have c:=h;obtain⟨C,b,e,f⟩:=h.blk;exact⟨C,b,fun i d=>by rw[<-b.cell];exact c.at i d⟩
theorem Qsa{a:Vy}{x:Nat}(hs:Small 18446744073709551616 a)(c:val 18446744073709551616 a=x)(b:a.length=0∨18446744073709551616 ^ (a.length - 1)<=x):Num 18446744073709551616 a x:=by
 refine⟨hs,?_,c⟩;rcases b with b|b
 . left;exact List.length_eq_zero_iff.1 b
 .
  by_cases e:a.length=0
  . left;exact List.length_eq_zero_iff.1 e
  right;intro d;obtain⟨j,f⟩:∃j,a.length=j+1:=⟨a.length - 1,by omega⟩;have g:=Qbu 18446744073709551616 a j (by omega);rw[f,Nat.add_sub_cancel] at d b;rw[d,Nat.mul_zero,Nat.add_zero,List.take_of_length_le (by omega),c] at g;have h:=Qaa (B:=18446744073709551616) (by decide) (hs.take j);rw[List.length_take,Nat.min_eq_left (by omega)] at h;omega
theorem Qsb{B k over d R h l a:Nat}{rs b:Vy}(hk:k<rs.length)(c:b.getD k 0=d)(e:l+B*h=d*R+over)(g:val B (rs.take k)+B ^ k*over=val B (b.take k)*R+a):
 val B ((rs.set k l).take (k+1))+B ^ (k+1)*h=val B (b.take (k+1))*R+a:=by
 rw[take_set _ _ _ hk,Qak,List.length_take,Nat.min_eq_left (by omega),Qac,c,Nat.pow_succ];have f:B ^ k*(l+B*h)=B ^ k*(d*R+over):=by rw[e]
 rw[Nat.mul_add,Nat.mul_add,<-Nat.mul_assoc] at f;rw[Nat.add_mul,Nat.mul_assoc (B ^ k) d R];omega
theorem Tryz.info64':∃i,prog.info? 170=some i/\i.zero=some (.int .u64 0)/\i.size=1/\i.bytes=8:=info_parts Tryz.info64
theorem Qj4(B g cap:Nat)(c:Vy)(x a:Nat)(w:Vz)(h:OwnB w B g cap c)(hx:Num 18446744073709551616 c x)(hc:a<18446744073709551616)(hl:c.length<1099511627770)(y:B<=w.heap.size):
 Calls prog 166 #[.slice (some ⟨g,0,none⟩) c.length cap,.int .u64 a] w fun e w'=>(∃g' cap' s,e=.returned (.slice (some ⟨g',0,none⟩) (List.length s) cap')/\OwnB w' B g' cap' s/\Num 18446744073709551616 s (x*10000000000000000000+a)/\s.length<=c.length+1)/\Below B w w'/\w.heap.size<=w'.heap.size:=by
 obtain⟨i0,hi,z,A,hz2⟩:=Tryz.info64';obtain⟨HI,T,U,V⟩:=Ic hi z A hz2;have ag:=h.fit;obtain⟨Q,C⟩:=Ia h hx;clear h hx hi z A hz2;go_enter func166,ntmps166;go_wp2;go_loopw [5,10] (fun ov W wr=>∃(k over:Nat) (rs:Vy),k<=c.length/\W=.int .i64 k/\ov=.int .u64 over/\over<18446744073709551616/\OwnB wr B g cap rs/\rs.length=c.length/\Small 18446744073709551616 rs/\(∀p,k<=p->rs.getD p 0=c.getD p 0)/\val 18446744073709551616 (rs.take k)+18446744073709551616 ^ k*over=val 18446744073709551616 (c.take k)*10000000000000000000+a/\Only g w wr) (fun _ W _=>c.length - (intOf W).toNat)
 case atStart=>exact⟨0,a,c,by omega,rfl,rfl,hc,Q.o,rfl,C.o.small,fun _ _=>rfl,by simp[val],Only.refl _ _⟩
 case round=>
  obtain⟨k,over,rs,hk,rfl,rfl,D,f,E,F,G,hv,H⟩:=hrel;obtain⟨i,b,v,I,HV,j⟩:=Ie f E F G hv H;have ai:=f.lt;clear f E F G hv H;by_cases aj:k<c.length
  .
   obtain⟨d,R⟩:=nm (c.getD k 0);have X:d<18446744073709551616:=by rw[<-R];exact C.o.small.getD (by omega) k
   have g1:=i.o.free k;have S:=i.o.at k (by have:=b.o;omega);rw[I.o k lZ,R] at S;obtain⟨h,l,hh,Y,J,K⟩:=Qde d 10000000000000000000 over X (by decide) D;obtain⟨L,HD,Z⟩:=Ib K R J;clear K R J;go_wp2_with fail;go_fit (L.o _);rintro e w2 ⟨rfl,aa⟩;subst aa;clear L;go_wp2;go_roundw
   case rel=>
    refine⟨k+1,h,rs.set k l,by omega,by go_num,rfl,hh,i.o.set k l,by rw[List.length_set];exact b.o,v.o.set _ Y,?_,Qsb (by have:=b.o;omega) HD.o Z.o HV.o,j.o.setCell _ _⟩;intro p hp;rw[getD_set_ne _ _ _ _ (by omega)];exact I.o p (by omega)
   case measure=>simp[intOf];omega
  .
   have ab:k=c.length:=by omega
   subst ab;have M:O (val 18446744073709551616 rs+18446744073709551616 ^ rs.length*over=x*10000000000000000000+a):=Hi (by
    have:=HV.o;rw[List.take_of_length_le (by rw[b.o];exact Nat.le_refl _),List.take_length,C.o.eq] at this
    rw[b.o];exact this)
   by_cases ad:over=0
   .
    subst ad;go_wp2;go_ret;have hv3:=M.o;rw[Nat.mul_zero,Nat.add_zero] at hv3;refine⟨⟨g,cap,rs,by rw[b.o];rfl,i.o,Qsa v.o hv3 ?_,by rw[b.o];omega⟩,j.o.below Q.o.base y,j.o.size⟩;by_cases hz:rs.length=0
    . exact .inl hz
    right;rw[b.o] at hz ⊢;have h1:18446744073709551616 ^ (c.length - 1)<=x:=by have:=C.o.trim.pow_le (B:=18446744073709551616) (by omega);rw[C.o.eq] at this;exact this
    omega
   .
    have q0:((over:Int) != 0)=true:=by rw[bne_iff_ne];omega
    have ak:=Hi b.o;have al:=j.o.size;rw[<-b.o];have ah:rs.length<1099511627770:=by rw[b.o];exact hl
    go_wp2_with (at_builtin;refine wpList_append_lies _ rfl _ _ 139 rfl B 170 i0 (.int .u64 0) 1 8 underlying139 HI.o T.o U.o V.o rfl (by decide) _ rs.length (rs.map (fun n:Nat=>Value.int .u64 n)) rfl (Qbl i.o.owns (bR.alloc lZ _)) ⟨wr.heap.size,0,none⟩ 1 1 [Value.int .u64 (over:Int)] rfl rfl ?c1 ?c2 (by decide) ?c3 ?c4 ?c5 _ rfl ?_)
    case c1=>exact World.news_of_block (heap_alloc_new wr _)
    case c2=>intro u hu;rw[List.mem_singleton.1 hu];rfl
    case c3=>unfold maxLen;omega
    case c4=>omega
    case c5=>rw[World.size_alloc];omega
    intro S t w3 m r ae N;have af:O (OwnB w3 B S t (rs++ [over])):=Hi (OwnB.of (n:=rs.length+1) (by simp) (by rw[List.map_append];exact m));have HG:=Hi r;clear m r ae N;go_wp2;go_ret;have P:Below B w w3:=Below.grown ((j.o.below Q.o.base y).alloc (by omega) _) HG.o (by rw[World.size_alloc];omega) (fun q hq=>by
     simp[Value.ownBlock] at hq;subst hq;exact Q.o.base)
    refine⟨⟨S,t,rs++ [over],by simp,af.o,?_,by rw[List.length_append,b.o];simp⟩,P,P.size⟩;refine⟨v.o.append (fun e he=>by rw[List.mem_singleton.1 he];exact D),.inr ?_,by rw[Qak];exact M.o⟩;simp;omega
theorem Qsc(L:Int)(n:Nat)(b:L=n)(f:n<=2199023255552)(w:Vz):
 (Instr.makeSlice 139 (.int .i64 0) (.int .i64 L)).run prog w=.ok (.slice (some ⟨w.heap.size,0,none⟩) 0 n) (w.alloc (.cells (wordCells .u64 (zeros n)) 170)):=by
 subst b;obtain⟨i,c,d,hs,e⟩:=Tryz.info64';have a:=run_make (P:=prog) w 139 170 i (.int .u64 0) underlying139 c d .i64 .i64 0 n (by omega) (by omega) (by rw[e];omega) (by omega);simp only[Int.toNat_natCast,hs,Nat.mul_one] at a;rw[<-Qea];exact a
theorem Qj5(l:Vu):decVal (48 :: l)=decVal l:=by
 unfold decVal;rw[List.foldl_cons];rfl
theorem Qsd(l:Vu):decVal (Lib.trimLeftB l 48)=decVal l:=by
 induction l with
 |nil=>rfl
 |cons c l a=>
  unfold Lib.trimLeftB at a ⊢;rw[List.dropWhile_cons]
  split
  .
   rename_i h;have:c=48:=by simpa using h
   rw[a,this,Qj5]
  . rfl
theorem Qse{l:Vu}(h:AllDigits l):AllDigits (Lib.trimLeftB l 48):=fun c a=>h c ((List.dropWhile_sublist _).mem a)
theorem Qsf(l:Vu):(Lib.trimLeftB l 48).length<=l.length:=(List.dropWhile_sublist _).length_le
theorem Qag(s:Vs):s.data.toList.length=s.size:=by simp
theorem Qj6(r:Vs)(N:Nat)(a:N<=r.size):r.data.toList=(r.extract 0 N).data.toList++(r.extract N r.size).data.toList/\(r.extract 0 N).size=N/\(r.extract N r.size).size=r.size - N:=by
 have hl:=Qag r;refine⟨?_,by simp;omega,by simp⟩;rw[Lib.extract_data,Lib.extract_data,List.drop_zero,Nat.sub_zero,List.take_of_length_le (l:=r.data.toList.drop N) (by rw[List.length_drop];omega),List.take_append_drop]
def strLen:Value->Nat
 | .string s=>s.size
 |_=>0
theorem Qsg(s:Vs)(w:Vz):
 Calls prog 165 #[.string s,.string ⟨#[48]⟩] w fun e w'=>e=.returned (.string ⟨(Lib.trimLeftB s.data.toList 48).toArray⟩)/\w'=w:=Any.strings_TrimLeft_one Tryz.lays161 s 48 (by decide) w
theorem Qj7(s:Vs)(w:Vz)(hs:s.size<=1073741824)(hd:AllDigits s.data.toList):
 Calls prog 134 #[.string s] w (Nat64 w (decVal s.data.toList)):=by
 obtain⟨t,Z⟩:=nm ((⟨(Lib.trimLeftB s.data.toList 48).toArray⟩:ByteArray));have B:t.data.toList=Lib.trimLeftB s.data.toList 48:=by rw[<-Z]
 have ag:t.size<=1073741824:=by
  have:=Qsf s.data.toList;rw[<-B,Qag,Qag] at this;omega
 obtain⟨HV,HD,H⟩:=Ib (show decVal t.data.toList=decVal s.data.toList by rw[B,Qsd]) (show AllDigits t.data.toList by rw[B];exact Qse hd) (Qsg s w);rw[Z] at H;clear Z B hd;obtain⟨q,hq⟩:∃q:Nat,t.size / 19=q:=⟨_,rfl⟩;have q1:(t.size:Int) / 19=(q:Int):=by omega
 have q2:Int.tdiv (t.size:Int) 19=(q:Int):=by rw[<-q1];exact Int.tdiv_eq_ediv_of_nonneg (by omega)
 have ah:q<=1073741824:=by omega
 have aa:∀w,(Instr.makeSlice 139 (.int .i64 0) (.int .i64 ((q:Int)+1))).run prog w=.ok (.slice (some ⟨w.heap.size,0,none⟩) 0 (q+1)) (w.alloc (.cells (wordCells .u64 (zeros (q+1))) 170)):=
  fun w=>Qsc _ (q+1) (by omega) (by omega) w
 go_enter func134,ntmps134;go_wp2_with fail;go_fit H.o;rintro e w ⟨rfl,hw⟩;subst hw;clear H;go_wp2_with fail;clear aa q1 q2;go_loopw [0,3] (fun sv xv wr=>∃(r:Vs) (b:Vu) (g cap:Nat) (D:Vy),sv=.string r/\xv=.slice (some ⟨g,0,none⟩) D.length cap/\t.data.toList=b++r.data.toList/\(b= []∨r.size % 19=0)/\OwnB wr w.heap.size g cap D/\Num 18446744073709551616 D (decVal b)/\D.length<=b.length/\Below w.heap.size w wr) (fun sv _ _=>strLen sv)
 case atStart=>
  refine⟨t,[],w.heap.size,q+1,[],rfl,rfl,rfl,.inl rfl,⟨Nat.le_refl _,by simp,by unfold maxLen;omega,_,SB.new _ _ _,by simp[wordCells,zeros],by simp⟩,Num.zero _,by simp,bR.alloc lZ _⟩
 case round=>
  obtain⟨r,b,g,cap,D,rfl,rfl,a,E,F,G,af,hb⟩:=hrel;have HF:=Hi E;clear E;obtain⟨HC,Y,HN,S⟩:=Ic a F G hb;have ai:b.length+r.size=t.size:=by rw[<-Qag r,<-Qag t,a,List.length_append]
  have T:O (AllDigits r.data.toList):=Hi (fun c U=>HD.o c (by rw[a];exact List.mem_append_right _ U));clear a F G hb;by_cases h0:r.toList= []
  .
   go_wp2;go_ret;have ab:r.data.toList= []:=(Qed r).1 h0;have n:b=t.data.toList:=by have:=HC.o;rw[ab,List.append_nil] at this;exact this.symm
   refine⟨⟨_,_,D,rfl,Y.o.pre.row _ Y.o.fit,?_,by omega⟩,S.o⟩;rw[<-HV.o,<-n];exact HN.o
  .
   have aj:0<r.size:=by
    rcases Nat.eq_zero_or_pos r.size with h|h
    . exact absurd ((Qed r).2 (List.length_eq_zero_iff.1 (by rw[Qag];exact h))) h0
    . exact h
   have ak:r.toList.isEmpty=false:=by simp[h0]
   obtain⟨m,hm⟩:∃m:Nat,r.size % 19=m:=⟨_,rfl⟩;have m1:(r.size:Int) % 19=(m:Int):=by omega
   have m2:Int.tmod (r.size:Int) 19=(m:Int):=by rw[<-m1];exact Int.tmod_eq_emod_of_nonneg (by omega)
   by_cases ad:m=0
   .
    subst ad;obtain⟨a,k,I⟩:=Qj6 r 19 (by omega);have j:=Hi a;have p:O (AllDigits (r.extract 0 19).data.toList):=Hi (fun c U=>T.o c (by rw[a];exact List.mem_append_left _ U));have d:=Hi (fun w=>Qkb (r.extract 0 19) w (by omega) p.o);obtain⟨V,C⟩:=nm (decVal (r.extract 0 19).data.toList);have J:V<18446744073709551616:=by
     have h1:=Qa3 _ p.o;rw[C,Qag,k] at h1;have h3:10 ^ 19<=10 ^ 19:=Nat.pow_le_pow_right (by decide) (by omega);omega
    rw[C] at d;obtain⟨u,l⟩:=Ia C (k.trans rfl);obtain⟨CH,f⟩:=nm (r.extract 0 19);obtain⟨RS,i⟩:=nm (r.extract 19 r.size);rw[f,i] at j;rw[f] at l u d;rw[i] at I;obtain⟨K,L,v⟩:=Ib f i (Qj4 w.heap.size g cap D (decVal b) V wr Y.o HN.o J (by omega) S.o.size);clear a k C f i;go_wp2_with fail;rw[K.o];go_fit (d.o _);rintro e w2 ⟨rfl,M⟩;subst M;clear d;go_wp2_with fail;go_fit v.o;rintro e w3 ⟨⟨g3,x,N,rfl,y,z,ae⟩,A,W⟩;obtain⟨P,Q,R⟩:=Ib y z (S.o.trans A);clear v y z A;go_wp2;rw[L.o];go_roundw
    case rel=>
     refine⟨RS,b++CH.data.toList,g3,x,N,rfl,rfl,?_,.inr (by omega),P.o,?_,?_,R.o⟩
     . rw[HC.o,j.o,List.append_assoc]
     . rw[Qb9,u.o,Qag,l.o,show (10:Nat) ^ 19=10000000000000000000 from rfl]
       exact Q.o
     . rw[List.length_append,Qag,l.o];omega
    case measure=>simp[strLen];omega
   .
    have z0:((m:Int) == 0)=false:=by rw[beq_eq_false_iff_ne];omega
    have n:decVal b*10 ^ m=decVal b*10000000000000000000:=by rcases HF.o with h|h;rw[h];simp[decVal];omega
    have X:=Hi n;clear n;obtain⟨a,k,I⟩:=Qj6 r m (by omega);have j:=Hi a;have p:O (AllDigits (r.extract 0 m).data.toList):=Hi (fun c U=>T.o c (by rw[a];exact List.mem_append_left _ U));have d:=Hi (fun w=>Qkb (r.extract 0 m) w (by omega) p.o);obtain⟨V,C⟩:=nm (decVal (r.extract 0 m).data.toList);have J:V<18446744073709551616:=by
     have h1:=Qa3 _ p.o;rw[C,Qag,k] at h1;have h3:10 ^ m<=10 ^ 19:=Nat.pow_le_pow_right (by decide) (by omega);omega
    rw[C] at d;obtain⟨u,l⟩:=Ia C (k.trans rfl);obtain⟨CH,f⟩:=nm (r.extract 0 m);obtain⟨RS,i⟩:=nm (r.extract m r.size);rw[f,i] at j;rw[f] at l u d;rw[i] at I;obtain⟨K,L,v⟩:=Ib f i (Qj4 w.heap.size g cap D (decVal b) V wr Y.o HN.o J (by omega) S.o.size);clear a k C f i;go_wp2_with fail;rw[K.o];go_fit (d.o _);rintro e w2 ⟨rfl,M⟩;subst M;clear d;go_wp2_with fail;go_fit v.o;rintro e w3 ⟨⟨g3,x,N,rfl,y,z,ae⟩,A,W⟩;obtain⟨P,Q,R⟩:=Ib y z (S.o.trans A);clear v y z A;go_wp2;rw[L.o];go_roundw
    case rel=>
     refine⟨RS,b++CH.data.toList,g3,x,N,rfl,rfl,?_,.inr (by omega),P.o,?_,?_,R.o⟩
     . rw[HC.o,j.o,List.append_assoc]
     . rw[Qb9,u.o,Qag,l.o,X.o]
       exact Q.o
     . rw[List.length_append,Qag,l.o];omega
    case measure=>simp[strLen];omega
theorem FracAt.drew{w:Vz}{neg:Bool}{a b:Vx}{n c m d:Nat}{q:Rat}(h:FracAt w neg a n c b m d q):FracAt w.drew neg a n c b m d q:=h.below bR.drew
theorem Qo6{p q:Rat}{a c r:Bool}{t:Nat}(d:a=decide (p.num<0))(f:c=decide (q.num<0))(h:sgn r t=sgn a (p.num.natAbs*(q.den / Nat.gcd p.den q.den))+sgn c (q.num.natAbs*(p.den / Nat.gcd p.den q.den))):
 mkRat (sgn r (t / Nat.gcd t (Nat.gcd p.den q.den))) (p.den / Nat.gcd p.den q.den*(q.den / Nat.gcd t (Nat.gcd p.den q.den)))=p+q/\Nat.Coprime (t / Nat.gcd t (Nat.gcd p.den q.den)) (p.den / Nat.gcd p.den q.den*(q.den / Nat.gcd t (Nat.gcd p.den q.den))):=by
 refine Qo5 p q rfl ?_ rfl;have e:∀(b:Bool) (u v:Nat),sgn b (u*v)=sgn b u*(v:Int):=fun b u v=>by have:=Qcc b false u v;rw[Bool.bne_false] at this;exact this
 rw[h,e,e,d,f,Qbx,Qbx]
theorem Qo7(L M:Bool)(N bx P Q:Vx)(R S T U V W X Y i j:Nat)(p q:Rat)(w:Vz)(hx:FracAt w L N R S bx T U p)(hy:FracAt w M P V W Q X Y q)(hp:Fits p i)(hq:Fits q j)(ar:i+j<68719476000):
 Calls prog 146 #[.agg #[.bool L,.slice N R S,.slice bx T U],.agg #[.bool M,.slice P V W,.slice Q X Y]] w (FNew w (p+q)):=by
 obtain⟨HX,HY,ag,ah⟩:=Ic hx hy hp hq;obtain⟨CX,ai⟩:=nm (#[Value.bool L,.slice N R S,.slice bx T U]);obtain⟨CY,aj⟩:=nm (#[Value.bool M,.slice P V W,.slice Q X Y]);obtain⟨a,G,y,z,b⟩:=Id ((((((NBag.start hx.top hy.top hp.1 hq.1).alloc (.cells CX 141)).alloc (.cells CY 141)).alloc (.cells zeroFrac 141)).rebase)) (SB.new3 w 141 141 141 CX CY zeroFrac) ((SB.new2 w 141 141 CX CY).alloc (.cells zeroFrac 141)) (((SB.new w 141 CX).alloc (.cells CY 141)).alloc (.cells zeroFrac 141)) (Below.new3 w (.cells CX 141) (.cells CY 141) (.cells zeroFrac 141));obtain⟨d,Z⟩:=nm ((((w.alloc (.cells CX 141)).alloc (.cells CY 141)).alloc (.cells zeroFrac 141)));rw[Z] at a G y z b;subst ai aj;obtain⟨ak,al⟩:=Ia (hx.low.below b.o) (hy.low.below b.o);have s:=z.o.lt
 have u:=y.o.lt;obtain⟨f,g,h,k,l,m⟩:=Ie (z.o.cell 0) (z.o.cell 1) (z.o.cell 2) (y.o.cell 0) (y.o.cell 1) (y.o.cell 2);simp at f g h k l m;have am:=Hi Z;have au:w.heap.size+1+1≠w.heap.size:=by omega
 have av:w.heap.size+1+1≠w.heap.size+1:=by omega
 clear hx hy hp hq Z;have x:=Hi (show 0<Nat.gcd p.den q.den from Nat.gcd_pos_of_pos_right _ q.den_pos);go_enter func146,ntmps146;obtain⟨A,B,C⟩:=Jb a.o.base s f.o g.o h.o;obtain⟨D,E,F⟩:=Jb a.o.base u k.o l.o m.o;go_wp2_with fail;rw[show (((w.alloc (.cells #[.bool L,.slice N R S,.slice bx T U] 141)).alloc (.cells #[.bool M,.slice P V W,.slice Q X Y] 141)).alloc (.cells #[.bool false,.slice none 0 0,.slice none 0 0] 141))=d from am.o];go_region_held3
  (fun w'=>w'.cell? ⟨w.heap.size,0,none⟩=some (.bool L)/\w'.cell? ⟨w.heap.size,1,none⟩=some (.slice N R S)/\w'.cell? ⟨w.heap.size,2,none⟩=some (.slice bx T U)/\w'.cell? ⟨w.heap.size+1,0,none⟩=some (.bool M)/\w'.cell? ⟨w.heap.size+1,1,none⟩=some (.slice P V W)/\w'.cell? ⟨w.heap.size+1,2,none⟩=some (.slice Q X Y)) ((first|(simp [*];done)|go_keep))
  (first
  |
   (go_at_call_of 161 (Value.agg #[.bool L,.slice N R S,.slice bx T U])
    apply cM;apply NBag.under (w0:=d) (hl:=ak.o) (hk:=ag.o.2);(focus(first|exact a.o|exact a.o.drew|exact a.o.drew.drew));rintro e w3 ⟨aA,nA,cA,rfl,c⟩;clear a;have a:=Hi c;clear c;obtain⟨A,B,C⟩:=Jb a.o.base s f.o g.o h.o;obtain⟨D,E,F⟩:=Jb a.o.base u k.o l.o m.o
    skip)
  |
   (go_at_call_of 161 (Value.agg #[.bool M,.slice P V W,.slice Q X Y])
    apply cM;apply NBag.under (w0:=d) (hl:=al.o) (hk:=ah.o.2);(focus(first|exact a.o|exact a.o.drew|exact a.o.drew.drew));rintro e w4 ⟨aB,nB,cB,rfl,c⟩;clear a;have a:=Hi c;clear c;obtain⟨A,B,C⟩:=Jb a.o.base s f.o g.o h.o;obtain⟨D,E,F⟩:=Jb a.o.base u k.o l.o m.o
    skip)
  )
 go_wp2_with
  ((skip
    first
     |(
      go_at_call 168;apply cM
      apply NBag.gcd (w0:=d))
     |(
      go_at_call 169;apply cM
      apply NBag.quot (w0:=d))
     |(
      go_at_call 177;apply cM
      apply NBag.mul (w0:=d))
     |(
      go_at_call 176;apply cM
      apply NBag.addSigned (w0:=d))
    (focus(first|exact a.o|exact a.o.drew|exact a.o.drew.drew));(repeat(first|exact mH|apply mT));omega
    try (focus(exact x.o))
    first
     |rintro e wn ⟨an,nn,cn,rfl,c⟩
     |(
      rintro e wn ⟨r,aT,nT,cT,t,rfl,c,J⟩;have HT:=Hi J
      clear J)
    clear a;have a:=Hi c;clear c;obtain⟨A,B,C⟩:=Jb a.o.base s f.o g.o h.o;obtain⟨D,E,F⟩:=Jb a.o.base u k.o l.o m.o
    skip))
 go_region_held3
  (fun w'=>w'.cell? ⟨w.heap.size,0,none⟩=some (.bool L)/\w'.cell? ⟨w.heap.size,1,none⟩=some (.slice N R S)/\w'.cell? ⟨w.heap.size,2,none⟩=some (.slice bx T U)/\w'.cell? ⟨w.heap.size+1,0,none⟩=some (.bool M)/\w'.cell? ⟨w.heap.size+1,1,none⟩=some (.slice P V W)/\w'.cell? ⟨w.heap.size+1,2,none⟩=some (.slice Q X Y)) ((first|(simp [*];done)|go_keep))
  ((skip
    first
     |(
      go_at_call 168;apply cM
      apply NBag.gcd (w0:=d))
     |(
      go_at_call 169;apply cM
      apply NBag.quot (w0:=d))
     |(
      go_at_call 177;apply cM
      apply NBag.mul (w0:=d))
     |(
      go_at_call 176;apply cM
      apply NBag.addSigned (w0:=d))
    (focus(first|exact a.o|exact a.o.drew|exact a.o.drew.drew));(repeat(first|exact mH|apply mT));omega
    try (focus(exact x.o))
    first
     |rintro e wn ⟨an,nn,cn,rfl,c⟩
     |(
      rintro e wn ⟨r,aT,nT,cT,t,rfl,c,J⟩;have HT:=Hi J
      clear J)
    clear a;have a:=Hi c;clear c;obtain⟨A,B,C⟩:=Jb a.o.base s f.o g.o h.o;obtain⟨D,E,F⟩:=Jb a.o.base u k.o l.o m.o
    skip))
 have hE:=Qo6 HX.o.neg HY.o.neg HT.o;have aa:0<Nat.gcd t (Nat.gcd p.den q.den):=Nat.gcd_pos_of_pos_right _ x.o;have HZ:=Hi (a.o.get (List.Mem.head _)).1.zero_iff;obtain⟨ao,HE,ae,ap⟩:=Ic aa hE.1 hE.2 (show 0<p.den / Nat.gcd p.den q.den*(q.den / Nat.gcd t (Nat.gcd p.den q.den)) from Nat.mul_pos (Nat.div_pos (Nat.gcd_le_left _ p.den_pos) x.o) (Nat.div_pos (Nat.le_trans (Nat.gcd_le_right _ x.o) (Nat.gcd_le_right _ q.den_pos)) aa));clear hE aa;by_cases H:t=0
 .
  have aq:((nT:Int) == 0)=true:=by have:=HZ.o.1 H;simp[this]
  have ab:O (p+q=0):=Hi (by rw[<-HE.o,H,Nat.zero_div,Qim,Rat.zero_mkRat]);clear HE ae H;have hs:=G.o.below a.o.base G.o.lt;have k0:=hs.cell 0;have k1:=hs.cell 1;have k2:=hs.cell 2;have f0:=hs.free 0;have f1:=hs.free 1;have f2:=hs.free 2;simp[zeroFrac] at k0 k1 k2;obtain⟨I,ad⟩:=Ia hs (b.o.trans (a.o.base.mono b.o.size));clear hs a;go_wp2;refine bodyPost_ret (v:=.agg #[.bool false,.slice none 0 0,.slice none 0 0]) (results_cell_row rfl _ _ (w.heap.size+1+1) 141 #[.bool false,.slice none 0 0,.slice none 0 0] (0,0) _ rfl (((I.o.set 0 _).set 1 _).set 2 _) underlying141 rfl Tryz.fracInfo) rfl ?_;have ho:=(((Only.refl (w.heap.size+1+1) wn).setCell 0 (.bool false)).setCell 1 (.slice none 0 0)).setCell 2 (.slice none 0 0);exact⟨⟨_,rfl,by first|exact FracV.zero _|(rw [ab.o];exact FracV.zero _)⟩,Only.fresh ad.o ho (by omega)⟩
 .
  have aq:((nT:Int) == 0)=false:=by rw[beq_eq_false_iff_ne];have:=HZ.o.2;omega
  clear H;go_wp2_with
   ((skip
     first
      |(
       go_at_call 168;apply cM
       apply NBag.gcd (w0:=d))
      |(
       go_at_call 169;apply cM
       apply NBag.quot (w0:=d))
      |(
       go_at_call 177;apply cM
       apply NBag.mul (w0:=d))
      |(
       go_at_call 176;apply cM
       apply NBag.addSigned (w0:=d))
     (focus(first|exact a.o|exact a.o.drew|exact a.o.drew.drew));(repeat(first|exact mH|apply mT));omega
     try (focus(first|exact x.o|exact ao.o))
     first
      |rintro e wn ⟨an,nn,cn,rfl,c⟩
      |(
       rintro e wn ⟨r,aT,nT,cT,t,rfl,c,J⟩;have HT:=Hi J
       clear J)
     clear a;have a:=Hi c;clear c;obtain⟨A,B,C⟩:=Jb a.o.base s f.o g.o h.o;obtain⟨D,E,F⟩:=Jb a.o.base u k.o l.o m.o
     skip))
  have af:=Hi (G.o.below a.o.base G.o.lt);have K:=Hi (b.o.trans (a.o.base.mono b.o.size));clear G b;have G:=af;have b:=K;clear af K;apply cM;apply NBag.built (w0:=d) a.o;(repeat(first|exact mH|apply mT));(focus(exact ap.o));(focus(exact ae.o));rw[HE.o];rintro e w9 ⟨⟨v9,rfl,hv⟩,c⟩;obtain⟨n,a9,n9,c9,b9,m9,d9,rfl,hv⟩:=hv;have hs:=G.o.below c G.o.lt;have k0:=hs.cell 0;have k1:=hs.cell 1;have k2:=hs.cell 2;have f0:=hs.free 0;have f1:=hs.free 1;have f2:=hs.free 2;simp[zeroFrac] at k0 k1 k2;obtain⟨HV,I,ad⟩:=Ib hv hs (b.o.trans (c.mono b.o.size));clear hv hs c;go_wp2
  refine bodyPost_ret (v:=.agg #[.bool n,.slice a9 n9 c9,.slice b9 m9 d9]) (results_cell_row rfl _ _ (w.heap.size+1+1) 141 #[.bool n,.slice a9 n9 c9,.slice b9 m9 d9] (0,0) _ rfl (((I.o.set 0 _).set 1 _).set 2 _) underlying141 rfl Tryz.fracInfo) rfl ?_;have ho:=(((Only.refl (w.heap.size+1+1) w9).setCell 0 (.bool n)).setCell 1 (.slice a9 n9 c9)).setCell 2 (.slice b9 m9 d9);exact⟨⟨_,rfl,n,a9,n9,c9,b9,m9,d9,rfl,HV.o.only ho I.o Qbi⟩,Only.fresh ad.o ho (by omega)⟩
theorem Qfp{d e:Value}{i j:Nat}{p q:Rat}{w:Vz}(a:FracV w d p)(b:FracV w e q)(f:Fits p i)(g:Fits q j)(c:i+j<68719476000):Calls prog 160 #[d,e] w (FNew w (p*q)):=by
 obtain⟨h,k,l,m,bx,n,o,rfl,a⟩:=a;obtain⟨r,s,t,u,v,x,y,rfl,b⟩:=b;exact Qil h r k bx s v l m n o t u x y i j p q w a b f g c
theorem Qo8(F G:Bool)(H bx I J:Vx)(K L M N P Q R S i j:Nat)(p q:Rat)(w:Vz)(hx:FracAt w F H K L bx M N p)(hy:FracAt w G I P Q J R S q)(hp:Fits p i)(hq:Fits q j)(al:i+j<68719476000):
 Calls prog 101 #[.agg #[.bool F,.slice H K L,.slice bx M N],.agg #[.bool G,.slice I P Q,.slice J R S]] w (FNew w (p - q)):=by
 rw[Rat.sub_eq_add_neg];obtain⟨HX,HY,aa,ab⟩:=Ic hx hy hp hq;obtain⟨D,ad⟩:=nm (#[Value.bool F,.slice H K L,.slice bx M N]);obtain⟨E,ae⟩:=nm (#[Value.bool G,.slice I P Q,.slice J R S]);obtain⟨HR,HS,f,g,b⟩:=Id ((((((NBag.start hx.top hy.top hp.1 hq.1).alloc (.cells D 141)).alloc (.cells E 141)).alloc (.cells zeroFrac 141)).rebase)) (SB.new3 w 141 141 141 D E zeroFrac) ((SB.new2 w 141 141 D E).alloc (.cells zeroFrac 141)) (((SB.new w 141 D).alloc (.cells E 141)).alloc (.cells zeroFrac 141)) (Below.new3 w (.cells D 141) (.cells E 141) (.cells zeroFrac 141));obtain⟨h,x⟩:=nm ((((w.alloc (.cells D 141)).alloc (.cells E 141)).alloc (.cells zeroFrac 141)));rw[x] at HR HS f g b;subst ad ae;obtain⟨am,an⟩:=Ia (hx.low.below b.o) (hy.low.below b.o)
 have y:=g.o.lt;have z:=f.o.lt;obtain⟨k,l,m,n,r,s⟩:=Ie (g.o.cell 0) (g.o.cell 1) (g.o.cell 2) (f.o.cell 0) (f.o.cell 1) (f.o.cell 2);simp at k l m n r s;have af:=Hi x;have ao:w.heap.size+1+1≠w.heap.size:=by omega
 have ap:w.heap.size+1+1≠w.heap.size+1:=by omega
 clear hx hy hp hq x;go_enter func101,ntmps101;obtain⟨T,U,V⟩:=Jb HR.o.base y k.o l.o m.o;obtain⟨W,X,Y⟩:=Jb HR.o.base z n.o r.o s.o;go_wp2_with fail;rw[show (((w.alloc (.cells #[.bool F,.slice H K L,.slice bx M N] 141)).alloc (.cells #[.bool G,.slice I P Q,.slice J R S] 141)).alloc (.cells #[.bool false,.slice none 0 0,.slice none 0 0] 141))=h from af.o];have ag:=aa;obtain⟨ah,ai,A⟩:=Ib ab.o.neg (HX.o.below b.o) (HY.o.below b.o);go_region_held3
  (fun w'=>w'.cell? ⟨w.heap.size,0,none⟩=some (.bool F)/\w'.cell? ⟨w.heap.size,1,none⟩=some (.slice H K L)/\w'.cell? ⟨w.heap.size,2,none⟩=some (.slice bx M N)/\w'.cell? ⟨w.heap.size+1,0,none⟩=some (.bool G)/\w'.cell? ⟨w.heap.size+1,1,none⟩=some (.slice I P Q)/\w'.cell? ⟨w.heap.size+1,2,none⟩=some (.slice J R S)) ((first|(simp [*];done)|go_keep))
  (first
  |(
   go_at_call 79;apply cM;apply Qik;(focus(first|exact A.o|exact A.o.drew|exact A.o.drew.drew));rintro e w4 ⟨⟨v4,rfl,t⟩,u⟩;obtain⟨ak,a4,n4,c4,b4,m4,d4,rfl,t⟩:=t;have B:=Hi t
   first
    |have a:O (Bl h w4):=Hi u
    |have a:O (Bl h w4):=Hi ((Below.refl _ h).drew.trans u)
    |have a:O (Bl h w4):=Hi ((Below.refl _ h).drew.drew.trans u)
   have C:=Hi (ai.o.below a.o);clear t u HR;obtain⟨T,U,V⟩:=Jb a.o y k.o l.o m.o;obtain⟨W,X,Y⟩:=Jb a.o z n.o r.o s.o
   skip)
  |
   (go_at_call 146
    apply cM;apply Qo7 (i:=i) (j:=j);(focus(first|exact C.o|exact C.o.drew|exact C.o.drew.drew));(focus(first|exact B.o|exact B.o.drew|exact B.o.drew.drew));(focus(exact ag.o));(focus(exact ah.o));omega;rintro e w9 ⟨⟨v9,rfl,t⟩,u⟩;obtain⟨d,a9,n9,c9,b9,m9,d9,rfl,t⟩:=t
    first
     |have c:=a.o.trans (u.mono a.o.size)
     |have c:=a.o.drew.trans (u.mono a.o.size)
     |have c:=a.o.drew.drew.trans (u.mono a.o.size)
    have hs:=HS.o.below c HS.o.lt;have k0:=hs.cell 0;have k1:=hs.cell 1;have k2:=hs.cell 2;have f0:=hs.free 0;have f1:=hs.free 1;have f2:=hs.free 2;obtain⟨T,U,V⟩:=Jb c y k.o l.o m.o;obtain⟨W,X,Y⟩:=Jb c z n.o r.o s.o;simp[zeroFrac] at k0 k1 k2;obtain⟨HV,Z,aj⟩:=Ib t hs (b.o.trans (c.mono b.o.size))
    clear t hs u c)
  )
 all_goals
  go_wp2;refine bodyPost_ret (v:=.agg #[.bool d,.slice a9 n9 c9,.slice b9 m9 d9]) (results_cell_row rfl _ _ (w.heap.size+1+1) 141 #[.bool d,.slice a9 n9 c9,.slice b9 m9 d9] (0,0) _ rfl (((Z.o.set 0 _).set 1 _).set 2 _) underlying141 rfl Tryz.fracInfo) rfl ?_;have ho:=(((Only.refl (w.heap.size+1+1) w9).setCell 0 (.bool d)).setCell 1 (.slice a9 n9 c9)).setCell 2 (.slice b9 m9 d9);exact⟨⟨_,rfl,d,a9,n9,c9,b9,m9,d9,rfl,HV.o.only ho Z.o Qbi⟩,Only.fresh aj.o ho (by omega)⟩
theorem Qo9(q:Rat)(b:q≠0){a:Bool}(c:a=decide (q.num<0)):mkRat (sgn a q.den) q.num.natAbs=q⁻¹:=by rw[c];exact(Qio b).1
theorem Fits.inv{q:Rat}{j:Nat}(h:Fits q j)(c:q≠0):Fits q⁻¹ j:=by
 obtain⟨d,e,f⟩:=Qio c;obtain⟨a,b⟩:=Qin (neg:=decide (q.num<0)) f e;rw[d] at a b;exact⟨by rw[a,Qd6];exact h.2,by rw[b];exact h.1⟩
theorem Qpa(W K:Bool)(X bx L M:Vx)(Y Z mx dx N P Q R i j:Nat)(p q:Rat)(w:Vz)(hx:FracAt w W X Y Z bx mx dx p)(hy:FracAt w K L N P M Q R q)(hp:Fits p i)(hq:Fits q j)(ao:i+j<68719476000):
 Calls prog 129 #[.agg #[.bool W,.slice X Y Z,.slice bx mx dx],.agg #[.bool K,.slice L N P,.slice M Q R]] w (FNew w (p / q)):=by
 obtain⟨HX,HY,ad,aa⟩:=Ic hx hy hp hq;obtain⟨CX,ae⟩:=nm (#[Value.bool W,.slice X Y Z,.slice bx mx dx]);obtain⟨CY,af⟩:=nm (#[Value.bool K,.slice L N P,.slice M Q R]);obtain⟨a,HS,x,y,d⟩:=Id ((((((NBag.start hx.top hy.top hp.1 hq.1).alloc (.cells CX 141)).alloc (.cells CY 141)).alloc (.cells zeroFrac 141)).rebase)) (SB.new3 w 141 141 141 CX CY zeroFrac) ((SB.new2 w 141 141 CX CY).alloc (.cells zeroFrac 141)) (((SB.new w 141 CX).alloc (.cells CY 141)).alloc (.cells zeroFrac 141)) (Below.new3 w (.cells CX 141) (.cells CY 141) (.cells zeroFrac 141));obtain⟨G,S⟩:=nm ((((w.alloc (.cells CX 141)).alloc (.cells CY 141)).alloc (.cells zeroFrac 141)));rw[S] at a HS x y d;subst ae af;obtain⟨ap,ag⟩:=Ia (hx.low.below d.o) (hy.low.below d.o);have t:=y.o.lt
 have u:=x.o.lt;obtain⟨f,g,k,l,m,n⟩:=Ie (y.o.cell 0) (y.o.cell 1) (y.o.cell 2) (x.o.cell 0) (x.o.cell 1) (x.o.cell 2);simp at f g k l m n;have ab:=Hi S;have aq:w.heap.size+1+1≠w.heap.size:=by omega
 have ar:w.heap.size+1+1≠w.heap.size+1:=by omega
 clear hx hy hp hq S;by_cases H:q.num.natAbs=0
 .
  have z:q=0:=Rat.num_eq_zero.1 (by omega);rw[show p / q=0 by rw[z,Rat.div_def,Rat.inv_zero,Rat.mul_zero]];go_enter func129,ntmps129;obtain⟨A,B,C⟩:=Jb a.o.base t f.o g.o k.o;obtain⟨D,E,F⟩:=Jb a.o.base u l.o m.o n.o;go_wp2_with fail;rw[show (((w.alloc (.cells #[.bool W,.slice X Y Z,.slice bx mx dx] 141)).alloc (.cells #[.bool K,.slice L N P,.slice M Q R] 141)).alloc (.cells #[.bool false,.slice none 0 0,.slice none 0 0] 141))=G from ab.o];apply cM;apply NBag.isZero (w0:=G) a.o
  (repeat(first|exact mH|apply mT));rw[(decide_eq_true H)];rintro e w2 ⟨rfl,c⟩;have hs:=HS.o.below c.base HS.o.lt;have k0:=hs.cell 0;have k1:=hs.cell 1;have k2:=hs.cell 2;have f0:=hs.free 0;have f1:=hs.free 1;have f2:=hs.free 2;simp[zeroFrac] at k0 k1 k2;obtain⟨I,T⟩:=Ia hs (d.o.trans (c.base.mono d.o.size));clear c hs a;go_wp2;refine bodyPost_ret (v:=.agg #[.bool false,.slice none 0 0,.slice none 0 0]) (results_cell_row rfl _ _ (w.heap.size+1+1) 141 #[.bool false,.slice none 0 0,.slice none 0 0] (0,0) _ rfl (((I.o.set 0 _).set 1 _).set 2 _) underlying141 rfl Tryz.fracInfo) rfl ?_;have ho:=(((Only.refl (w.heap.size+1+1) w2).setCell 0 (.bool false)).setCell 1 (.slice none 0 0)).setCell 2 (.slice none 0 0);exact⟨⟨_,rfl,FracV.zero _⟩,Only.fresh T.o ho (by omega)⟩
 .
  have z:q≠0:=fun h=>H (by rw[h];rfl)
  go_enter func129,ntmps129;obtain⟨A,B,C⟩:=Jb a.o.base t f.o g.o k.o;obtain⟨D,E,F⟩:=Jb a.o.base u l.o m.o n.o;go_wp2_with fail;rw[show (((w.alloc (.cells #[.bool W,.slice X Y Z,.slice bx mx dx] 141)).alloc (.cells #[.bool K,.slice L N P,.slice M Q R] 141)).alloc (.cells #[.bool false,.slice none 0 0,.slice none 0 0] 141))=G from ab.o];apply cM;apply NBag.isZero (w0:=G) a.o;(repeat(first|exact mH|apply mT));rw[(decide_eq_false H)];rintro e w2 ⟨rfl,c⟩;clear a
  have a:=Hi c;clear c;obtain⟨A,B,C⟩:=Jb a.o.base t f.o g.o k.o;obtain⟨D,E,F⟩:=Jb a.o.base u l.o m.o n.o;go_wp2_with fail;rw[Rat.div_def];obtain⟨ah,ai,aj⟩:=Ib (Qo9 q z HY.o.neg) (Nat.Coprime.symm q.reduced) (show 0<q.num.natAbs by omega);have ak:=ad;obtain⟨al,am⟩:=Ia (aa.o.inv z) (HX.o.below d.o);clear z H;go_region_held3
   (fun w'=>w'.cell? ⟨w.heap.size,0,none⟩=some (.bool W)/\w'.cell? ⟨w.heap.size,1,none⟩=some (.slice X Y Z)/\w'.cell? ⟨w.heap.size,2,none⟩=some (.slice bx mx dx)/\w'.cell? ⟨w.heap.size+1,0,none⟩=some (.bool K)/\w'.cell? ⟨w.heap.size+1,1,none⟩=some (.slice L N P)/\w'.cell? ⟨w.heap.size+1,2,none⟩=some (.slice M Q R)) ((first|(simp [*];done)|go_keep))
   (first
   |
    (go_at_call_of 161 (Value.agg #[.bool K,.slice L N P,.slice M Q R])
     apply cM;apply NBag.under (w0:=G) (hl:=ag.o) (hk:=aa.o.2);(focus(first|exact a.o|exact a.o.drew|exact a.o.drew.drew));rintro e w3 ⟨aB,nB,cB,rfl,c⟩;clear a;have a:=Hi c;clear c;obtain⟨A,B,C⟩:=Jb a.o.base t f.o g.o k.o;obtain⟨D,E,F⟩:=Jb a.o.base u l.o m.o n.o
     skip)
   |(
    go_at_call 130;apply cM;apply NBag.built (w0:=G);(focus(first|exact a.o|exact a.o.drew|exact a.o.drew.drew));(repeat(first|exact mH|apply mT));(focus(exact aj.o));(focus(exact ai.o));rw[ah.o];rintro e w4 ⟨⟨v4,rfl,J⟩,c⟩;obtain⟨an,a4,n4,c4,b4,m4,d4,rfl,J⟩:=J;have U:=Hi J
    first
     |have b:=Hi (a.o.base.trans (c.mono a.o.base.size))
     |have b:O (Bl G w4):=Hi (a.o.base.drew.trans (c.mono a.o.base.size))
     |have b:O (Bl G w4):=Hi (a.o.base.drew.drew.trans (c.mono a.o.base.size))
    have V:=Hi (am.o.below b.o);clear J c a;obtain⟨A,B,C⟩:=Jb b.o t f.o g.o k.o;obtain⟨D,E,F⟩:=Jb b.o u l.o m.o n.o
    skip)
   |
    (go_at_call 160
     apply cM;apply Qil (i:=i) (j:=j);(focus(first|exact V.o|exact V.o.drew|exact V.o.drew.drew));(focus(first|exact U.o|exact U.o.drew|exact U.o.drew.drew));(focus(exact ak.o));(focus(exact al.o));omega;rintro e w9 ⟨⟨v9,rfl,J⟩,c⟩;obtain⟨s,a9,n9,c9,b9,m9,d9,rfl,J⟩:=J
     first
      |have r:=b.o.trans (c.mono b.o.size)
      |have r:=b.o.drew.trans (c.mono b.o.size)
      |have r:=b.o.drew.drew.trans (c.mono b.o.size)
     have hs:=HS.o.below r HS.o.lt;have k0:=hs.cell 0;have k1:=hs.cell 1;have k2:=hs.cell 2;have f0:=hs.free 0;have f1:=hs.free 1;have f2:=hs.free 2;obtain⟨A,B,C⟩:=Jb r t f.o g.o k.o;obtain⟨D,E,F⟩:=Jb r u l.o m.o n.o;simp[zeroFrac] at k0 k1 k2;obtain⟨HV,I,T⟩:=Ib J hs (d.o.trans (r.mono d.o.size))
     clear J hs c r)
   )
  all_goals
   go_wp2;refine bodyPost_ret (v:=.agg #[.bool s,.slice a9 n9 c9,.slice b9 m9 d9]) (results_cell_row rfl _ _ (w.heap.size+1+1) 141 #[.bool s,.slice a9 n9 c9,.slice b9 m9 d9] (0,0) _ rfl (((I.o.set 0 _).set 1 _).set 2 _) underlying141 rfl Tryz.fracInfo) rfl ?_;have ho:=(((Only.refl (w.heap.size+1+1) w9).setCell 0 (.bool s)).setCell 1 (.slice a9 n9 c9)).setCell 2 (.slice b9 m9 d9);exact⟨⟨_,rfl,s,a9,n9,c9,b9,m9,d9,rfl,HV.o.only ho I.o Qbi⟩,Only.fresh T.o ho (by omega)⟩
theorem Qbj{d e:Value}{i j:Nat}{p q:Rat}{w:Vz}(a:FracV w d p)(b:FracV w e q)(f:Fits p i)(g:Fits q j)(c:i+j<68719476000):Calls prog 101 #[d,e] w (FNew w (p - q)):=by
 obtain⟨h,k,l,m,bx,n,o,rfl,a⟩:=a;obtain⟨r,s,t,u,v,x,y,rfl,b⟩:=b;exact Qo8 h r k bx s v l m n o t u x y i j p q w a b f g c
theorem Qc2{d e:Value}{i j:Nat}{p q:Rat}{w:Vz}(a:FracV w d p)(b:FracV w e q)(f:Fits p i)(g:Fits q j)(c:i+j<68719476000):Calls prog 129 #[d,e] w (FNew w (p / q)):=by
 obtain⟨h,k,l,m,bx,n,o,rfl,a⟩:=a;obtain⟨r,s,t,u,v,x,y,rfl,b⟩:=b;exact Qpa h r k bx s v l m n o t u x y i j p q w a b f g c
theorem Qc3{b:Value}{p:Rat}{w:Vz}(a:FracV w b p):Calls prog 79 #[b] w (FNew w (-p)):=by
 obtain⟨c,d,e,f,bx,g,h,rfl,a⟩:=a;exact Qik c d bx e f g h p w a
theorem Qcd{b:Value}{p:Rat}{w:Vz}(a:FracV w b p):Calls prog 127 #[b] w fun e w'=>e=.returned (.bool (decide (p=0)))/\Below w.heap.size w w':=by
 obtain⟨c,d,f,g,bx,i,j,rfl,a⟩:=a;have e:decide (p.num.natAbs=0)=decide (p=0):=by
  by_cases h:p=0
  . subst h;rfl
  . have:p.num≠0:=fun k=>h (Rat.num_eq_zero.1 k)
    rw[decide_eq_false h,decide_eq_false (by omega)]
 rw[<-e];exact Qij c d bx f g i j _ w a.top
end Go.Proofs.YtppkmifkpjkgpaaGreatDoor
