import Derived.Test.YtkkadnoecklepaaGreatDoorG06NatStep
namespace Go.Proofs.YtkkadnoecklepaaGreatDoor
open Go.RowKit
open Go.Proofs.Tryz
set_option linter.unusedSimpArgs false
set_option linter.unusedVariables false
set_option maxHeartbeats 8000000
set_option maxRecDepth 1000000
def QR(w:Vz)(q r:Nat)(e:Ending)(w':Vz):Prop:=
 (∃aq cq lq ar cr lr,e=.returned (.tuple #[.slice aq (List.length lq) cq,.slice ar (List.length lr) cr])/\U64 w' aq cq lq q/\U64 w' ar cr lr r)/\Below w.heap.size w w'
theorem Qq3(b c:Vx)(c1 c2:Nat)(l m:Vy)(x y:Nat)(w:Vz)(d:U64 w b c1 l x)(g:U64 w c c2 m y)(a:x<y):
 Calls prog 180 #[.slice b l.length c1,.slice c m.length c2] w (QR w (x / y) (x % y)):=by
 have f:=Hi (Qc1 b c c1 c2 l m x y w d g);rw[Qcr a] at f;have j:=Hi d;clear d g;go_enter func180,ntmps180;go_wp2_with fail;refine f.o.mono ?_;rintro e w1 ⟨rfl,h⟩;have i:=Hi h;clear h f;go_wp2;go_ret2;exact⟨⟨none,0,[],b,c1,l,rfl,by rw[Nat.div_eq_of_lt a];exact U64.nil _,by rw[Nat.mod_eq_of_lt a];exact j.o.below i.o⟩,i.o⟩
theorem Qq4{q d r x:Nat}(h:q*d+r=x)(a:r<d):q=x / d/\r=x % d:=by
 rw[<-h,Nat.mul_comm q d];constructor
 . rw[Nat.mul_add_div (by omega),Nat.div_eq_of_lt a,Nat.add_zero]
 . rw[Nat.mul_add_mod,Nat.mod_eq_of_lt a]
theorem Qq5(F G:Vx)(c1 c2:Nat)(l m:Vy)(x y:Nat)(w:Vz)(q:U64 w F c1 l x)(s:U64 w G c2 m y)(aa:y<=x)(h0:0<y)(H:m.length=1):
 Calls prog 180 #[.slice F l.length c1,.slice G m.length c2] w (QR w (x / y) (x % y)):=by
 have I:=Hi (Qc1 F G c1 c2 l m x y w q s);have V:¬(cmp3 x y<0):=fun h=>by have:=(Qav x y).1 h;omega
 have J:0<l.length:=by
  rcases Nat.eq_zero_or_pos l.length with h|h
  . have:=(q.num.len_zero (by decide)).2 h;omega
  . exact h
 obtain⟨b,o,rfl,K,t⟩:=s.row.cell 0 (by omega);have L:m.getD 0 0=y:=by
  have W:=s.num.eq;obtain⟨d,rfl⟩:=List.length_eq_one_iff.1 H;rw[Qbo,Qdf,Nat.mul_zero,Nat.add_zero] at W;exact W
 rw[L,Nat.add_zero] at t;have M:y<18446744073709551616:=by rw[<-L];exact s.num.small.getD (by decide) 0
 have N:=q.short;have P:=Hi q;rw[H] at I;rw[H];have q1:((1:Int) == 1)=true:=rfl;clear q s L;go_enter func180,ntmps180;go_wp2_with fail;refine I.o.mono ?_;rintro e w1 ⟨rfl,i⟩;have a:=Hi i;have Q:=ce i K t;clear i I;go_wp2_with fail;refine(Qf6 F c1 l x _ (P.o.below a.o) J).mono ?_;rintro e w2 ⟨⟨g,cap',rfl,X,hg,Y⟩,i⟩;have u:=Hi i;have ab:=ce i (by have:=a.o.size;show b<_;omega) Q;have HP:=Hi Y;clear i Y;go_wp2_with fail;refine(Qq8 g cap' y l _ HP.o P.o.num.small N h0 M).mono ?_;rintro e Z ⟨c,r,rfl,hr,j,n,v,hv3,f⟩;have z:=Hi (show Below w.heap.size w Z from ((a.o.trans (u.o.mono a.o.size)).trans (f.below (by have:=a.o.size;omega) (Nat.le_trans a.o.size u.o.size))));rw[P.o.num.eq] at hv3;have HQ:=Hi (Qq4 hv3 hr)
 obtain⟨R,S,T⟩:=Ib j v (Qf5 (some ⟨g,0,none⟩) cap' c Z (j.row cap' (by omega)) (by omega));rw[n] at T;have p:=Hi n;clear j v hv3 f n;go_wp2_with fail;refine T.o.mono ?_;rintro e w4 ⟨⟨k,hk,rfl,A,B⟩,hw⟩;subst hw;have HU:O (U64 w4 (some ⟨g,0,none⟩) cap' (c.take k) (x / y)):=Hi ⟨(R.o.row cap' (by have:=p.o;omega)).take k (by have:=p.o;omega),⟨S.o.take k,B,by rw[A,HQ.o.1]⟩,by rw[List.length_take];omega⟩;have HK:=Hi (show (c.take k).length=k by rw[List.length_take];have:=p.o;omega);clear A B T;go_wp2_with fail;refine(Qq9 r _ (by omega)).mono ?_;rintro e w5 ⟨⟨ar,cr,lr,rfl,C⟩,D⟩;obtain⟨U,E⟩:=Ia C D;clear C D;go_wp2;go_ret2;exact⟨⟨some ⟨g,0,none⟩,cap',c.take k,ar,cr,lr,by rw[HK.o];rfl,HU.o.below E.o,by rw[<-HQ.o.2];exact U.o⟩,z.o.trans (E.o.mono z.o.size)⟩
structure DInv (X D N M k:Nat) (us qs:Vy):Prop where
 ul:us.length=M+N
 ql:qs.length=M
 su:Small 18446744073709551616 us
 sq:Small 18446744073709551616 qs
 eq:val 18446744073709551616 us+D*(18446744073709551616 ^ k*val 18446744073709551616 (qs.drop k))=X
 rem:val 18446744073709551616 (us.drop k)<D
theorem DInv.zero{X D N M k:Nat}{us a:Vy}(h:DInv X D N M k us a)(hk:k<=M)(b:D<18446744073709551616 ^ N):val 18446744073709551616 (us.drop (k+N))=0:=by
 have:=Qfv 18446744073709551616 (by decide) (us.drop k) N (Nat.lt_trans h.rem b) (by rw[List.length_drop,h.ul];omega);rw[List.drop_drop] at this;exact this
theorem DInv.next{X D N M j q:Nat}{us b a:Vy}(h:DInv X D N M (j+1) us b)(c:j<M)(hl:a.length=us.length)(d:Small 18446744073709551616 a)(e:q<18446744073709551616)(f:val 18446744073709551616 a+18446744073709551616 ^ j*(q*D)=val 18446744073709551616 us)(g:val 18446744073709551616 (a.drop j)<D):DInv X D N M j a (b.set j q):=by
 refine⟨hl.trans h.ul,by rw[List.length_set];exact h.ql,d,h.sq.set j e,?_,g⟩;rw[Qap _ _ j (by rw[List.length_set,h.ql];exact c),Qbf _ _ _ (by rw[h.ql];exact c),List.drop_set,if_pos (by omega),<-h.eq,<-f,Nat.mul_add,Nat.mul_add,Nat.pow_succ,<-Nat.mul_assoc (18446744073709551616 ^ j) 18446744073709551616,Nat.mul_left_comm D (18446744073709551616 ^ j) q,Nat.mul_comm D q];omega
theorem DInv.win{X D N M j:Nat}{us a:Vy}(h:DInv X D N M (j+1) us a)(b:j<M)(c:0<D):val 18446744073709551616 (us.drop j)<18446744073709551616*D:=by
 rw[Qap _ us j (by rw[h.ul];omega)];have d:=h.su.getD (by decide) j;have e:=Nat.mul_le_mul_left 18446744073709551616 (show val 18446744073709551616 (us.drop (j+1))+1<=D from h.rem);omega
theorem Qq6{a c s N y:Nat}{d:Vy}(p:0<N)(q:y=c+18446744073709551616 ^ (N - 1)*a)(g:c<18446744073709551616 ^ (N - 1))(r:s<64)(l:9223372036854775808<=a*2 ^ s)(h:a*2 ^ s<18446744073709551616)(b:Num 18446744073709551616 d (y*2 ^ s)):d.length=N/\y*2 ^ s<18446744073709551616 ^ N/\9223372036854775808*18446744073709551616 ^ (N - 1)<=y*2 ^ s:=by
 obtain⟨K,rfl⟩:∃K,N=K+1:=⟨N - 1,by omega⟩;rw[Nat.add_sub_cancel] at*;have m:(a+1)*2 ^ s<=18446744073709551616:=by
  have i:=Qbq (s:=s) (by omega);rw[<-i,Nat.mul_comm (2 ^ s)];apply Nat.mul_le_mul_right;rw[<-i,Nat.mul_comm (2 ^ s)] at h;exact Nat.lt_of_mul_lt_mul_right h
 have j:y*2 ^ s<18446744073709551616 ^ (K+1):=by
  have e:y<18446744073709551616 ^ K*(a+1):=by rw[Nat.mul_add];omega
  have f:=Nat.mul_lt_mul_of_pos_right e (Nat.two_pow_pos s);rw[Nat.mul_assoc] at f;have k:=Nat.mul_le_mul_left (18446744073709551616 ^ K) m;rw[Nat.pow_succ];omega
 have n:9223372036854775808*18446744073709551616 ^ K<=y*2 ^ s:=by
  have e:18446744073709551616 ^ K*a<=y:=by omega
  have f:=Nat.mul_le_mul_right (2 ^ s) e;rw[Nat.mul_assoc] at f;have k:=Nat.mul_le_mul_left (18446744073709551616 ^ K) l;rw[Nat.mul_comm (18446744073709551616 ^ K) 9223372036854775808] at k;omega
 refine⟨?_,j,n⟩;apply Nat.le_antisymm
 . exact b.length_le_of_lt (by decide) j
 .
  apply bC;intro t;have o:=Qab (B:=18446744073709551616) (by decide) b.small;rw[b.eq] at o;have u:18446744073709551616 ^ d.length<=18446744073709551616 ^ K:=Nat.pow_le_pow_right (by decide) (by omega);omega
theorem Qq7{x s L M N D:Nat}{us:Vy}(a:x<18446744073709551616 ^ L)(b:M+N=L+1)(f:0<N)(g:s<64)(h:9223372036854775808*18446744073709551616 ^ (N - 1)<=D)(c:us.length=M+N)(i:val 18446744073709551616 us=x*2 ^ s):val 18446744073709551616 (us.drop M)<D:=by
 apply bC;intro j;have k:=Qaj 18446744073709551616 us M (by omega);have d:18446744073709551616 ^ M*(9223372036854775808*18446744073709551616 ^ (N - 1))<=18446744073709551616 ^ M*val 18446744073709551616 (us.drop M):=Nat.mul_le_mul_left _ (by omega);have e:2 ^ s<=9223372036854775808:=Nat.pow_le_pow_right (by decide) (show s<=63 by omega);have l:x*2 ^ s<18446744073709551616 ^ L*9223372036854775808:=Nat.lt_of_le_of_lt (Nat.mul_le_mul_left x e) (Nat.mul_lt_mul_of_pos_right a (by decide));rw[Nat.mul_left_comm,<-Nat.pow_add,show M+(N - 1)=L by omega,Nat.mul_comm] at d;omega
theorem Qjr{l:Vy}{y N:Nat}(h:Num 18446744073709551616 l y)(hl:l.length=N+1):∃c a,l.getD N 0=a/\y=c+18446744073709551616 ^ N*a/\c<18446744073709551616 ^ N/\0<a/\a<18446744073709551616:=by
 refine⟨val 18446744073709551616 (l.take N),l.getD N 0,rfl,?_,?_,?_,h.small.getD (by decide) N⟩
 .
  have b:=Qb5 18446744073709551616 l N (by omega);rw[List.take_of_length_le (by omega),h.eq] at b;exact b
 .
  have:=Qab (B:=18446744073709551616) (by decide) (h.small.take N);rw[List.length_take,Nat.min_eq_left (by omega)] at this;exact this
 .
  rcases h.trim with b|b
  . rw[b] at hl;simp at hl
  . rw[hl,Nat.add_sub_cancel] at b;omega
theorem Blk.onlyG{k:IntKind}{t:Vr}{w b:Vz}{g c:Nat}{l:Vy}(h:Blk k t w g l)(d:Only c w b)(a:g≠c):Blk k t b g l:=by
 have:=h.lt;unfold Blk at h ⊢;rw[d.block g this a];exact h
def QRo(w:Vz)(q r:Nat)(e:Ending)(w':Vz):Prop:=
 (∃aq cq lq g cr C lr,e=.returned (.tuple #[.slice aq (List.length lq) cq,.slice (some ⟨g,0,none⟩) (List.length lr) cr])/\U64 w' aq cq lq q/\ON w' g cr C lr r/\w.heap.size<=g)/\Below w.heap.size w w'
theorem Qjs(a1 a2:Vx)(c1 c2 n:Nat)(l m:Vy)(x y:Nat)(w:Vz)(G:U64 w a1 c1 l x)(F:U64 w a2 c2 m y)(bx:y<=x)(hm:m.length=n+2)(bz:l.length<1099511627770):
 Calls prog 180 #[.slice a1 l.length c1,.slice a2 m.length c2] w (QRo w (x / y) (x % y)):=by
 have HC:=Hi (Qc1 a1 a2 c1 c2 l m x y w G F);have bs:¬(cmp3 x y<0):=fun h=>by have:=(Qav x y).1 h;omega
 have a5:m.length<=l.length:=by
  apply bC;intro hc;have:=Qau (B:=18446744073709551616) (by decide) G.num.small F.num.trim (by omega);rw[G.num.eq,F.num.eq] at this;omega
 obtain⟨b0,ab,P,hy,Q,a6,a7⟩:=Qjr (N:=n+1) F.num hm;obtain⟨b,o,rfl,a8,H⟩:=F.row.cell (n+1) (by omega);rw[P] at H;obtain⟨s,f,hs,ad,ae⟩:=Qfd ab a6 a7;have t:=Hi (fun w=>Qfc (ab:Int) w (by omega) (by omega));rw[hs] at t;obtain⟨N,hN⟩:=nm m.length;obtain⟨p,hp⟩:=nm (n+1);have af:N=p+1:=by omega
 rw[hp] at H;obtain⟨H1,H2⟩:=Ia G F;rw[hN] at HC;rw[hN];have S:=Qab (B:=18446744073709551616) (by decide) G.num.small;rw[G.num.eq] at S;obtain⟨a9,HY⟩:=Ia S hy;have q1:((N:Int) == 1)=false:=by rw[beq_eq_false_iff_ne];omega
 have b1:IntKind.i64.wrap ((N:Int) - 1)=(p:Int):=by rw[Qam _ (by omega) (by omega)];omega
 obtain⟨ba,bb,ag,HP,ah,HM,HN⟩:=If ad ae Q hp af hm hN;have b2:1<=N:=by omega
 have b3:p<N:=by omega
 have bt:(p:Int)<(N:Int):=by omega
 have b4:2<=N:=by omega
 rw[hN] at a5;clear G F hy hs P S ad ae Q hp af hm hN;go_enter func180,ntmps180;go_wp2_with fail;go_fit HC.o;rintro e w1 ⟨rfl,v⟩;have I:=Hi v;have b5:=ce v a8 H;clear v HC H;go_wp2_with fail;go_fit (t.o _);rintro e w2 ⟨rfl,hw⟩;subst hw;clear t;go_wp2_with fail;go_fit (Qj2 a1 c1 s l x _ (H1.o.below I.o) (by omega) f);rintro e J ⟨⟨us,rfl,d,E,ai,aj⟩,v⟩;have ak:=Hi (I.o.trans (v.mono I.o.size));have bu:w2.heap.size<J.heap.size:=d.lt;have T:=Qj2 (some ⟨b,o,none⟩) c2 s m y J (H2.o.below ak.o) (by have:=HN.o;omega) f;rw[HN.o] at T;obtain⟨al,U,V,am,W⟩:=Id T d E ai aj;clear v d E ai aj T;go_wp2_with fail;go_fit al.o;rintro e w4 ⟨⟨vs,rfl,X,an,ao,ap⟩,v⟩;have aq:=Hi v
 have bv:J.heap.size<w4.heap.size:=X.lt;have ar:=Hi (Qcz J.heap.size (N+1) (N+1) (y*2 ^ s) vs w4 X an ao lZ (by omega) ap);clear v X an ao ap al;go_wp2_with fail;go_fit ar.o;rintro e w5 ⟨⟨md,rfl,K⟩,hw⟩;subst hw;have A:=Qq6 (N:=N) (by omega) (by have h:=HY.o;rw[HP.o,show p=N - 1 by have:=ah.o;omega] at h;exact h) (by have h:=ag.o;rw[HP.o,show p=N - 1 by have:=ah.o;omega] at h;exact h) f ba.o bb.o K.num;rw[A.1];obtain⟨D,hD⟩:=nm (y*2 ^ s);rw[hD] at K A;obtain⟨M,hM,b6⟩:∃M,M+N=l.length+1/\1<=M:=⟨l.length+1 - N,by omega,by omega⟩;obtain⟨bc,au,av,bd,be⟩:=Id A.1 A.2.1 A.2.2 K hD;clear K A hD ar;have wm:IntKind.i64.wrap ((l.length:Int)+1 - (N:Int))=(M:Int):=by rw[Qam _ (by omega) (by omega)];omega
 have b7:(l.length:Int)+1 - (N:Int)=(M:Int):=by omega
 have bf:∀w,(Instr.makeSlice 105 (.int .i64 (M:Int)) (.int .i64 (M:Int))).run prog w=.ok (.slice (some ⟨w.heap.size,0,none⟩) M M) (w.alloc (.cells (wordCells .u64 (zeros M)) 190)):=
  fun w=>Qcx _ M rfl (by omega) w
 have C:=Hi hM;clear hM;go_wp2_with fail;clear bf;have bg:0<D:=Nat.lt_of_lt_of_le (Nat.mul_pos (by decide) (Nat.pow_pos (by decide))) av.o;have bw:w.heap.size<=w2.heap.size:=I.o.size;go_loopw [11] (fun i wr=>∃(k:Nat) (us qs:Vy),k<=M/\i=.int .i64 ((k:Int) - 1)/\Blk .u64 190 wr w2.heap.size us/\Blk .u64 190 wr w5.heap.size qs/\U64 wr (some ⟨J.heap.size,0,none⟩) (N+1) md D/\DInv (x*2 ^ s) D N M k us qs/\Below w.heap.size w wr) (fun i _=>(intOf i+1).toNat)
 case atStart=>
  refine⟨M,us,zeros M,Nat.le_refl _,rfl,(U.o.below aq.o (by omega)).alloc _,Blk.new _ _ _ _,bd.o.below (bR.alloc lZ _),⟨?_,Qah _,am.o,Qaq _ _ (by decide),?_,?_⟩,(ak.o.trans (aq.o.mono (by omega))).alloc (by omega) _⟩
  . rw[V.o];have:=C.o;omega
  . rw[List.drop_of_length_le (by rw[Qah];exact Nat.le_refl _),Qdf,Nat.mul_zero,Nat.mul_zero,Nat.add_zero];exact W.o
  . exact Qq7 a9.o C.o (by omega) f av.o (by rw[V.o];have:=C.o;omega) W.o
 case round=>
  clear U V am W;obtain⟨k,us,qs,hk,rfl,d,L,O,g,v⟩:=hrel;obtain⟨U,bh,bi,HI,HB⟩:=Id d L O g v;by_cases h0:k=0
  .
   subst h0;have a:=g.rem;have Y:=g.eq;rw[List.drop_zero] at a;rw[List.drop_zero,Nat.pow_zero,Nat.one_mul] at Y;have aw:=Hi (Qfw (Nat.two_pow_pos s) rfl be.o Y a);have ax:val 18446744073709551616 (us.take N)=val 18446744073709551616 us:=by
    have G:=Qfv 18446744073709551616 (by decide) us N (Nat.lt_trans a au.o) (by rw[g.ul];omega);have F:=Qaj 18446744073709551616 us N (by rw[g.ul];omega);rw[G,Nat.mul_zero,Nat.add_zero] at F;exact F.symm
   have E:us.length=l.length+1:=by rw[g.ul];exact C.o
   have bj:=Hi (Qcz w5.heap.size M M (x / y) qs wr.drew L.drew g.ql g.sq lZ (by omega) aw.o.1);have Z:=Qrb (some ⟨w2.heap.size,0,none⟩) (l.length+1) s (us.take N) wr.drew ((d.drew).row N (by omega) (l.length+1) (by omega)) (g.su.take N) (by rw[List.length_take];omega) f;rw[List.length_take,Nat.min_eq_left (by omega),ax,aw.o.2] at Z;have bk:=Hi Z;clear a Y ax E d L O g v Z;go_wp2_with fail;have iN:(0:Int)<=(N:Int):=by omega
   have b8:(N:Int)<=(l.length:Int)+1:=by omega
   go_region_held3 (fun _=>True) (trivial) (first
    |(
     go_at_call 187;go_fit bj.o;rintro e w6 ⟨⟨r,rfl,hu⟩,hw⟩;subst hw;have HU:=Hi hu
     clear hu)
    |(
     go_at_call 220;go_fit bk.o;rintro e w7 ⟨⟨C7,lr,rfl,ay⟩,az⟩;obtain⟨bl,a0⟩:=Ia ay az
     clear ay az))
   go_wp2;go_ret2;exact⟨⟨_,_,r,_,_,C7,lr,rfl,HU.o.below a0.o,bl.o,HB.o.size⟩,HB.o.drew.trans (a0.o.mono HB.o.size)⟩
  .
   obtain⟨j,rfl⟩:∃j,k=j+1:=⟨k - 1,by omega⟩;obtain⟨z,hz⟩:=nm (qs.getD j 0);have a3:j<M:=by omega
   have bm:j+N<=l.length:=by have:=C.o;omega
   have E:us.length=l.length+1:=by rw[g.ul];exact C.o
   have hS:=Qr6 w2.heap.size j n (l.length+1 - j) N p us (some ⟨J.heap.size,0,none⟩) (N+1) md D wr d g.su O bc.o (by have:=HM.o;have:=HN.o;omega) HP.o.symm (fun b' o' h=>by
    obtain⟨rfl,rfl⟩:J.heap.size=b'/\0=o':=by simpa using h
    omega) (by omega) (by have:=g.zero (by omega) au.o;rw[show j+N+1=j+1+N by omega];exact this) (g.win a3 bg) (by omega)
   obtain⟨HS,bn,HZ⟩:=Ib hS g.ql hz;have ei:((j+1:Nat):Int) - 1=(j:Int):=by omega
   rw[ei];clear ei d L O g v hz hS;go_wp2_with fail;rw[show j+N+1 - j=N+1 by omega];go_fit HS.o;rintro e w6 ⟨q,bo,rfl,hq,c,R,a⟩;have u:=bh.o.onlyG c.only (by omega);have g1:=u.free j;have g2:=u.cell j (by have:=bn.o;omega);rw[HZ.o] at g2;obtain⟨bp,a4,aa⟩:=Ib (HI.o.next a3 c.len c.small hq R a) u c;clear u c R a HS;go_wp2;go_roundw
   case rel=>
    have bq:=HB.o.size;refine⟨j,bo,qs.set j q,by omega,by go_num,aa.o.blk.other (by omega) _ _,a4.o.set j q,?_,bp.o,(HB.o.trans (aa.o.only.below (by omega) bq)).setCell (by show w.heap.size<=w5.heap.size;omega) _⟩;have br:=bi.o.onlyG aa.o.only (fun b' o' h=>by
     obtain⟨rfl,rfl⟩:J.heap.size=b'/\0=o':=by simpa using h
     omega)
    exact br.onlyG ((Only.refl w5.heap.size w6).setCell _ _) (fun b' o' h=>by
     obtain⟨rfl,rfl⟩:J.heap.size=b'/\0=o':=by simpa using h
     omega)
   case measure=>simp[intOf]
theorem Qra(a b:Vx)(c1 c2 n:Nat)(l m:Vy)(x y:Nat)(w:Vz)(f:U64 w a c1 l x)(h:U64 w b c2 m y)(c:y<=x)(i:m.length=n+2)(d:l.length<1099511627770):
 Calls prog 180 #[.slice a l.length c1,.slice b m.length c2] w (QR w (x / y) (x % y)):=by
 refine(Qjs a b c1 c2 n l m x y w f h c i d).mono ?_;rintro e u ⟨⟨j,k,o,g,p,C,q,rfl,r,s,_⟩,t⟩;exact⟨⟨j,k,o,_,p,q,rfl,r,s.u64⟩,t⟩
theorem Qjw(a b:Vx)(c1 c2:Nat)(l m:Vy)(x y:Nat)(w:Vz)(d:U64 w a c1 l x)(c:U64 w b c2 m y)(i:0<y)(e:l.length<1099511627770):
 Calls prog 180 #[.slice a l.length c1,.slice b m.length c2] w (QR w (x / y) (x % y)):=by
 by_cases f:x<y
 . exact Qq3 a b c1 c2 l m x y w d c f
 .
  have j:m.length≠0:=fun h=>by have:=(c.num.len_zero (by decide)).2 h;omega
  by_cases g:m.length=1
  . exact Qq5 a b c1 c2 l m x y w d c (by omega) i g
  . exact Qra a b c1 c2 (m.length - 2) l m x y w d c (by omega) (by omega) e
def Nat64(w:Vz)(n:Nat)(e:Ending)(w':Vz):Prop:=(∃a cap l,e=.returned (.slice a (List.length l) cap)/\U64 w' a cap l n)/\Below w.heap.size w w'
theorem Qrm(b c:Vx)(c1 c2:Nat)(l m:Vy)(x y:Nat)(w:Vz)(d:U64 w b c1 l x)(f:U64 w c c2 m y)(p:0<y)(g:l.length<1099511627770):
 Calls prog 126 #[.slice b l.length c1,.slice c m.length c2] w (Nat64 w (x / y)):=by
 obtain⟨a,h,q⟩:=Ib (Qc0 c c2 m y w f) (Qjw b c c1 c2 l m x y w d f p g) d;clear d f;by_cases i:y=1
 .
  rw[show decide (y=1)=true by simpa using i] at a;go_enter func126,ntmps126;go_wp2_with fail;go_fit a.o;rintro e w1 ⟨rfl,j⟩;subst j;clear a h;go_wp2;go_ret;exact⟨⟨b,c1,l,rfl,by rw[i,Nat.div_one];exact q.o⟩,Below.refl _ _⟩
 .
  rw[show decide (y=1)=false by simpa using i] at a;go_enter func126,ntmps126;go_wp2_with fail;go_fit a.o;rintro e w1 ⟨rfl,j⟩;subst j;go_wp2_with fail;go_fit h.o;rintro e w2 ⟨⟨r,s,t,A,B,C,rfl,k,u⟩,n⟩;obtain⟨v,z⟩:=Ia k n;clear k u n a h;go_wp2;go_ret;exact⟨⟨r,s,t,rfl,v.o⟩,z.o⟩
theorem Qrn(x y:Nat)(w:Vz)(j:x<18446744073709551616)(k:y<18446744073709551616):
 Calls prog 182 #[.int .u64 x,.int .u64 y] w fun e l=>e=.returned (.int .u64 ((Nat.gcd x y:Nat):Int))/\Below w.heap.size w l:=by
 obtain⟨G,hG⟩:=nm (Nat.gcd x y);rw[hG];have m:=Hi hG;clear hG;go_enter func182,ntmps182;go_wp2;go_loopw [0,1] (fun n g wr=>∃a b:Nat,n=.int .u64 a/\g=.int .u64 b/\a<18446744073709551616/\b<18446744073709551616/\Nat.gcd a b=G/\Below w.heap.size w wr) (fun _ g _=>(intOf g).toNat)
 case atStart=>exact⟨x,y,rfl,rfl,j,k,m.o,Below.refl _ _⟩
 case round=>
  obtain⟨a,b,rfl,rfl,u,p,h,c⟩:=hrel;obtain⟨d,i⟩:=Ia h c;clear h c;by_cases q:b=0
  .
   subst q;go_wp2;go_ret;exact⟨by rw[<-d.o,Nat.gcd_zero_right];rfl,i.o⟩
  .
   obtain⟨r,f⟩:=nm (a % b);have s:r<b:=by rw[<-f];exact Nat.mod_lt _ (by omega)
   have d1:(a:Int) % (b:Int)=(r:Int):=by rw[<-f];rfl
   have d2:Int.tmod (a:Int) (b:Int)=(r:Int):=by rw[<-f];rfl
   have v:((b:Int) != 0)=true:=by rw[bne_iff_ne];omega
   have z:((b:Int) == 0)=false:=by rw[beq_eq_false_iff_ne];omega
   have t:=Hi f;clear f;go_wp2_with fail;go_region
   all_goals
    go_wp2;go_roundw
    case rel=>exact⟨b,r,rfl,rfl,p,by omega,by rw[<-d.o,<-t.o,Nat.gcd_comm a b,Nat.gcd_rec b a,Nat.gcd_comm],i.o.drew⟩
    case measure=>simp[intOf];omega
theorem Qro(a:Vx)(f d:Nat)(l:Vy)(x:Nat)(w:Vz)(h:U64 w a f l x)(t:0<d)(J:d<18446744073709551616):
 Calls prog 183 #[.slice a l.length f,.int .u64 d] w fun e K=>e=.returned (.int .u64 ((x % d:Nat):Int))/\Below w.heap.size w K:=by
 have U:=h.short;obtain⟨R,u⟩:=nm (x % d);rw[u];obtain⟨L,H⟩:=Ia u h;clear u h;go_enter func183,ntmps183;go_wp2;go_loopw [5,6] (fun r i wr=>∃(k c:Nat),k<=l.length/\c<d/\r=.int .u64 c/\i=.int .i64 ((k:Int) - 1)/\val 18446744073709551616 (l.drop k) % d=c/\Below w.heap.size w wr) (fun _ i _=>(intOf i+1).toNat)
 case atStart=>exact⟨l.length,0,Nat.le_refl _,t,rfl,rfl,by rw[List.drop_of_length_le lZ,Qdf,Nat.zero_mod],Below.refl _ _⟩
 case round=>
  obtain⟨k,r,hk,M,rfl,rfl,D,E⟩:=hrel;obtain⟨F,v⟩:=Ia D E;clear D E;by_cases N:k=0
  .
   subst N;go_wp2;go_ret;exact⟨by rw[<-L.o,<-H.o.num.eq];have:=F.o;rw[List.drop_zero] at this;rw[this];rfl,v.o⟩
  .
   obtain⟨j,rfl⟩:∃j,k=j+1:=⟨k - 1,by omega⟩;obtain⟨b,P,rfl,Q,y⟩:=(H.o.row.below v.o).cell j (by omega);obtain⟨z,s⟩:=nm (l.getD j 0);rw[s] at y;have A:z<18446744073709551616:=by rw[<-s];exact H.o.num.small.getD (by omega) j
   obtain⟨q,c,V,g,B,m⟩:=div64 r z d M A J;have n:=Hi m;have S:O (val 18446744073709551616 (l.drop j) % d=c):=Hi (by
    rw[Qap _ l j (by omega),s];have G:=Nat.div_add_mod (val 18446744073709551616 (l.drop (j+1))) d;rw[F.o] at G
    rw[<-G,Nat.mul_add,show z+(18446744073709551616*(d*(val 18446744073709551616 (l.drop (j+1)) / d))+18446744073709551616*r)=d*(18446744073709551616*(val 18446744073709551616 (l.drop (j+1)) / d))+(d*q+c) by rw[Nat.mul_left_comm];omega,Nat.mul_add_mod,Nat.mul_add_mod,Nat.mod_eq_of_lt g])
   have I:((j+1:Nat):Int) - 1=(j:Int):=by omega
   rw[I];clear I m B s;go_wp2_with fail;go_fit (n.o _);rintro e w2 ⟨rfl,T,p⟩;have C:O (Bl w w2):=Hi (by rw[p];exact Qga v.o T);clear p n;go_wp2;go_roundw
   case rel=>exact⟨j,c,by omega,g,rfl,by go_num,S.o,C.o⟩
   case measure=>simp[intOf]
theorem Qc3(x y c:Nat)(p:x<18446744073709551616)(q:y<18446744073709551616)(s:c<18446744073709551616):∃h l:Nat,h<18446744073709551616/\l<18446744073709551616/\l+18446744073709551616*h=x*y+c/\
 ∀w,Calls prog 213 #[.int .u64 x,.int .u64 y,.int .u64 c] w fun e t=>e=.returned (.tuple #[.int .u64 (h:Int),.int .u64 (l:Int)])/\t=w:=by
 obtain⟨h,l,v,hl,f,b⟩:=mul64 x y p q;obtain⟨r,c1,g,u,i,j⟩:=Qcy l c hl s;have d:=Qf8 (over:=c) p q;have a:r+18446744073709551616*(h+c1)=x*y+c:=by omega
 have k:h+c1<18446744073709551616:=by omega
 refine⟨h+c1,r,k,g,a,fun w=>?_⟩;have m:=Hi b;clear b f i a d;go_enter func213,ntmps213;go_wp2_with (first|(go_at_call 226;go_fit (m.o _);rintro e w2 ⟨rfl,n⟩;subst n)|simp only[j]);go_ret2;exact⟨by rw[Int.natCast_add];rfl,rfl⟩
theorem Qjx{B k u v d e r i j l a b c f g:Nat}{rs xs ys:Vy}(hk:k<rs.length)(m:xs.getD k 0=d)(n:ys.getD k 0=e)(o:f+B*a=d*u+i)(p:g+B*b=e*v+j)(q:r+l+g=f+B*c)
 (h:val B (rs.take k)+v*val B (ys.take k)+B ^ k*i=u*val B (xs.take k)+B ^ k*(j+l)):
 val B ((rs.set k r).take (k+1))+v*val B (ys.take (k+1))+B ^ (k+1)*a=u*val B (xs.take (k+1))+B ^ (k+1)*(b+c):=by
 rw[take_set _ _ _ hk,Qal,List.length_take,Nat.min_eq_left (by omega),Qae,Qae,m,n,Nat.pow_succ,Nat.mul_add v,Nat.mul_add u];have s:B ^ k*(f+B*a)=B ^ k*(d*u+i):=by rw[o]
 have t:B ^ k*(g+B*b)=B ^ k*(e*v+j):=by rw[p]
 have w:B ^ k*(r+l+g)=B ^ k*(f+B*c):=by rw[q]
 rw[Nat.mul_add,Nat.mul_add,<-Nat.mul_assoc] at s t;rw[Nat.mul_add,Nat.mul_add,Nat.mul_add,<-Nat.mul_assoc] at w;rw[Nat.mul_add] at h;rw[Nat.mul_add,Nat.mul_left_comm v,Nat.mul_left_comm u,Nat.mul_comm v e,Nat.mul_comm u d];omega
structure Two (b c:Nat) (w w':Vz):Prop where
 os:w'.os=w.os
 tape:w'.tape=w.tape
 output:w'.output=w.output
 size:w.heap.size<=w'.heap.size
 block:∀k,k<w.heap.size->k≠b->k≠c->w'.heap[k]?=w.heap[k]?
theorem Two.refl(b c:Nat)(w:Vz):Two b c w w:=⟨rfl,rfl,rfl,Nat.le_refl _,fun _ _ _ _=>rfl⟩
theorem Two.swap{b c:Nat}{w a:Vz}(h:Two b c w a):Two c b w a:=⟨h.os,h.tape,h.output,h.size,fun k hk d e=>h.block k hk e d⟩
theorem Two.set1{b c:Nat}{u w:Vz}(h:Two b c u w)(i:Nat)(v:Value):Two b c u (w.setCell ⟨b,i,none⟩ v):=
 ⟨h.os,h.tape,h.output,by simpa [World.setCell] using h.size,fun k hk a d=>by rw[Below.heap_setCell _ _ _ _ a];exact h.block k hk a d⟩
theorem Two.set2{b c:Nat}{u w:Vz}(h:Two b c u w)(i:Nat)(v:Value):Two b c u (w.setCell ⟨c,i,none⟩ v):=(h.swap.set1 i v).swap
theorem Two.below{b c B:Nat}{w a:Vz}(h:Two b c w a)(d:B<=b)(e:B<=c)(f:B<=w.heap.size):Below B w a:=⟨h.os,h.tape,h.output,h.size,fun k hk=>h.block k (by omega) (by omega) (by omega)⟩
theorem Pre.other{w:Vz}{g a:Nat}{rs:Vy}(h:Pre w g rs)(b:g≠a)(i:Nat)(v:Value):Pre (w.setCell ⟨a,i,none⟩ v) g rs:=by
 obtain⟨C,h,c⟩:=h;refine⟨C,?_,c⟩;unfold SB at h ⊢;rw[Below.heap_setCell _ _ _ _ b];exact h
def Took(n u v:Nat)(V xs ys:Vy):Prop:=∃o p q:Nat,val 18446744073709551616 (V.take n)+v*val 18446744073709551616 (ys.take n)+18446744073709551616 ^ n*o=u*val 18446744073709551616 (xs.take n)+18446744073709551616 ^ n*(p+q)
theorem Took.end{n u v x y z:Nat}{V xs ys:Vy}(h:Took n u v V xs ys)(c:Small 18446744073709551616 V)(d:n<=V.length)(e:∃t,x=val 18446744073709551616 (xs.take n)+18446744073709551616 ^ n*t)(f:∃t,y=val 18446744073709551616 (ys.take n)+18446744073709551616 ^ n*t)(g:u*x=v*y+z)(a:z<18446744073709551616 ^ n):
 val 18446744073709551616 (V.take n)=z:=by
 obtain⟨o,p,q,h⟩:=h;obtain⟨t,rfl⟩:=e;obtain⟨r,rfl⟩:=f;have hV:=Qab (B:=18446744073709551616) (by decide) (c.take n);rw[List.length_take,Nat.min_eq_left d] at hV;generalize val 18446744073709551616 (V.take n)=A at*;generalize val 18446744073709551616 (xs.take n)=D at*;generalize val 18446744073709551616 (ys.take n)=E at*;generalize 18446744073709551616 ^ n=M at*;have i:A+M*(o+u*t)=z+M*(p+q+v*r):=by
  have j:u*(D+M*t)=u*D+M*(u*t):=by rw[Nat.mul_add,Nat.mul_left_comm]
  have k:v*(E+M*r)=v*E+M*(v*r):=by rw[Nat.mul_add,Nat.mul_left_comm]
  rw[j,k] at g;rw[Nat.mul_add,Nat.mul_add M (p+q)];omega
 have b:=congrArg (· % M) i;simp only[Nat.add_mul_mod_self_left] at b;rw[Nat.mod_eq_of_lt hV,Nat.mod_eq_of_lt a] at b;exact b
theorem Qjy(j l n cx cy a b c d:Nat)(X Y:Vy)(w:Vz)(hX:Pre w j X)(hY:Pre w l Y)(E:j≠l)(sX:Small 18446744073709551616 X)(sY:Small 18446744073709551616 Y)(nX:n<=X.length)(nY:n<=Y.length)(hn:n<=1099511627776)(bl:n<=cx)(bm:n<=cy)
 (ha:a<18446744073709551616) (hb:b<18446744073709551616) (hc:c<18446744073709551616) (hd:d<18446744073709551616):
 Calls prog 221 #[.slice (some ⟨j,0,none⟩) n cx,.slice (some ⟨l,0,none⟩) n cy,.int .u64 a,.int .u64 b,.int .u64 c,.int .u64 d] w fun e w'=>e=.returned (.tuple #[])/\
  ∃g i,Pre w' j g/\Pre w' l i/\g.length=X.length/\i.length=Y.length/\Small 18446744073709551616 g/\Small 18446744073709551616 i/\Took n a b g X Y/\Took n c d i Y X/\Two j l w w':=by
 obtain⟨av,aw,F,G⟩:=Ic hX hY sX sY;have H:l≠j:=fun h=>E h.symm
 clear hX hY sX sY;go_enter func221,ntmps221;go_wp2;go_loopw [12,13,14,15,16,17,31] (fun ax ay az a0 a1 a2 iv wr=>∃(k y z A B C D:Nat) (g i:Vy),k<=n/\y<18446744073709551616/\z<18446744073709551616/\A<18446744073709551616/\B<18446744073709551616/\C<=1/\D<=1/\
  ax=.int .u64 y/\ay=.int .u64 z/\az=.int .u64 A/\a0=.int .u64 B/\a1=.int .u64 C/\a2=.int .u64 D/\iv=.int .i64 k/\Pre wr j g/\Pre wr l i/\g.length=X.length/\i.length=Y.length/\Small 18446744073709551616 g/\Small 18446744073709551616 i/\
  (∀p,k<=p->g.getD p 0=X.getD p 0)/\(∀p,k<=p->i.getD p 0=Y.getD p 0)/\
  val 18446744073709551616 (g.take k)+b*val 18446744073709551616 (Y.take k)+18446744073709551616 ^ k*y=a*val 18446744073709551616 (X.take k)+18446744073709551616 ^ k*(z+C)/\
  val 18446744073709551616 (i.take k)+d*val 18446744073709551616 (X.take k)+18446744073709551616 ^ k*A=c*val 18446744073709551616 (Y.take k)+18446744073709551616 ^ k*(B+D)/\Two j l w wr) (fun _ _ _ _ _ _ iv _=>n - (intOf iv).toNat)
 case atStart=>exact⟨0,0,0,0,0,0,0,X,Y,by omega,by omega,by omega,by omega,by omega,by omega,by omega,rfl,rfl,rfl,rfl,rfl,rfl,rfl,av.o,aw.o,rfl,rfl,F.o,G.o,fun _ _=>rfl,fun _ _=>rfl,by simp[val],by simp[val],Two.refl _ _ _⟩
 case round=>
  obtain⟨k,y,z,A,B,C,D,g,i,hk,a3,a4,a5,a6,a7,a8,rfl,rfl,rfl,rfl,rfl,rfl,rfl,I,J,lX,lY,tX,tY,rX,rY,eX,eY,K⟩:=hrel;obtain⟨HP,HQ,m,q,L,M,N,O,t⟩:=Ih I J lX lY tX tY rX rY eX;obtain⟨x,P⟩:=Ia eY K;clear tX tY rX rY eX eY K;by_cases bn:k<n
  .
   obtain⟨u,Q⟩:=nm (X.getD k 0);obtain⟨v,R⟩:=nm (Y.getD k 0);have S:u<18446744073709551616:=by rw[<-Q];exact F.o.getD (by omega) k
   have T:v<18446744073709551616:=by rw[<-R];exact G.o.getD (by omega) k
   obtain⟨a9,lA,U,ba,V,W⟩:=Qc3 u a y S ha a3;obtain⟨bb,lB,Z,bc,aa,ab⟩:=Qc3 v b z T hb a4;obtain⟨bd,lC,ad,be,ae,af⟩:=Qc3 v c A T hc a5;obtain⟨bf,lD,ag,bg,ah,ai⟩:=Qc3 u d B S hd a6;obtain⟨r,bh,hr,aj,ak,bi⟩:=sub64 lA lB C ba bc a7;obtain⟨s,bj,hs,al,am,bk⟩:=sub64 lC lD D be bg a8;have g1:=I.free k;have g2:=I.cell k (by omega);rw[N.o k lZ,Q] at g2;have g3:=J.free k;have g4:=J.cell k (by omega);rw[O.o k lZ,R] at g4;obtain⟨an,ao,ap,aq,ar,au⟩:=Ie W ab af ai (Qjx (by omega) Q R V aa ak t.o) (Qjx (by omega) R Q ae ah am x.o);clear Q R W ab af ai V aa ae ah ak am I J lX lY;go_wp2_with fail;go_fit (an.o _);rintro e1 w1 ⟨rfl,f⟩;subst f;go_wp2_with fail;go_fit (ao.o _);rintro e1 w1 ⟨rfl,f⟩;subst f
   go_wp2_with fail;go_fit (ap.o _);rintro e1 w1 ⟨rfl,f⟩;subst f;go_wp2_with fail;go_fit (aq.o _);rintro e1 w1 ⟨rfl,f⟩;subst f;clear an ao ap aq;go_wp2_with (simp only[bi,bk]);go_roundw
   case rel=>
    refine⟨k+1,a9,bb,bd,bf,bh,bj,g.set k r,i.set k s,by omega,U,Z,ad,ag,aj,al,rfl,rfl,rfl,rfl,rfl,rfl,by go_num,(HP.o.set k r (by have:=m.o;omega)).other E _ _,(HQ.o.other H _ _).set k s (by have:=q.o;omega),by rw[List.length_set];exact m.o,by rw[List.length_set];exact q.o,L.o.set k hr,M.o.set k hs,?_,?_,ar.o,au.o,(P.o.set1 _ _).set2 _ _⟩
    .
     intro p hp;rw[getD_set_ne _ _ _ _ (by omega)];exact N.o p (by omega)
    .
     intro p hp;rw[getD_set_ne _ _ _ _ (by omega)];exact O.o p (by omega)
   case measure=>simp[intOf];omega
  .
   have e1:k=n:=by omega
   clear I J lX lY;go_wp2;go_end0;rw[e1] at t x;exact⟨rfl,g,i,HP.o,HQ.o,m.o,q.o,L.o,M.o,⟨y,z,C,t.o⟩,⟨A,B,D,x.o⟩,P.o⟩
structure LInv (a0 b0 st:Nat) (odd:Bool) (xx xy yx yy nX nY a b pa:Nat):Prop where
 ra:if odd then yx*a0=yy*b0+a else yy*b0=yx*a0+a
 rb:if odd then nY*b0=nX*a0+b else nX*a0=nY*b0+b
 ab:b≤a
 d1:if odd then yx*nY=yy*nX+1 else yy*nX=yx*nY+1
 n1:nX≤nY
 n2:1≤nY
 s0:st=0→odd=true∧xy=0∧yx=1∧yy=0∧nX=0
 s1:1≤st→yx≤yy∧1≤yy∧yy≤a∧a+xy+yy≤pa∧1≤nX
 dd:1≤st→if odd then xy*yx=xx*yy+1 else xx*yy=xy*yx+1
 rp:1≤st→if odd then xy*b0=xx*a0+pa else xx*a0=xy*b0+pa
 s2:st=1→xy=0
 s3:2≤st→xx≤xy∧1≤xy∧1≤yx
theorem LInv.start(a b:Nat)(h:b≤a):LInv a b 0 true 0 0 1 0 0 1 a b 0:=
 ⟨by simp,by simp,h,by simp,by omega,by omega,fun _=>⟨rfl,rfl,rfl,rfl,rfl⟩,fun h=>by omega,fun h=>by omega,fun h=>by omega,fun h=>by omega,fun h=>by omega⟩
theorem LInv.whole{d e n:Nat}{c:Bool}{o p f g i j a b q:Nat}(h:LInv d e n c o p f g i j a b q):d=j*a+g*b∧e=i*a+f*b:=by
 have k:=h.ra;have l:=h.rb;have m:=h.d1;cases c
 · simp only[Bool.false_eq_true,if_false] at k l m
   constructor<;>grind
 · simp only[if_true] at k l m
   constructor<;>grind
theorem LInv.next{v w l q r:Nat}{c:Bool}{A B m n g e a b C:Nat}(h:LInv v w l c A B m n g e a b C)(D:e≤b)(E:b+n+e≤a)(I:q*b+r=a)(J:r<b)(o:1≤q):
 LInv v w (min (l+1) 2) (!c) m n g e (m+q*g) (n+q*e) b r a:=by
 have d:=h.ra;have j:=h.rb;have k:=h.d1;have p:=h.n1;have s:=h.n2;have F:q*g≤q*e:=Nat.mul_le_mul_left q p;have G:e≤q*e:=by have:=Nat.mul_le_mul_right e o;omega
 have H:g≤q*g:=by have:=Nat.mul_le_mul_right g o;omega
 have i:l=0∨1≤l:=by omega
 have t:m+q*g≤n+q*e:=by
  rcases i with f|f
  · obtain⟨_,_,x,y,z⟩:=h.s0 f
    rw[x,y,z,Nat.mul_zero];omega
  · have:=(h.s1 f).1;omega
 have u:1≤m+q*g:=by
  rcases i with f|f
  · obtain⟨_,_,x,y,z⟩:=h.s0 f
    omega
  · have:=(h.s1 f).2.2.2.2;omega
 refine⟨?_,?_,by omega,?_,t,by omega,fun f=>by omega,fun _=>⟨p,s,D,by omega,u⟩,fun _=>?_,fun _=>?_,fun f=>?_,fun f=>?_⟩
 ·
  cases c
  · simp only[Bool.not_false,if_true,Bool.false_eq_true,if_false] at j ⊢;exact j
  · simp only[Bool.not_true,Bool.false_eq_true,if_false,if_true] at j ⊢;exact j
 ·
  cases c
  · simp only[Bool.not_false,if_true,Bool.false_eq_true,if_false] at d j ⊢;grind
  · simp only[Bool.not_true,Bool.false_eq_true,if_false,if_true] at d j ⊢;grind
 ·
  cases c
  · simp only[Bool.not_false,if_true,Bool.false_eq_true,if_false] at k ⊢;grind
  · simp only[Bool.not_true,Bool.false_eq_true,if_false,if_true] at k ⊢;grind
 ·
  cases c
  · simp only[Bool.not_false,if_true,Bool.false_eq_true,if_false] at k ⊢;exact k
  · simp only[Bool.not_true,Bool.false_eq_true,if_false,if_true] at k ⊢;exact k
 ·
  cases c
  · simp only[Bool.not_false,if_true,Bool.false_eq_true,if_false] at d ⊢;exact d
  · simp only[Bool.not_true,Bool.false_eq_true,if_false,if_true] at d ⊢;exact d
 ·
  rcases i with d|d
  · exact(h.s0 d).2.2.2.1
  · omega
 · have d:1≤l:=by omega
   exact⟨(h.s1 d).1,(h.s1 d).2.1,(h.s1 d).2.2.2.2⟩
structure Lehm (odd:Bool) (xx xy yx yy x y X Y:Nat):Prop where
 fx:if odd then xy*y=xx*x+X else xx*x=xy*y+X
 fy:if odd then yx*x=yy*y+Y else yy*y=yx*x+Y
 le:Y≤X
 bx:x=yy*X+xy*Y
 by':y=yx*X+xx*Y
 p1:1≤xy
 p2:1≤yx
 p3:1≤yy
theorem Qdz{u v z P:Nat}(b:z<P)(a:u≤v):u*z≤v*P:=Nat.mul_le_mul a (Nat.le_of_lt b)
theorem LInv.done{i j t:Nat}{g:Bool}{e d f c B C a b o P k l x y:Nat}(h:LInv i j t g e d f c B C a b o)(D:2≤t)(p:x=i*P+k)(q:y=j*P+l)(m:k<P)(n:l<P):∃X Y,Lehm g e d f c x y X Y:=by
 obtain⟨k1,k2,E,K,L⟩:=h.s1 (by omega);obtain⟨F,u,v⟩:=h.s3 D;have w:=h.ra;have z:=h.rp (by omega);have A:=h.dd (by omega);have M:=Qdz m F;have N:=Qdz n (Nat.le_refl d);have O:=Qdz m k1;have Q:=Qdz n (Nat.le_refl c);have R:d*P+c*P+a*P≤o*P:=by rw[←Nat.add_mul,←Nat.add_mul];exact Nat.mul_le_mul_right _ (by omega)
 have S:c*P≤a*P:=Nat.mul_le_mul_right _ E;cases g
 ·
  simp only[Bool.false_eq_true,if_false] at w z A;have G:e*x=d*(j*P)+o*P+e*k:=by rw[p];grind
  have H:d*y=d*(j*P)+d*l:=by rw[q];grind
  have I:c*y=f*(i*P)+a*P+c*l:=by rw[q];grind
  have J:f*x=f*(i*P)+f*k:=by rw[p];grind
  obtain⟨X,r⟩:∃X,e*x=d*y+X:=⟨e*x - d*y,by omega⟩;obtain⟨Y,s⟩:∃Y,c*y=f*x+Y:=⟨c*y - f*x,by omega⟩;refine⟨X,Y,by simpa using r,by simpa using s,by omega,?_,?_,u,v,k2⟩
  · grind
  · grind
 ·
  simp only[if_true] at w z A;have G:d*y=e*(i*P)+o*P+d*l:=by rw[q];grind
  have H:e*x=e*(i*P)+e*k:=by rw[p];grind
  have I:f*x=c*(j*P)+a*P+f*k:=by rw[p];grind
  have J:c*y=c*(j*P)+c*l:=by rw[q];grind
  obtain⟨X,r⟩:∃X,d*y=e*x+X:=⟨d*y - e*x,by omega⟩;obtain⟨Y,s⟩:∃Y,f*x=c*y+Y:=⟨f*x - c*y,by omega⟩;refine⟨X,Y,by simpa using r,by simpa using s,by omega,?_,?_,u,v,k2⟩
  · grind
  · grind
theorem Lehm.gcd{a:Bool}{b c d e x y X Y:Nat}(h:Lehm a b c d e x y X Y):Nat.gcd X Y=Nat.gcd x y:=by
 apply Nat.dvd_antisymm
 ·
  apply Nat.dvd_gcd
  · rw[h.bx]
    exact Nat.dvd_add (Nat.dvd_trans (Nat.gcd_dvd_left X Y) (Nat.dvd_mul_left X e)) (Nat.dvd_trans (Nat.gcd_dvd_right X Y) (Nat.dvd_mul_left Y c))
  · rw[h.by']
    exact Nat.dvd_add (Nat.dvd_trans (Nat.gcd_dvd_left X Y) (Nat.dvd_mul_left X d)) (Nat.dvd_trans (Nat.gcd_dvd_right X Y) (Nat.dvd_mul_left Y b))
 ·
  have j:=Nat.gcd_dvd_left x y;have k:=Nat.gcd_dvd_right x y;have f1:=h.fx;have f2:=h.fy;generalize Nat.gcd x y=g at*;have f:∀u,g ∣ u*x:=fun u=>Nat.dvd_trans j (Nat.dvd_mul_left x u)
  have i:∀u,g ∣ u*y:=fun u=>Nat.dvd_trans k (Nat.dvd_mul_left y u)
  apply Nat.dvd_gcd
  ·
   cases a
   · simp only[Bool.false_eq_true,if_false] at f1
     exact(Nat.dvd_add_right (i c)).1 (f1 ▸ f b)
   · simp only[if_true] at f1
     exact(Nat.dvd_add_right (f b)).1 (f1 ▸ i c)
  ·
   cases a
   · simp only[Bool.false_eq_true,if_false] at f2
     exact(Nat.dvd_add_right (f d)).1 (f2 ▸ i e)
   · simp only[if_true] at f2
     exact(Nat.dvd_add_right (i e)).1 (f2 ▸ f d)
theorem Lehm.less{a:Bool}{d e f g x y X Y:Nat}(h:Lehm a d e f g x y X Y)(i:0<y):X≤y∧X+Y<x+y:=by
 have j:=h.bx;have c:=h.by';have k:=Nat.mul_le_mul_right X h.p3;have l:=Nat.mul_le_mul_right Y h.p1;have m:=Nat.mul_le_mul_right X h.p2;have n:=h.le;have o:0<X:=by
  rcases Nat.eq_zero_or_pos X with b|b
  ·
   have:Y=0:=by omega
   rw[b,this] at c;simp at c;omega
  · exact b
 constructor<;>omega
theorem Qju(d e s:Nat)(n:s<64)(f:d*2 ^ s<18446744073709551616)(i:e<18446744073709551616):∃lo g b r:Nat,IntKind.u64.wrap ((d:Int)*2 ^ s)=(lo:Int)/\(e:Int) / 2 ^ (64 - s)=(g:Int)/\bits .or .u64 (lo:Int) (g:Int)=(b:Int)/\b<18446744073709551616/\r<2 ^ (64 - s)/\b*2 ^ (64 - s)+r=e+18446744073709551616*d:=by
 have c:=Qbq (s:=s) (by omega);have j:=Qff (lo:=e) (s:=s) (by omega) i;have o:=Nat.div_add_mod e (2 ^ (64 - s));have h:2 ^ s*d+e / 2 ^ (64 - s)<18446744073709551616:=by
  have k:d+1<=2 ^ (64 - s):=by
   apply Nat.lt_of_mul_lt_mul_left (a:=2 ^ s);rw[c,Nat.mul_comm];exact f
  have l:=Nat.mul_le_mul_left (2 ^ s) k;rw[c,Nat.mul_add,Nat.mul_one] at l;omega
 refine⟨d*2 ^ s,e / 2 ^ (64 - s),2 ^ s*d+e / 2 ^ (64 - s),e % 2 ^ (64 - s),?_,?_,?_,h,Nat.mod_lt _ (Nat.two_pow_pos _),?_⟩
 . rw[show (d:Int)*2 ^ s=((d*2 ^ s:Nat):Int) by rw[Int.natCast_mul,Int.natCast_pow];rfl,Qb3 _ f]
 . rw[Int.natCast_ediv,Int.natCast_pow];rfl
 . exact or64 _ _ d (e / 2 ^ (64 - s)) s (by rw[Nat.mul_comm]) rfl j h
 .
  have m:2 ^ s*d*2 ^ (64 - s)=18446744073709551616*d:=by rw[Nat.mul_right_comm,c]
  rw[Nat.add_mul,m,Nat.mul_comm (e / 2 ^ (64 - s))];omega
theorem Qjv{l:Vy}{x N:Nat}(h:Num 18446744073709551616 l x)(hl:l.length<=N+2):∃a,a<18446744073709551616 ^ N/\x=a+18446744073709551616 ^ N*(l.getD N 0+18446744073709551616*l.getD (N+1) 0):=by
 refine⟨val 18446744073709551616 (l.take N),?_,?_⟩
 . have b:=Qab (B:=18446744073709551616) (by decide) (h.small.take N)
   exact Nat.lt_of_lt_of_le b (Nat.pow_le_pow_right (by decide) (by rw[List.length_take];omega))
 .
  have b:=Qae 18446744073709551616 l (N+1);rw[List.take_of_length_le (by omega),h.eq,Qae,Nat.pow_succ] at b;rw[b,Nat.mul_add,Nat.mul_assoc];omega
structure Highs (x y a b P x' y':Nat):Prop where
 hx:x=a*P+x'
 hy:y=b*P+y'
 hx':x'<P
 hy':y'<P
 ab:b<=a
 ha:a<18446744073709551616
theorem Qrk{x y c d N s d1 d0 e g a b r t:Nat}(h:y<=x)(i:x=c+18446744073709551616 ^ N*(d0+18446744073709551616*d1))(j:y=d+18446744073709551616 ^ N*(g+18446744073709551616*e))(k:c<18446744073709551616 ^ N)(l:d<18446744073709551616 ^ N)
 (m:a*2 ^ (64 - s)+r=d0+18446744073709551616*d1) (n:b*2 ^ (64 - s)+t=g+18446744073709551616*e) (o:r<2 ^ (64 - s)) (q:t<2 ^ (64 - s)) (f:a<18446744073709551616):∃P u v,Highs x y a b P u v:=by
 generalize 18446744073709551616 ^ N=M at*;generalize 2 ^ (64 - s)=p at*;have w:M*(r+1)<=M*p:=Nat.mul_le_mul_left M o;have z:M*(t+1)<=M*p:=Nat.mul_le_mul_left M q;rw[Nat.mul_add,Nat.mul_one] at w z;have e:x=a*(M*p)+(c+M*r):=by rw[i,<-m];grind
 have A:y=b*(M*p)+(d+M*t):=by rw[j,<-n];grind
 refine⟨M*p,c+M*r,d+M*t,e,A,by omega,by omega,?_,f⟩;apply bC;intro C;have B:(a+1)*(M*p)<=b*(M*p):=Nat.mul_le_mul_right _ (by omega);rw[Nat.add_mul,Nat.one_mul] at B;omega
theorem Qrl(N:Nat)(l m:Vy)(x y:Nat)(v:Num 18446744073709551616 l x)(E:Num 18446744073709551616 m y)(F:y<=x)(hl:l.length=N+2)(ad:l.length<=1099511627776):
 ∃a b:Nat,(∃P x' y',Highs x y a b P x' y')/\∀(W G:Vx) (c1 c2:Nat) (w:Vz),U64 w W c1 l x->U64 w G c2 m y->Calls prog 214 #[.slice W l.length c1,.slice G m.length c2] w fun e w'=>e=.returned (.tuple #[.int .u64 (a:Int),.int .u64 (b:Int)])/\Below w.heap.size w w':=by
 have H:m.length<=N+2:=by
  apply bC;intro hc;have:=Qau (B:=18446744073709551616) (by decide) v.small E.trim (by omega);rw[v.eq,E.eq] at this;omega
 have g:m.length<=1099511627776:=by omega
 obtain⟨lx,I,X⟩:=Qjv v (N:=N) (by omega);obtain⟨ly,J,Y⟩:=Qjv E (N:=N) H;obtain⟨d1,j⟩:∃d,l.getD (N+1) 0=d:=⟨_,rfl⟩;obtain⟨d0,n⟩:∃d,l.getD N 0=d:=⟨_,rfl⟩;obtain⟨f1,z⟩:∃d,m.getD (N+1) 0=d:=⟨_,rfl⟩;obtain⟨f0,q⟩:∃d,m.getD N 0=d:=⟨_,rfl⟩;have K:d1<18446744073709551616:=by rw[<-j];exact v.small.getD (by omega) _
 have M:d0<18446744073709551616:=by rw[<-n];exact v.small.getD (by omega) _
 have O:f0<18446744073709551616:=by rw[<-q];exact E.small.getD (by omega) _
 have Q:0<d1:=by
  obtain⟨_,t,V,_,_,h,_⟩:=Qjr v (N:=N+1) (by omega);rw[<-j,V];exact h
 rw[j,n] at X;rw[z,q] at Y;have Z:f1<=d1:=by
  apply bC;intro hc;have k1:18446744073709551616 ^ N*(d0+18446744073709551616*d1+1)<=18446744073709551616 ^ N*(f0+18446744073709551616*f1):=Nat.mul_le_mul_left _ (by omega);rw[Nat.mul_add _ _ 1,Nat.mul_one] at k1;omega
 obtain⟨s,u,hs,R,k⟩:=Qfd d1 Q K;have c:=Hi (fun w=>Qfc (d1:Int) w (by omega) (by omega));rw[hs] at c;obtain⟨lo,hi,a,r,u1,u2,u3,aa,hr,S⟩:=Qju d1 d0 s u k M;obtain⟨ae,af,b,t,v1,v2,v3,ag,V,T⟩:=Qju f1 f0 s u (Nat.lt_of_le_of_lt (Nat.mul_le_mul_right _ Z) k) O;refine⟨a,b,Qrk F X Y I J S T hr V aa,?_⟩;intro W G c1 c2 w h1 h2;obtain⟨b1,o1,rfl,ah,U⟩:=h1.row.cell (N+1) (by omega);obtain⟨b2,o2,e2,ai,ab⟩:=h1.row.cell N (by omega);obtain⟨rfl,rfl⟩:b1=b2/\o1=o2:=by simp at e2;exact e2
 clear e2;have f:=Qby G c2 m (N+1);have i:=Qby G c2 m N;rw[z] at f;rw[q] at i;rw[j] at U;rw[n] at ab;obtain⟨D,f,i⟩:=Ib h2 f i;obtain⟨L,hL⟩:=nm l.length;obtain⟨p,hp⟩:=nm (N+1);rw[hL];rw[hp] at U f;have w1:IntKind.i64.wrap ((L:Int) - 1)=(p:Int):=by rw[Qam _ (by omega) (by omega)];omega
 have w2:IntKind.i64.wrap ((L:Int) - 2)=(N:Int):=by rw[Qam _ (by omega) (by omega)];omega
 have w3:IntKind.i64.wrap (64 - (s:Int))=((64 - s:Nat):Int):=by rw[Qam _ (by omega) (by omega)];omega
 have i1:(p:Int)<(L:Int):=by omega
 have i2:(N:Int)<(L:Int):=by omega
 have A:p<=2199023255552:=by omega
 have C:N<=2199023255552:=by omega
 clear h1 h2 v E X Y I J S T hr V R k j n z q hs F hl H hp;go_enter func214,ntmps214;go_wp2_with fail;go_fit (c.o _);rintro e w2 ⟨rfl,hw⟩;subst hw;clear c;go_wp2_with fail;go_region
 all_goals
  go_wp2_with fail;go_region_held3 (fun _=>True) (trivial) (first
   |(
    go_at_call 224
    first
     |go_fit (f.o _ (D.o.row) g A)
     |go_fit (f.o _ (D.o.drew.row) g A)
     |go_fit (f.o _ (D.o.drew.drew.row) g A)
     |go_fit (i.o _ (D.o.row) g C)
     |go_fit (i.o _ (D.o.drew.row) g C)
     |go_fit (i.o _ (D.o.drew.drew.row) g C)
    rintro e w6 ⟨rfl,hw⟩
    subst hw))
  all_goals
   go_wp2;go_ret2;exact⟨rfl,bR.drew.drew⟩
theorem SB.apart{w:Vz}{b g:Nat}{t:Vr}{C:Vw}(h:SB w b t C)(a:b≠g)(i:Nat)(v:Value):SB (w.setCell ⟨g,i,none⟩ v) b t C:=by
 unfold SB at h ⊢;rw[Below.heap_setCell _ _ _ _ a];exact h
def StepsVal(odd:Bool)(xx xy yx yy:Nat):Value:=.agg #[.int .u64 xx,.int .u64 xy,.int .u64 yx,.int .u64 yy,.bool odd]
structure Steps (x y:Nat) (odd:Bool) (xx xy yx yy:Nat):Prop where
 bxx:xx<18446744073709551616
 bxy:xy<18446744073709551616
 byx:yx<18446744073709551616
 byy:yy<18446744073709551616
 go:0<xy->∃X Y,Lehm odd xx xy yx yy x y X Y
def StepsSaid(x y:Nat)(w:Vz)(e:Ending)(w':Vz):Prop:=(∃odd xx xy yx yy,e=.returned (StepsVal odd xx xy yx yy)/\Steps x y odd xx xy yx yy)/\Below w.heap.size w w'
theorem LInv.small{d k f:Nat}{g:Bool}{l m i c j e a b n:Nat}(h:LInv d k f g l m i c j e a b n)(o:1<=b):j<=d/\e+c<=d/\i<=d+1:=by
 have p:=h.whole;have q:=h.ab;have r:e*1<=e*a:=Nat.mul_le_mul_left _ (by omega);have s:c*1<=c*b:=Nat.mul_le_mul_left _ o;have t:=h.n1;have u:i<=c+1:=by
  rcases(show f=0∨1<=f by omega) with h0|h0
  . have:=h.s0 h0;omega
  . have:=h.s1 h0;omega
 refine⟨by omega,by omega,by have:=h.n2;omega⟩
theorem LInv.step{j o p:Nat}{g:Bool}{t w k f i c a b x:Nat}(h:LInv j o p g t w k f i c a b x)(y:c<=b)(l:b+f+c<=a):∃q r u v d e:Nat,(a:Int) / (b:Int)=(q:Int)/\Int.tdiv (a:Int) (b:Int)=(q:Int)/\(a:Int) % (b:Int)=(r:Int)/\Int.tmod (a:Int) (b:Int)=(r:Int)/\(q:Int)*(i:Int)=(u:Int)/\(q:Int)*(c:Int)=(v:Int)/\(k:Int)+(u:Int)=(d:Int)/\(f:Int)+(v:Int)=(e:Int)/\
 d<=j/\e<=j/\u<=d/\v<=e/\r<b/\q<=a/\LInv j o (min (p+1) 2) (!g) k f i c d e b r a:=by
 have z:=h.n2;have A:a / b*b+a % b=a:=by rw[Nat.mul_comm];exact Nat.div_add_mod a b
 have s:a % b<b:=Nat.mod_lt _ (by omega);have m:1<=a / b:=(Nat.one_le_div_iff (by omega)).2 (by omega);have n:=h.next y l A s m;have B:=n.whole;have C:=n.n1;have D:(f+a / b*c)*1<=(f+a / b*c)*b:=Nat.mul_le_mul_left _ (by omega);refine⟨a / b,a % b,a / b*i,a / b*c,k+a / b*i,f+a / b*c,rfl,rfl,rfl,rfl,(Int.natCast_mul _ _).symm,(Int.natCast_mul _ _).symm,(Int.natCast_add _ _).symm,(Int.natCast_add _ _).symm,by omega,by omega,by omega,by omega,s,Nat.div_le_self _ _,n⟩
theorem Tryz.stepsInfo:(prog.info? 218).map (·.size)=some 5:=by kernel_rfl
theorem LInv.steps{j k d:Nat}{c:Bool}{e f g i l m a b n P o p x y:Nat}(h:LInv j k d c e f g i l m a b n)(H:Highs x y j k P o p)(q:e<18446744073709551616)(r:f<18446744073709551616)(s:g<18446744073709551616)(t:i<18446744073709551616):Steps x y c e f g i:=by
 refine⟨by omega,by omega,by omega,by omega,fun u=>?_⟩;rcases(show d=0∨d=1∨2<=d by omega) with h1|h1|h1
 . have:=h.s0 h1;omega
 . have:=h.s2 h1;omega
 . exact h.done h1 H.hx H.hy H.hx' H.hy'
theorem Qrp(M Q:Vx)(c1 c2 N:Nat)(l m:Vy)(x y:Nat)(w:Vz)(I:U64 w M c1 l x)(S:U64 w Q c2 m y)(D:y<=x)(hl:l.length=N+2):
 Calls prog 178 #[.slice M l.length c1,.slice Q m.length c2] w (StepsSaid x y w):=by
 obtain⟨J,T,⟨P,x',y',K⟩,hC⟩:=Qrl N l m x y I.num S.num D hl I.short;obtain⟨HC,HH⟩:=Ia hC K;have ao:=K.ha;have U:=K.ab;obtain⟨H1,H2⟩:=Ia I S;clear K hC I S D hl;go_enter func178,ntmps178;go_wp2_with fail;go_fit (HC.o M Q c1 c2 _ (H1.o.below (bR.alloc lZ _)) (H2.o.below (bR.alloc lZ _)));rintro e w1 ⟨rfl,B⟩;have HB:O (Below w.heap.size w w1):=Hi ((bR.alloc lZ _).trans (B.mono (by rw[World.size_alloc];omega)));have d:=SB.below (SB.new w _ _) B (by rw[World.size_alloc];omega);obtain⟨R,E⟩:=nm w.heap.size;obtain⟨g,L⟩:=nm w1.heap.size;have i:R<g:=by rw[<-L,<-E];exact d.lt
 have HS:=Hi d;rw[E] at HB HS;clear B HC d;go_wp2_with fail
 try rw[L]
 try rw[E]
 obtain⟨HG,HR⟩:=Ia L E;clear L E;go_loopw [5,6,8,9] (fun av V W X wr=>∃(Y:Nat) (c:Bool) (k n j f F p a b pa:Nat),av=.int .u64 a/\V=.int .u64 b/\W=.int .u64 F/\X=.int .u64 p/\a<=J/\F<18446744073709551616/\p<18446744073709551616/\k<18446744073709551616/\n<18446744073709551616/\j<18446744073709551616/\f<18446744073709551616/\LInv J T Y c k n j f F p a b pa/\
  SB wr g 218 #[.int .u64 k,.int .u64 n,.int .u64 j,.int .u64 f,.bool c]/\SB wr R 218 #[.int .u64 0,.int .u64 0,.int .u64 0,.int .u64 0,.bool false]/\Below R w wr) (fun _ V _ _ _=>(intOf V).toNat)
 case atStart=>
  refine⟨0,true,0,0,1,0,0,1,J,T,0,rfl,rfl,rfl,rfl,by omega,by omega,by omega,by omega,by omega,by omega,by omega,LInv.start J T U,?_,HS.o.alloc _,HB.o.alloc (by rw[HG.o];omega) _⟩;rw[<-HG.o];exact SB.new _ _ _
 case round=>
  obtain⟨Y,c,k,n,j,f,F,p,a,b,pa,rfl,rfl,rfl,rfl,ap,Z,aa,G,H,s,t,hL,d,h,B⟩:=hrel;obtain⟨C,ad,z,A⟩:=Ic hL d h B;have k0:=d.cell 0;have k1:=d.cell 1;have k2:=d.cell 2;have k3:=d.cell 3;have k4:=d.cell 4;have f0:=d.free 0;have f1:=d.free 1;have f2:=d.free 2;have f3:=d.free 3;have f4:=d.free 4;have r0:=h.cell 0;have r1:=h.cell 1;have r2:=h.cell 2;have r3:=h.cell 3;have r4:=h.cell 4;have q0:=h.free 0;have q1:=h.free 1;have q2:=h.free 2;have q3:=h.free 3;have q4:=h.free 4;simp at k0 k1 k2 k3 k4 r0 r1 r2 r3 r4;have aq:=hL.ab;clear d h B hL;by_cases ae:p<=b
  .
   have af:=C.o.small (by have:=C.o.n2;omega);obtain⟨aj,ak,al⟩:=af;by_cases ag:b+f+p<=a
   .
    obtain⟨q,r,u,v,ah,ai,d1,d2,d3,d4,d5,d6,d7,d8,am,an,hu,hv,h,ar,hN⟩:=C.o.step ae ag;have HN:=Hi hN;clear hN;have t1:((b:Int) == 0)=false:=by rw[beq_eq_false_iff_ne];have:=C.o.n2;omega
    have t2:decide ((f:Int)+(p:Int)<=(a:Int) - (b:Int))=true:=by simp;omega
    clear r0 r1 r2 r3 r4 q0 q1 q2 q3 q4;go_wp2_with fail;go_region
    all_goals
     go_wp2;refine⟨⟨min (Y+1) 2,!c,j,f,F,p,ah,ai,b,r,a,rfl,rfl,rfl,rfl,by omega,by omega,by omega,s,t,Z,aa,HN.o,?_,?_,?_⟩,?_⟩
     . exact SB.drew (((((ad.o.set 0 _).set 2 _).set 1 _).set 3 _).set 4 _)
     . refine SB.drew (SB.apart (SB.apart (SB.apart (SB.apart (SB.apart z.o ?_ 0 _) ?_ 2 _) ?_ 1 _) ?_ 3 _) ?_ 4 _)
       all_goals omega
     . exact(((((A.o.setCell (Nat.le_of_lt i) _).setCell (Nat.le_of_lt i) _).setCell (Nat.le_of_lt i) _).setCell (Nat.le_of_lt i) _).setCell (Nat.le_of_lt i) _).drew
     . simp[intOf];omega
   .
    have t1:((a:Int) - (b:Int)≥(f:Int)+(p:Int))=False:=by simp;omega
    have t2:decide ((f:Int)+(p:Int)<=(a:Int) - (b:Int))=false:=by simp;omega
    go_wp2;refine bodyPost_ret (v:=StepsVal c k n j f) (results_cell_row rfl _ _ R 218 #[.int .u64 k,.int .u64 n,.int .u64 j,.int .u64 f,.bool c] (0,0) _ rfl (((((z.o.set 0 _).set 1 _).set 2 _).set 3 _).set 4 _) underlying218 rfl Tryz.stepsInfo) rfl ?_;exact⟨⟨c,k,n,j,f,rfl,C.o.steps HH.o G H s t⟩,by rw[HR.o];exact((((A.o.setCell lZ _).setCell lZ _).setCell lZ _).setCell lZ _).setCell lZ _⟩
  .
   go_wp2;refine bodyPost_ret (v:=StepsVal c k n j f) (results_cell_row rfl _ _ R 218 #[.int .u64 k,.int .u64 n,.int .u64 j,.int .u64 f,.bool c] (0,0) _ rfl (((((z.o.set 0 _).set 1 _).set 2 _).set 3 _).set 4 _) underlying218 rfl Tryz.stepsInfo) rfl ?_;exact⟨⟨c,k,n,j,f,rfl,C.o.steps HH.o G H s t⟩,by rw[HR.o];exact((((A.o.setCell lZ _).setCell lZ _).setCell lZ _).setCell lZ _).setCell lZ _⟩
theorem Qrq(b:Bool)(c a d f:Nat)(w:Vz):
 Calls prog 179 #[StepsVal b c a d f] w fun e g=>e=.returned (.bool (decide (a=0)))/\Below w.heap.size w g:=by
 rw[show (decide (a=0))=((a:Int) == 0) by by_cases h:a=0<;>simp[h]];unfold StepsVal;go_enter func179,ntmps179;go_wp2;go_ret;exact⟨rfl,bR.alloc lZ _⟩
theorem Qjz{w:Vz}{g a n:Nat}{C l:Vy}{x:Nat}(h:ON w g a C l x)(b:n<=l.length):∃t,x=val 18446744073709551616 (C.take n)+18446744073709551616 ^ n*t:=by
 refine⟨val 18446744073709551616 (l.drop n),?_⟩;have e:C.take n=l.take n:=by
  have:=congrArg (List.take n) h.fro;rw[List.take_take,Nat.min_eq_left b] at this;exact this
 rw[e,<-Qaj _ _ _ b];exact h.num.eq.symm
theorem ON.lt{w:Vz}{g a:Nat}{C l:Vy}{x:Nat}(h:ON w g a C l x):x<18446744073709551616 ^ l.length:=by
 have:=Qab (B:=18446744073709551616) (by decide) h.num.small;rw[h.num.eq] at this;exact this
def Both(w:Vz)(gx gy X Y:Nat)(e:Ending):Prop:=∃ga gb ca cb Ca Cb la lb,e=.returned (.tuple #[.slice (some ⟨ga,0,none⟩) (List.length la) ca,.slice (some ⟨gb,0,none⟩) (List.length lb) cb])/\ON w ga ca Ca la X/\ON w gb cb Cb lb Y/\((ga=gx/\gb=gy)∨(ga=gy/\gb=gx))
theorem Qrr(c:Bool)(H I J K:Nat)(j k v A:Nat)(Cx Cy l m:Vy)(x y X Y:Nat)(w:Vz)(d:ON w j v Cx l x)(g:ON w k A Cy m y)(af:j≠k)(ap:y<=x)(z:Steps x y c H I J K)(hL:Lehm c H I J K x y X Y)(hy:0<y)(B:Nat)(ag:B<=j)(ah:B<=k):
 Calls prog 181 #[StepsVal c H I J K,.slice (some ⟨j,0,none⟩) l.length v,.slice (some ⟨k,0,none⟩) m.length A] w fun e w'=>Both w' j k X Y e/\Below B w w':=by
 have hl:=hL.less hy;have aq:m.length<=l.length:=g.num.length_le_of_lt (by decide) (Nat.lt_of_le_of_lt ap d.lt);have L:=d.fit;have M:=g.fit;have N:=d.le;have P:=g.le;have Q:=d.len;have R:=g.len;have C:X<18446744073709551616 ^ m.length:=Nat.lt_of_le_of_lt hl.1 g.lt;have S:Y<18446744073709551616 ^ m.length:=Nat.lt_of_le_of_lt (by have:=hL.le;omega) C;have tx:=Qjz d aq;have ty:=Qjz g lZ;have fx:=hL.fx;have fy:=hL.fy;have i:=Hi (⟨C,S,tx,ty⟩:X<18446744073709551616 ^ m.length/\Y<18446744073709551616 ^ m.length/\_/\_);obtain⟨wa,n⟩:=nm (w.alloc (.cells #[Value.int .u64 H,.int .u64 I,.int .u64 J,.int .u64 K,.bool c] 218));obtain⟨gs,hg⟩:=nm w.heap.size;have f:Below w.heap.size w wa:=by rw[<-n];exact(Below.refl _ _).alloc lZ _
 have a:SB wa gs 218 #[Value.int .u64 H,.int .u64 I,.int .u64 J,.int .u64 K,.bool c]:=by rw[<-n,<-hg];exact SB.new _ _ _
 have p1:=d.pre.below f d.pre.lt;have p2:=g.pre.below f g.pre.lt;have HB:O (Below B w wa):=Hi (f.mono (by have:=d.pre.lt;omega));have ai:O (B<=wa.heap.size):=Hi (by have:=d.pre.lt;have:=f.size;omega);have k0:=a.cell 0;have k1:=a.cell 1;have k2:=a.cell 2;have k3:=a.cell 3;have k4:=a.cell 4;simp at k0 k1 k2 k3 k4;obtain⟨HW,HG,aj,ak,D,E,ar,au⟩:=Ig n hg Q R N P L M;have al:m.length<=v:=by omega
 have am:m.length<=A:=by omega
 obtain⟨an,ao⟩:=Ia al am;have im:(m.length:Int)<=(v:Int):=by omega
 have av:(0:Int)<=(m.length:Int):=by omega
 unfold StepsVal;cases c
 .
  simp only[Bool.false_eq_true,if_false] at fx fy;obtain⟨p,T,U⟩:=Ib (Qjy j k m.length v A H I K J Cx Cy wa p1 p2 af d.small g.small (by omega) (by omega) (by omega) (by omega) (by omega) z.bxx z.bxy z.byy z.byx) fx fy;clear d g z hL hl C S tx ty fx fy p1 p2 f a n hg Q R N P L M;go_enter func181,ntmps181;go_wp2_with fail;rw[HW.o,HG.o];go_wp2_with fail;go_fit p.o;rintro e w2 ⟨rfl,X2,Y2,q,r,F,G,V,W,oX,oY,s⟩;obtain⟨Z,aa⟩:=Ia (Qc2 j m.length v X X2 w2 q V (by rw[F];exact aj.o) (by rw[F];have:=D.o;omega) an.o (oX.end V (by rw[F];have:=D.o;omega) i.o.2.2.1 i.o.2.2.2 T.o i.o.1)) (Qc2 k m.length A Y Y2 w2 r W (by rw[G];exact ak.o) (by rw[G];have:=E.o;omega) ao.o (oY.end W (by rw[G];have:=E.o;omega) i.o.2.2.2 i.o.2.2.1 U.o i.o.2.1))
  have ab:=Hi (HB.o.trans (s.below ag ah ai.o));clear q r F G V W oX oY s p k0 k1 k2 k3 k4;go_wp2_with fail;go_fit Z.o;rintro e w3 ⟨⟨r1,rfl,t,_⟩,b⟩;subst b;have ad:=Hi t;clear t;go_wp2_with fail;go_fit aa.o;rintro e w3 ⟨⟨r2,rfl,u,_⟩,b⟩;subst b;have ae:=Hi u;clear u;go_wp2;go_ret2;exact⟨⟨j,k,v,A,X2,Y2,r1,r2,rfl,ad.o,ae.o,.inl ⟨rfl,rfl⟩⟩,ab.o⟩
 .
  simp only[if_true] at fx fy;obtain⟨p,T,U⟩:=Ib (Qjy k j m.length A v I H J K Cy Cx wa p2 p1 (fun h=>af h.symm) g.small d.small (by omega) (by omega) (by omega) (by omega) (by omega) z.bxy z.bxx z.byx z.byy) fx fy;clear d g z hL hl C S tx ty fx fy p1 p2 f a n hg Q R N P L M;go_enter func181,ntmps181;go_wp2_with fail;rw[HW.o,HG.o];go_wp2_with fail;go_fit p.o;rintro e w2 ⟨rfl,X2,Y2,q,r,F,G,V,W,oX,oY,s⟩;obtain⟨Z,aa⟩:=Ia (Qc2 k m.length A X X2 w2 q V (by rw[F];exact ak.o) (by rw[F];have:=E.o;omega) ao.o (oX.end V (by rw[F];have:=E.o;omega) i.o.2.2.2 i.o.2.2.1 T.o i.o.1)) (Qc2 j m.length v Y Y2 w2 r W (by rw[G];exact aj.o) (by rw[G];have:=D.o;omega) an.o (oY.end W (by rw[G];have:=D.o;omega) i.o.2.2.1 i.o.2.2.2 U.o i.o.2.1))
  have ab:=Hi (HB.o.trans (s.below ah ag ai.o));clear q r F G V W oX oY s p k0 k1 k2 k3 k4;go_wp2_with fail;go_fit Z.o;rintro e w3 ⟨⟨r1,rfl,t,_⟩,b⟩;subst b;have ad:=Hi t;clear t;go_wp2_with fail;go_fit aa.o;rintro e w3 ⟨⟨r2,rfl,u,_⟩,b⟩;subst b;have ae:=Hi u;clear u;go_wp2;go_ret2;exact⟨⟨k,j,A,v,X2,Y2,r1,r2,rfl,ad.o,ae.o,.inr ⟨rfl,rfl⟩⟩,ab.o⟩
end Go.Proofs.YtkkadnoecklepaaGreatDoor
