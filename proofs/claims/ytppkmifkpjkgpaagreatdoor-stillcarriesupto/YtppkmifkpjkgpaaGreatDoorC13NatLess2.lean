import Derived.Test.YtppkmifkpjkgpaaGreatDoorC12NatStep
namespace Go.Proofs.YtppkmifkpjkgpaaGreatDoor
open Go.RowKit
open Go.Proofs.Tryz
set_option linter.unusedSimpArgs false
set_option linter.unusedVariables false
set_option maxHeartbeats 8000000
set_option maxRecDepth 1000000
def QR(w:Vz)(q r:Nat)(e:Ending)(w':Vz):Prop:=
 (∃aq cq lq ar cr lr,e=.returned (.tuple #[.slice aq (List.length lq) cq,.slice ar (List.length lr) cr])/\U64 w' aq cq lq q/\U64 w' ar cr lr r)/\Below w.heap.size w w'
theorem Qp9(b c:Vx)(c1 c2:Nat)(l m:Vy)(x y:Nat)(w:Vz)(d:U64 w b c1 l x)(g:U64 w c c2 m y)(a:x<y):
 Calls prog 194 #[.slice b l.length c1,.slice c m.length c2] w (QR w (x / y) (x % y)):=by
 have f:=Hi (Qc6 b c c1 c2 l m x y w d g);rw[Qcw a] at f;have j:=Hi d;clear d g;go_enter func194,ntmps194;go_wp2_with fail;refine f.o.mono ?_;rintro e w1 ⟨rfl,h⟩;have i:=Hi h;clear h f;go_wp2;go_ret2;exact⟨⟨none,0,[],b,c1,l,rfl,by rw[Nat.div_eq_of_lt a];exact U64.nil _,by rw[Nat.mod_eq_of_lt a];exact j.o.below i.o⟩,i.o⟩
theorem Qqa{q d r x:Nat}(h:q*d+r=x)(a:r<d):q=x / d/\r=x % d:=by
 rw[<-h,Nat.mul_comm q d];constructor
 . rw[Nat.mul_add_div (by omega),Nat.div_eq_of_lt a,Nat.add_zero]
 . rw[Nat.mul_add_mod,Nat.mod_eq_of_lt a]
theorem Qqb(F G:Vx)(c1 c2:Nat)(l m:Vy)(x y:Nat)(w:Vz)(q:U64 w F c1 l x)(s:U64 w G c2 m y)(aa:y<=x)(h0:0<y)(H:m.length=1):
 Calls prog 194 #[.slice F l.length c1,.slice G m.length c2] w (QR w (x / y) (x % y)):=by
 have I:=Hi (Qc6 F G c1 c2 l m x y w q s);have V:¬(cmp3 x y<0):=fun h=>by have:=(Qay x y).1 h;omega
 have J:0<l.length:=by
  rcases Nat.eq_zero_or_pos l.length with h|h
  . have:=(q.num.len_zero (by decide)).2 h;omega
  . exact h
 obtain⟨b,o,rfl,K,t⟩:=s.row.cell 0 (by omega);have L:m.getD 0 0=y:=by
  have W:=s.num.eq;obtain⟨d,rfl⟩:=List.length_eq_one_iff.1 H;rw[Qby,Qct,Nat.mul_zero,Nat.add_zero] at W;exact W
 rw[L,Nat.add_zero] at t;have M:y<18446744073709551616:=by rw[<-L];exact s.num.small.getD (by decide) 0
 have N:=q.short;have P:=Hi q;rw[H] at I;rw[H];have q1:((1:Int) == 1)=true:=rfl;clear q s L;go_enter func194,ntmps194;go_wp2_with fail;refine I.o.mono ?_;rintro e w1 ⟨rfl,i⟩;have a:=Hi i;have Q:=ce i K t;clear i I;go_wp2_with fail;refine(Qf6 F c1 l x _ (P.o.below a.o) J).mono ?_;rintro e w2 ⟨⟨g,cap',rfl,X,hg,Y⟩,i⟩;have u:=Hi i;have ab:=ce i (by have:=a.o.size;show b<_;omega) Q;have HP:=Hi Y;clear i Y;go_wp2_with fail;refine(Qqe g cap' y l _ HP.o P.o.num.small N h0 M).mono ?_;rintro e Z ⟨c,r,rfl,hr,j,n,v,hv3,f⟩;have z:=Hi (show Below w.heap.size w Z from ((a.o.trans (u.o.mono a.o.size)).trans (f.below (by have:=a.o.size;omega) (Nat.le_trans a.o.size u.o.size))));rw[P.o.num.eq] at hv3;have HQ:=Hi (Qqa hv3 hr)
 obtain⟨R,S,T⟩:=Ib j v (Qf5 (some ⟨g,0,none⟩) cap' c Z (j.row cap' (by omega)) (by omega));rw[n] at T;have p:=Hi n;clear j v hv3 f n;go_wp2_with fail;refine T.o.mono ?_;rintro e w4 ⟨⟨k,hk,rfl,A,B⟩,hw⟩;subst hw;have HU:O (U64 w4 (some ⟨g,0,none⟩) cap' (c.take k) (x / y)):=Hi ⟨(R.o.row cap' (by have:=p.o;omega)).take k (by have:=p.o;omega),⟨S.o.take k,B,by rw[A,HQ.o.1]⟩,by rw[List.length_take];omega⟩;have HK:=Hi (show (c.take k).length=k by rw[List.length_take];have:=p.o;omega);clear A B T;go_wp2_with fail;refine(Qqf r _ (by omega)).mono ?_;rintro e w5 ⟨⟨ar,cr,lr,rfl,C⟩,D⟩;obtain⟨U,E⟩:=Ia C D;clear C D;go_wp2;go_ret2;exact⟨⟨some ⟨g,0,none⟩,cap',c.take k,ar,cr,lr,by rw[HK.o];rfl,HU.o.below E.o,by rw[<-HQ.o.2];exact U.o⟩,z.o.trans (E.o.mono z.o.size)⟩
structure DInv (X D N M k:Nat) (us qs:Vy):Prop where
 ul:us.length=M+N
 ql:qs.length=M
 su:Small 18446744073709551616 us
 sq:Small 18446744073709551616 qs
 eq:val 18446744073709551616 us+D*(18446744073709551616 ^ k*val 18446744073709551616 (qs.drop k))=X
 rem:val 18446744073709551616 (us.drop k)<D
theorem DInv.zero{X D N M k:Nat}{us a:Vy}(h:DInv X D N M k us a)(hk:k<=M)(b:D<18446744073709551616 ^ N):val 18446744073709551616 (us.drop (k+N))=0:=by
 have:=Qfr 18446744073709551616 (by decide) (us.drop k) N (Nat.lt_trans h.rem b) (by rw[List.length_drop,h.ul];omega);rw[List.drop_drop] at this;exact this
theorem DInv.next{X D N M j q:Nat}{us b a:Vy}(h:DInv X D N M (j+1) us b)(c:j<M)(hl:a.length=us.length)(d:Small 18446744073709551616 a)(e:q<18446744073709551616)(f:val 18446744073709551616 a+18446744073709551616 ^ j*(q*D)=val 18446744073709551616 us)(g:val 18446744073709551616 (a.drop j)<D):DInv X D N M j a (b.set j q):=by
 refine⟨hl.trans h.ul,by rw[List.length_set];exact h.ql,d,h.sq.set j e,?_,g⟩;rw[Qal _ _ j (by rw[List.length_set,h.ql];exact c),Qbi _ _ _ (by rw[h.ql];exact c),List.drop_set,if_pos (by omega),<-h.eq,<-f,Nat.mul_add,Nat.mul_add,Nat.pow_succ,<-Nat.mul_assoc (18446744073709551616 ^ j) 18446744073709551616,Nat.mul_left_comm D (18446744073709551616 ^ j) q,Nat.mul_comm D q];omega
theorem DInv.win{X D N M j:Nat}{us a:Vy}(h:DInv X D N M (j+1) us a)(b:j<M)(c:0<D):val 18446744073709551616 (us.drop j)<18446744073709551616*D:=by
 rw[Qal _ us j (by rw[h.ul];omega)];have d:=h.su.getD (by decide) j;have e:=Nat.mul_le_mul_left 18446744073709551616 (show val 18446744073709551616 (us.drop (j+1))+1<=D from h.rem);omega
theorem Qqc{a c s N y:Nat}{d:Vy}(p:0<N)(q:y=c+18446744073709551616 ^ (N - 1)*a)(g:c<18446744073709551616 ^ (N - 1))(r:s<64)(l:9223372036854775808<=a*2 ^ s)(h:a*2 ^ s<18446744073709551616)(b:Num 18446744073709551616 d (y*2 ^ s)):d.length=N/\y*2 ^ s<18446744073709551616 ^ N/\9223372036854775808*18446744073709551616 ^ (N - 1)<=y*2 ^ s:=by
 obtain⟨K,rfl⟩:∃K,N=K+1:=⟨N - 1,by omega⟩;rw[Nat.add_sub_cancel] at*;have m:(a+1)*2 ^ s<=18446744073709551616:=by
  have i:=Qb1 (s:=s) (by omega);rw[<-i,Nat.mul_comm (2 ^ s)];apply Nat.mul_le_mul_right;rw[<-i,Nat.mul_comm (2 ^ s)] at h;exact Nat.lt_of_mul_lt_mul_right h
 have j:y*2 ^ s<18446744073709551616 ^ (K+1):=by
  have e:y<18446744073709551616 ^ K*(a+1):=by rw[Nat.mul_add];omega
  have f:=Nat.mul_lt_mul_of_pos_right e (Nat.two_pow_pos s);rw[Nat.mul_assoc] at f;have k:=Nat.mul_le_mul_left (18446744073709551616 ^ K) m;rw[Nat.pow_succ];omega
 have n:9223372036854775808*18446744073709551616 ^ K<=y*2 ^ s:=by
  have e:18446744073709551616 ^ K*a<=y:=by omega
  have f:=Nat.mul_le_mul_right (2 ^ s) e;rw[Nat.mul_assoc] at f;have k:=Nat.mul_le_mul_left (18446744073709551616 ^ K) l;rw[Nat.mul_comm (18446744073709551616 ^ K) 9223372036854775808] at k;omega
 refine⟨?_,j,n⟩;apply Nat.le_antisymm
 . exact b.length_le_of_lt (by decide) j
 .
  apply bC;intro t;have o:=Qaa (B:=18446744073709551616) (by decide) b.small;rw[b.eq] at o;have u:18446744073709551616 ^ d.length<=18446744073709551616 ^ K:=Nat.pow_le_pow_right (by decide) (by omega);omega
theorem Qqd{x s L M N D:Nat}{us:Vy}(a:x<18446744073709551616 ^ L)(b:M+N=L+1)(f:0<N)(g:s<64)(h:9223372036854775808*18446744073709551616 ^ (N - 1)<=D)(c:us.length=M+N)(i:val 18446744073709551616 us=x*2 ^ s):val 18446744073709551616 (us.drop M)<D:=by
 apply bC;intro j;have k:=Qah 18446744073709551616 us M (by omega);have d:18446744073709551616 ^ M*(9223372036854775808*18446744073709551616 ^ (N - 1))<=18446744073709551616 ^ M*val 18446744073709551616 (us.drop M):=Nat.mul_le_mul_left _ (by omega);have e:2 ^ s<=9223372036854775808:=Nat.pow_le_pow_right (by decide) (show s<=63 by omega);have l:x*2 ^ s<18446744073709551616 ^ L*9223372036854775808:=Nat.lt_of_le_of_lt (Nat.mul_le_mul_left x e) (Nat.mul_lt_mul_of_pos_right a (by decide));rw[Nat.mul_left_comm,<-Nat.pow_add,show M+(N - 1)=L by omega,Nat.mul_comm] at d;omega
theorem Qjh{l:Vy}{y N:Nat}(h:Num 18446744073709551616 l y)(hl:l.length=N+1):∃c a,l.getD N 0=a/\y=c+18446744073709551616 ^ N*a/\c<18446744073709551616 ^ N/\0<a/\a<18446744073709551616:=by
 refine⟨val 18446744073709551616 (l.take N),l.getD N 0,rfl,?_,?_,?_,h.small.getD (by decide) N⟩
 .
  have b:=Qbz 18446744073709551616 l N (by omega);rw[List.take_of_length_le (by omega),h.eq] at b;exact b
 .
  have:=Qaa (B:=18446744073709551616) (by decide) (h.small.take N);rw[List.length_take,Nat.min_eq_left (by omega)] at this;exact this
 .
  rcases h.trim with b|b
  . rw[b] at hl;simp at hl
  . rw[hl,Nat.add_sub_cancel] at b;omega
theorem Blk.onlyG{k:IntKind}{t:Vr}{w w':Vz}{g c:Nat}{l:Vy}(h:Blk k t w g l)(b:Only c w w')(a:g≠c):Blk k t w' g l:=by
 have:=h.lt;unfold Blk at h ⊢;rw[b.block g this a];exact h
def QRo(w:Vz)(q r:Nat)(e:Ending)(w':Vz):Prop:=
 (∃aq cq lq g cr C lr,e=.returned (.tuple #[.slice aq (List.length lq) cq,.slice (some ⟨g,0,none⟩) (List.length lr) cr])/\U64 w' aq cq lq q/\ON w' g cr C lr r/\w.heap.size<=g)/\Below w.heap.size w w'
theorem Qji(a1 a2:Vx)(c1 c2 n:Nat)(l m:Vy)(x y:Nat)(w:Vz)(G:U64 w a1 c1 l x)(F:U64 w a2 c2 m y)(bx:y<=x)(hm:m.length=n+2)(bz:l.length<1099511627770):
 Calls prog 194 #[.slice a1 l.length c1,.slice a2 m.length c2] w (QRo w (x / y) (x % y)):=by
 have HC:=Hi (Qc6 a1 a2 c1 c2 l m x y w G F);have bs:¬(cmp3 x y<0):=fun h=>by have:=(Qay x y).1 h;omega
 have a5:m.length<=l.length:=by
  apply bC;intro hc;have:=Qax (B:=18446744073709551616) (by decide) G.num.small F.num.trim (by omega);rw[G.num.eq,F.num.eq] at this;omega
 obtain⟨b0,ab,P,hy,Q,a6,a7⟩:=Qjh (N:=n+1) F.num hm;obtain⟨b,o,rfl,a8,H⟩:=F.row.cell (n+1) (by omega);rw[P] at H;obtain⟨s,f,hs,ad,ae⟩:=Qfi ab a6 a7;have t:=Hi (fun w=>Qfh (ab:Int) w (by omega) (by omega));rw[hs] at t;obtain⟨N,hN⟩:=nm m.length;obtain⟨p,hp⟩:=nm (n+1);have af:N=p+1:=by omega
 rw[hp] at H;obtain⟨H1,H2⟩:=Ia G F;rw[hN] at HC;rw[hN];have S:=Qaa (B:=18446744073709551616) (by decide) G.num.small;rw[G.num.eq] at S;obtain⟨a9,HY⟩:=Ia S hy;have q1:((N:Int) == 1)=false:=by rw[beq_eq_false_iff_ne];omega
 have b1:IntKind.i64.wrap ((N:Int) - 1)=(p:Int):=by rw[wrap_i64 _ (by omega) (by omega)];omega
 obtain⟨ba,bb,ag,HP,ah,HM,HN⟩:=If ad ae Q hp af hm hN;have b2:1<=N:=by omega
 have b3:p<N:=by omega
 have bt:(p:Int)<(N:Int):=by omega
 have b4:2<=N:=by omega
 rw[hN] at a5;clear G F hy hs P S ad ae Q hp af hm hN;go_enter func194,ntmps194;go_wp2_with fail;go_fit HC.o;rintro e w1 ⟨rfl,v⟩;have I:=Hi v;have b5:=ce v a8 H;clear v HC H;go_wp2_with fail;go_fit (t.o _);rintro e w2 ⟨rfl,hw⟩;subst hw;clear t;go_wp2_with fail;go_fit (Qjs a1 c1 s l x _ (H1.o.below I.o) (by omega) f);rintro e J ⟨⟨us,rfl,d,E,ai,aj⟩,v⟩;have ak:=Hi (I.o.trans (v.mono I.o.size));have bu:w2.heap.size<J.heap.size:=d.lt;have T:=Qjs (some ⟨b,o,none⟩) c2 s m y J (H2.o.below ak.o) (by have:=HN.o;omega) f;rw[HN.o] at T;obtain⟨al,U,V,am,W⟩:=Id T d E ai aj;clear v d E ai aj T;go_wp2_with fail;go_fit al.o;rintro e w4 ⟨⟨vs,rfl,X,an,ao,ap⟩,v⟩;have aq:=Hi v
 have bv:J.heap.size<w4.heap.size:=X.lt;have ar:=Hi (Qc4 J.heap.size (N+1) (N+1) (y*2 ^ s) vs w4 X an ao lZ (by omega) ap);clear v X an ao ap al;go_wp2_with fail;go_fit ar.o;rintro e w5 ⟨⟨md,rfl,K⟩,hw⟩;subst hw;have A:=Qqc (N:=N) (by omega) (by have h:=HY.o;rw[HP.o,show p=N - 1 by have:=ah.o;omega] at h;exact h) (by have h:=ag.o;rw[HP.o,show p=N - 1 by have:=ah.o;omega] at h;exact h) f ba.o bb.o K.num;rw[A.1];obtain⟨D,hD⟩:=nm (y*2 ^ s);rw[hD] at K A;obtain⟨M,hM,b6⟩:∃M,M+N=l.length+1/\1<=M:=⟨l.length+1 - N,by omega,by omega⟩;obtain⟨bc,au,av,bd,be⟩:=Id A.1 A.2.1 A.2.2 K hD;clear K A hD ar;have wm:IntKind.i64.wrap ((l.length:Int)+1 - (N:Int))=(M:Int):=by rw[wrap_i64 _ (by omega) (by omega)];omega
 have b7:(l.length:Int)+1 - (N:Int)=(M:Int):=by omega
 have bf:∀w,(Instr.makeSlice 139 (.int .i64 (M:Int)) (.int .i64 (M:Int))).run prog w=.ok (.slice (some ⟨w.heap.size,0,none⟩) M M) (w.alloc (.cells (wordCells .u64 (zeros M)) 170)):=
  fun w=>Qc2 _ M rfl (by omega) w
 have C:=Hi hM;clear hM;go_wp2_with fail;clear bf;have bg:0<D:=Nat.lt_of_lt_of_le (Nat.mul_pos (by decide) (Nat.pow_pos (by decide))) av.o;have bw:w.heap.size<=w2.heap.size:=I.o.size;go_loopw [11] (fun i wr=>∃(k:Nat) (us qs:Vy),k<=M/\i=.int .i64 ((k:Int) - 1)/\Blk .u64 170 wr w2.heap.size us/\Blk .u64 170 wr w5.heap.size qs/\U64 wr (some ⟨J.heap.size,0,none⟩) (N+1) md D/\DInv (x*2 ^ s) D N M k us qs/\Below w.heap.size w wr) (fun i _=>(intOf i+1).toNat)
 case atStart=>
  refine⟨M,us,zeros M,Nat.le_refl _,rfl,(U.o.below aq.o (by omega)).alloc _,Blk.new _ _ _ _,bd.o.below (bR.alloc lZ _),⟨?_,Qaf _,am.o,Qak _ _ (by decide),?_,?_⟩,(ak.o.trans (aq.o.mono (by omega))).alloc (by omega) _⟩
  . rw[V.o];have:=C.o;omega
  . rw[List.drop_of_length_le (by rw[Qaf];exact Nat.le_refl _),Qct,Nat.mul_zero,Nat.mul_zero,Nat.add_zero];exact W.o
  . exact Qqd a9.o C.o (by omega) f av.o (by rw[V.o];have:=C.o;omega) W.o
 case round=>
  clear U V am W;obtain⟨k,us,qs,hk,rfl,d,L,O,g,v⟩:=hrel;obtain⟨U,bh,bi,HI,HB⟩:=Id d L O g v;by_cases h0:k=0
  .
   subst h0;have a:=g.rem;have Y:=g.eq;rw[List.drop_zero] at a;rw[List.drop_zero,Nat.pow_zero,Nat.one_mul] at Y;have aw:=Hi (Qfs (Nat.two_pow_pos s) rfl be.o Y a);have ax:val 18446744073709551616 (us.take N)=val 18446744073709551616 us:=by
    have G:=Qfr 18446744073709551616 (by decide) us N (Nat.lt_trans a au.o) (by rw[g.ul];omega);have F:=Qah 18446744073709551616 us N (by rw[g.ul];omega);rw[G,Nat.mul_zero,Nat.add_zero] at F;exact F.symm
   have E:us.length=l.length+1:=by rw[g.ul];exact C.o
   have bj:=Hi (Qc4 w5.heap.size M M (x / y) qs wr.drew L.drew g.ql g.sq lZ (by omega) aw.o.1);have Z:=Qqh (some ⟨w2.heap.size,0,none⟩) (l.length+1) s (us.take N) wr.drew ((d.drew).row N (by omega) (l.length+1) (by omega)) (g.su.take N) (by rw[List.length_take];omega) f;rw[List.length_take,Nat.min_eq_left (by omega),ax,aw.o.2] at Z;have bk:=Hi Z;clear a Y ax E d L O g v Z;go_wp2_with fail;have iN:(0:Int)<=(N:Int):=by omega
   have b8:(N:Int)<=(l.length:Int)+1:=by omega
   go_region_held3 (fun _=>True) (trivial) (first
    |(
     go_at_call 204;go_fit bj.o;rintro e w6 ⟨⟨r,rfl,hu⟩,hw⟩;subst hw;have HU:=Hi hu
     clear hu)
    |(
     go_at_call 219;go_fit bk.o;rintro e w7 ⟨⟨C7,lr,rfl,ay⟩,az⟩;obtain⟨bl,a0⟩:=Ia ay az
     clear ay az))
   go_wp2;go_ret2;exact⟨⟨_,_,r,_,_,C7,lr,rfl,HU.o.below a0.o,bl.o,HB.o.size⟩,HB.o.drew.trans (a0.o.mono HB.o.size)⟩
  .
   obtain⟨j,rfl⟩:∃j,k=j+1:=⟨k - 1,by omega⟩;obtain⟨z,hz⟩:=nm (qs.getD j 0);have a3:j<M:=by omega
   have bm:j+N<=l.length:=by have:=C.o;omega
   have E:us.length=l.length+1:=by rw[g.ul];exact C.o
   have hS:=Qrc w2.heap.size j n (l.length+1 - j) N p us (some ⟨J.heap.size,0,none⟩) (N+1) md D wr d g.su O bc.o (by have:=HM.o;have:=HN.o;omega) HP.o.symm (fun b' o' h=>by
    obtain⟨rfl,rfl⟩:J.heap.size=b'/\0=o':=by simpa using h
    omega) (by omega) (by have:=g.zero (by omega) au.o;rw[show j+N+1=j+1+N by omega];exact this) (g.win a3 bg) (by omega)
   obtain⟨HS,bn,HZ⟩:=Ib hS g.ql hz;have ei:((j+1:Nat):Int) - 1=(j:Int):=by omega
   rw[ei];clear ei d L O g v hz hS;go_wp2_with fail;rw[show j+N+1 - j=N+1 by omega];go_fit HS.o;rintro e w6 ⟨q,bo,rfl,hq,c,R,a⟩;have u:=bh.o.onlyG c.only (by omega);have g1:=u.free j;have g2:=u.cell j (by have:=bn.o;omega);rw[HZ.o] at g2;obtain⟨bp,a4,aa⟩:=Ib (HI.o.next a3 c.len c.small hq R a) u c;clear u c R a HS;go_wp2;go_roundw
   case rel=>
    have bq:=HB.o.size;refine⟨j,bo,qs.set j q,by omega,by go_num,aa.o.blk.other (by omega) _ _,a4.o.set j q,?_,bp.o,(HB.o.trans (aa.o.only.below (by omega) bq)).setCell (by show w.heap.size<=w5.heap.size;omega) _⟩;have br:=bi.o.onlyG aa.o.only (fun b' o' h=>by
     obtain⟨rfl,rfl⟩:J.heap.size=b'/\0=o':=by simpa using h
     omega)
    exact br.onlyG ((Only.refl w5.heap.size w6).setCell _ _) (fun b' o' h=>by
     obtain⟨rfl,rfl⟩:J.heap.size=b'/\0=o':=by simpa using h
     omega)
   case measure=>simp[intOf]
theorem Qqg(a b:Vx)(c1 c2 n:Nat)(l m:Vy)(x y:Nat)(w:Vz)(f:U64 w a c1 l x)(h:U64 w b c2 m y)(c:y<=x)(i:m.length=n+2)(d:l.length<1099511627770):
 Calls prog 194 #[.slice a l.length c1,.slice b m.length c2] w (QR w (x / y) (x % y)):=by
 refine(Qji a b c1 c2 n l m x y w f h c i d).mono ?_;rintro e w' ⟨⟨j,k,o,g,p,C,q,rfl,r,s,_⟩,t⟩;exact⟨⟨j,k,o,_,p,q,rfl,r,s.u64⟩,t⟩
theorem Qjm(a b:Vx)(c1 c2:Nat)(l m:Vy)(x y:Nat)(w:Vz)(d:U64 w a c1 l x)(c:U64 w b c2 m y)(i:0<y)(e:l.length<1099511627770):
 Calls prog 194 #[.slice a l.length c1,.slice b m.length c2] w (QR w (x / y) (x % y)):=by
 by_cases f:x<y
 . exact Qp9 a b c1 c2 l m x y w d c f
 .
  have j:m.length≠0:=fun h=>by have:=(c.num.len_zero (by decide)).2 h;omega
  by_cases g:m.length=1
  . exact Qqb a b c1 c2 l m x y w d c (by omega) i g
  . exact Qqg a b c1 c2 (m.length - 2) l m x y w d c (by omega) (by omega) e
def Nat64(w:Vz)(n:Nat)(e:Ending)(w':Vz):Prop:=(∃a cap l,e=.returned (.slice a (List.length l) cap)/\U64 w' a cap l n)/\Below w.heap.size w w'
theorem Qqs(b c:Vx)(c1 c2:Nat)(l m:Vy)(x y:Nat)(w:Vz)(d:U64 w b c1 l x)(f:U64 w c c2 m y)(p:0<y)(g:l.length<1099511627770):
 Calls prog 169 #[.slice b l.length c1,.slice c m.length c2] w (Nat64 w (x / y)):=by
 obtain⟨a,h,q⟩:=Ib (Qc5 c c2 m y w f) (Qjm b c c1 c2 l m x y w d f p g) d;clear d f;by_cases i:y=1
 .
  rw[show decide (y=1)=true by simpa using i] at a;go_enter func169,ntmps169;go_wp2_with fail;go_fit a.o;rintro e w1 ⟨rfl,j⟩;subst j;clear a h;go_wp2;go_ret;exact⟨⟨b,c1,l,rfl,by rw[i,Nat.div_one];exact q.o⟩,Below.refl _ _⟩
 .
  rw[show decide (y=1)=false by simpa using i] at a;go_enter func169,ntmps169;go_wp2_with fail;go_fit a.o;rintro e w1 ⟨rfl,j⟩;subst j;go_wp2_with fail;go_fit h.o;rintro e w2 ⟨⟨r,s,t,A,B,C,rfl,k,u⟩,n⟩;obtain⟨v,z⟩:=Ia k n;clear k u n a h;go_wp2;go_ret;exact⟨⟨r,s,t,rfl,v.o⟩,z.o⟩
theorem Qqt(x y:Nat)(w:Vz)(j:x<18446744073709551616)(k:y<18446744073709551616):
 Calls prog 196 #[.int .u64 x,.int .u64 y] w fun e w'=>e=.returned (.int .u64 ((Nat.gcd x y:Nat):Int))/\Below w.heap.size w w':=by
 obtain⟨G,hG⟩:=nm (Nat.gcd x y);rw[hG];have l:=Hi hG;clear hG;go_enter func196,ntmps196;go_wp2;go_loopw [0,1] (fun m g wr=>∃a b:Nat,m=.int .u64 a/\g=.int .u64 b/\a<18446744073709551616/\b<18446744073709551616/\Nat.gcd a b=G/\Below w.heap.size w wr) (fun _ g _=>(intOf g).toNat)
 case atStart=>exact⟨x,y,rfl,rfl,j,k,l.o,Below.refl _ _⟩
 case round=>
  obtain⟨a,b,rfl,rfl,t,n,h,c⟩:=hrel;obtain⟨d,i⟩:=Ia h c;clear h c;by_cases p:b=0
  .
   subst p;go_wp2;go_ret;exact⟨by rw[<-d.o,Nat.gcd_zero_right];rfl,i.o⟩
  .
   obtain⟨r,f⟩:=nm (a % b);have q:r<b:=by rw[<-f];exact Nat.mod_lt _ (by omega)
   have d1:(a:Int) % (b:Int)=(r:Int):=by rw[<-f];rfl
   have d2:Int.tmod (a:Int) (b:Int)=(r:Int):=by rw[<-f];rfl
   have u:((b:Int) != 0)=true:=by rw[bne_iff_ne];omega
   have v:((b:Int) == 0)=false:=by rw[beq_eq_false_iff_ne];omega
   have s:=Hi f;clear f;go_wp2_with fail;go_region
   all_goals
    go_wp2;go_roundw
    case rel=>exact⟨b,r,rfl,rfl,n,by omega,by rw[<-d.o,<-s.o,Nat.gcd_comm a b,Nat.gcd_rec b a,Nat.gcd_comm],i.o.drew⟩
    case measure=>simp[intOf];omega
theorem Qqu(a:Vx)(cap d:Nat)(l:Vy)(x:Nat)(w:Vz)(h:U64 w a cap l x)(s:0<d)(I:d<18446744073709551616):
 Calls prog 197 #[.slice a l.length cap,.int .u64 d] w fun e w'=>e=.returned (.int .u64 ((x % d:Nat):Int))/\Below w.heap.size w w':=by
 have S:=h.short;obtain⟨R,t⟩:=nm (x % d);rw[t];obtain⟨J,H⟩:=Ia t h;clear t h;go_enter func197,ntmps197;go_wp2;go_loopw [5,6] (fun r i wr=>∃(k c:Nat),k<=l.length/\c<d/\r=.int .u64 c/\i=.int .i64 ((k:Int) - 1)/\val 18446744073709551616 (l.drop k) % d=c/\Below w.heap.size w wr) (fun _ i _=>(intOf i+1).toNat)
 case atStart=>exact⟨l.length,0,Nat.le_refl _,s,rfl,rfl,by rw[List.drop_of_length_le lZ,Qct,Nat.zero_mod],Below.refl _ _⟩
 case round=>
  obtain⟨k,r,hk,K,rfl,rfl,C,D⟩:=hrel;obtain⟨E,u⟩:=Ia C D;clear C D;by_cases L:k=0
  .
   subst L;go_wp2;go_ret;exact⟨by rw[<-J.o,<-H.o.num.eq];have:=E.o;rw[List.drop_zero] at this;rw[this];rfl,u.o⟩
  .
   obtain⟨j,rfl⟩:∃j,k=j+1:=⟨k - 1,by omega⟩;obtain⟨b,M,rfl,N,v⟩:=(H.o.row.below u.o).cell j (by omega);obtain⟨z,p⟩:=nm (l.getD j 0);rw[p] at v;have y:z<18446744073709551616:=by rw[<-p];exact H.o.num.small.getD (by omega) j
   obtain⟨q,c,T,f,A,g⟩:=div64 r z d K y I;have m:=Hi g;have P:O (val 18446744073709551616 (l.drop j) % d=c):=Hi (by
    rw[Qal _ l j (by omega),p];have F:=Nat.div_add_mod (val 18446744073709551616 (l.drop (j+1))) d;rw[E.o] at F
    rw[<-F,Nat.mul_add,show z+(18446744073709551616*(d*(val 18446744073709551616 (l.drop (j+1)) / d))+18446744073709551616*r)=d*(18446744073709551616*(val 18446744073709551616 (l.drop (j+1)) / d))+(d*q+c) by rw[Nat.mul_left_comm];omega,Nat.mul_add_mod,Nat.mul_add_mod,Nat.mod_eq_of_lt f])
   have G:((j+1:Nat):Int) - 1=(j:Int):=by omega
   rw[G];clear G g A p;go_wp2_with fail;go_fit (m.o _);rintro e w2 ⟨rfl,Q,n⟩;have B:O (Below w.heap.size w w2):=Hi (by rw[n];exact Qga u.o Q);clear n m;go_wp2;go_roundw
   case rel=>exact⟨j,c,by omega,f,rfl,by go_num,P.o,B.o⟩
   case measure=>simp[intOf]
theorem Qc8(x y c:Nat)(p:x<18446744073709551616)(q:y<18446744073709551616)(s:c<18446744073709551616):∃h l:Nat,h<18446744073709551616/\l<18446744073709551616/\l+18446744073709551616*h=x*y+c/\
 ∀w,Calls prog 189 #[.int .u64 x,.int .u64 y,.int .u64 c] w fun e w'=>e=.returned (.tuple #[.int .u64 (h:Int),.int .u64 (l:Int)])/\w'=w:=by
 obtain⟨h,l,u,hl,f,b⟩:=mul64 x y p q;obtain⟨r,c1,g,t,i,j⟩:=Qc3 l c hl s;have d:=Qf8 (over:=c) p q;have a:r+18446744073709551616*(h+c1)=x*y+c:=by omega
 have k:h+c1<18446744073709551616:=by omega
 refine⟨h+c1,r,k,g,a,fun w=>?_⟩;have m:=Hi b;clear b f i a d;go_enter func189,ntmps189;go_wp2_with (first|(go_at_call 211;go_fit (m.o _);rintro e w2 ⟨rfl,n⟩;subst n)|simp only[j]);go_ret2;exact⟨by rw[Int.natCast_add];rfl,rfl⟩
theorem Qjn{B k u v d e r i j l a b c f g:Nat}{rs xs m:Vy}(hk:k<rs.length)(n:xs.getD k 0=d)(o:m.getD k 0=e)(p:f+B*a=d*u+i)(q:g+B*b=e*v+j)(s:r+l+g=f+B*c)
 (h:val B (rs.take k)+v*val B (m.take k)+B ^ k*i=u*val B (xs.take k)+B ^ k*(j+l)):
 val B ((rs.set k r).take (k+1))+v*val B (m.take (k+1))+B ^ (k+1)*a=u*val B (xs.take (k+1))+B ^ (k+1)*(b+c):=by
 rw[take_set _ _ _ hk,Qaj,List.length_take,Nat.min_eq_left (by omega),Qac,Qac,n,o,Nat.pow_succ,Nat.mul_add v,Nat.mul_add u];have t:B ^ k*(f+B*a)=B ^ k*(d*u+i):=by rw[p]
 have w:B ^ k*(g+B*b)=B ^ k*(e*v+j):=by rw[q]
 have x:B ^ k*(r+l+g)=B ^ k*(f+B*c):=by rw[s]
 rw[Nat.mul_add,Nat.mul_add,<-Nat.mul_assoc] at t w;rw[Nat.mul_add,Nat.mul_add,Nat.mul_add,<-Nat.mul_assoc] at x;rw[Nat.mul_add] at h;rw[Nat.mul_add,Nat.mul_left_comm v,Nat.mul_left_comm u,Nat.mul_comm v e,Nat.mul_comm u d];omega
structure Two (b c:Nat) (w w':Vz):Prop where
 os:w'.os=w.os
 tape:w'.tape=w.tape
 output:w'.output=w.output
 size:w.heap.size<=w'.heap.size
 block:∀k,k<w.heap.size->k≠b->k≠c->w'.heap[k]?=w.heap[k]?
theorem Two.refl(b c:Nat)(w:Vz):Two b c w w:=⟨rfl,rfl,rfl,Nat.le_refl _,fun _ _ _ _=>rfl⟩
theorem Two.swap{b c:Nat}{w w':Vz}(h:Two b c w w'):Two c b w w':=⟨h.os,h.tape,h.output,h.size,fun k hk a d=>h.block k hk d a⟩
theorem Two.set1{b c:Nat}{u w:Vz}(h:Two b c u w)(i:Nat)(v:Value):Two b c u (w.setCell ⟨b,i,none⟩ v):=
 ⟨h.os,h.tape,h.output,by simpa [World.setCell] using h.size,fun k hk a d=>by rw[Below.heap_setCell _ _ _ _ a];exact h.block k hk a d⟩
theorem Two.set2{b c:Nat}{u w:Vz}(h:Two b c u w)(i:Nat)(v:Value):Two b c u (w.setCell ⟨c,i,none⟩ v):=(h.swap.set1 i v).swap
theorem Two.below{b c B:Nat}{w w':Vz}(h:Two b c w w')(a:B<=b)(d:B<=c)(e:B<=w.heap.size):Below B w w':=⟨h.os,h.tape,h.output,h.size,fun k hk=>h.block k (by omega) (by omega) (by omega)⟩
theorem Pre.other{w:Vz}{g a:Nat}{rs:Vy}(h:Pre w g rs)(b:g≠a)(i:Nat)(v:Value):Pre (w.setCell ⟨a,i,none⟩ v) g rs:=by
 obtain⟨C,h,c⟩:=h;refine⟨C,?_,c⟩;unfold SB at h ⊢;rw[Below.heap_setCell _ _ _ _ b];exact h
def Took(n u v:Nat)(V xs ys:Vy):Prop:=∃o p q:Nat,val 18446744073709551616 (V.take n)+v*val 18446744073709551616 (ys.take n)+18446744073709551616 ^ n*o=u*val 18446744073709551616 (xs.take n)+18446744073709551616 ^ n*(p+q)
theorem Took.end{n u v x y z:Nat}{V xs a:Vy}(h:Took n u v V xs a)(e:Small 18446744073709551616 V)(f:n<=V.length)(g:∃t,x=val 18446744073709551616 (xs.take n)+18446744073709551616 ^ n*t)(i:∃t,y=val 18446744073709551616 (a.take n)+18446744073709551616 ^ n*t)(j:u*x=v*y+z)(b:z<18446744073709551616 ^ n):
 val 18446744073709551616 (V.take n)=z:=by
 obtain⟨o,p,q,h⟩:=h;obtain⟨t,rfl⟩:=g;obtain⟨r,rfl⟩:=i;have d:=Qaa (B:=18446744073709551616) (by decide) (e.take n);rw[List.length_take,Nat.min_eq_left f] at d;generalize val 18446744073709551616 (V.take n)=A at*;generalize val 18446744073709551616 (xs.take n)=D at*;generalize val 18446744073709551616 (a.take n)=E at*;generalize 18446744073709551616 ^ n=M at*;have k:A+M*(o+u*t)=z+M*(p+q+v*r):=by
  have l:u*(D+M*t)=u*D+M*(u*t):=by rw[Nat.mul_add,Nat.mul_left_comm]
  have m:v*(E+M*r)=v*E+M*(v*r):=by rw[Nat.mul_add,Nat.mul_left_comm]
  rw[l,m] at j;rw[Nat.mul_add,Nat.mul_add M (p+q)];omega
 have c:=congrArg (· % M) k;simp only[Nat.add_mul_mod_self_left] at c;rw[Nat.mod_eq_of_lt d,Nat.mod_eq_of_lt b] at c;exact c
theorem Qjo(j l n cx cy a b c d:Nat)(X Y:Vy)(w:Vz)(hX:Pre w j X)(hY:Pre w l Y)(E:j≠l)(sX:Small 18446744073709551616 X)(sY:Small 18446744073709551616 Y)(nX:n<=X.length)(nY:n<=Y.length)(hn:n<=1099511627776)(bl:n<=cx)(bm:n<=cy)
 (ha:a<18446744073709551616) (hb:b<18446744073709551616) (hc:c<18446744073709551616) (hd:d<18446744073709551616):
 Calls prog 220 #[.slice (some ⟨j,0,none⟩) n cx,.slice (some ⟨l,0,none⟩) n cy,.int .u64 a,.int .u64 b,.int .u64 c,.int .u64 d] w fun e w'=>e=.returned (.tuple #[])/\
  ∃g i,Pre w' j g/\Pre w' l i/\g.length=X.length/\i.length=Y.length/\Small 18446744073709551616 g/\Small 18446744073709551616 i/\Took n a b g X Y/\Took n c d i Y X/\Two j l w w':=by
 obtain⟨av,aw,F,G⟩:=Ic hX hY sX sY;have H:l≠j:=fun h=>E h.symm
 clear hX hY sX sY;go_enter func220,ntmps220;go_wp2;go_loopw [12,13,14,15,16,17,31] (fun ax ay az a0 a1 a2 iv wr=>∃(k y z A B C D:Nat) (g i:Vy),k<=n/\y<18446744073709551616/\z<18446744073709551616/\A<18446744073709551616/\B<18446744073709551616/\C<=1/\D<=1/\
  ax=.int .u64 y/\ay=.int .u64 z/\az=.int .u64 A/\a0=.int .u64 B/\a1=.int .u64 C/\a2=.int .u64 D/\iv=.int .i64 k/\Pre wr j g/\Pre wr l i/\g.length=X.length/\i.length=Y.length/\Small 18446744073709551616 g/\Small 18446744073709551616 i/\
  (∀p,k<=p->g.getD p 0=X.getD p 0)/\(∀p,k<=p->i.getD p 0=Y.getD p 0)/\
  val 18446744073709551616 (g.take k)+b*val 18446744073709551616 (Y.take k)+18446744073709551616 ^ k*y=a*val 18446744073709551616 (X.take k)+18446744073709551616 ^ k*(z+C)/\
  val 18446744073709551616 (i.take k)+d*val 18446744073709551616 (X.take k)+18446744073709551616 ^ k*A=c*val 18446744073709551616 (Y.take k)+18446744073709551616 ^ k*(B+D)/\Two j l w wr) (fun _ _ _ _ _ _ iv _=>n - (intOf iv).toNat)
 case atStart=>exact⟨0,0,0,0,0,0,0,X,Y,by omega,by omega,by omega,by omega,by omega,by omega,by omega,rfl,rfl,rfl,rfl,rfl,rfl,rfl,av.o,aw.o,rfl,rfl,F.o,G.o,fun _ _=>rfl,fun _ _=>rfl,by simp[val],by simp[val],Two.refl _ _ _⟩
 case round=>
  obtain⟨k,y,z,A,B,C,D,g,i,hk,a3,a4,a5,a6,a7,a8,rfl,rfl,rfl,rfl,rfl,rfl,rfl,I,J,lX,lY,tX,tY,rX,rY,eX,eY,K⟩:=hrel;obtain⟨HP,HQ,m,q,L,M,N,O,t⟩:=Ih I J lX lY tX tY rX rY eX;obtain⟨x,P⟩:=Ia eY K;clear tX tY rX rY eX eY K;by_cases bn:k<n
  .
   obtain⟨u,Q⟩:=nm (X.getD k 0);obtain⟨v,R⟩:=nm (Y.getD k 0);have S:u<18446744073709551616:=by rw[<-Q];exact F.o.getD (by omega) k
   have T:v<18446744073709551616:=by rw[<-R];exact G.o.getD (by omega) k
   obtain⟨a9,lA,U,ba,V,W⟩:=Qc8 u a y S ha a3;obtain⟨bb,lB,Z,bc,aa,ab⟩:=Qc8 v b z T hb a4;obtain⟨bd,lC,ad,be,ae,af⟩:=Qc8 v c A T hc a5;obtain⟨bf,lD,ag,bg,ah,ai⟩:=Qc8 u d B S hd a6;obtain⟨r,bh,hr,aj,ak,bi⟩:=sub64 lA lB C ba bc a7;obtain⟨s,bj,hs,al,am,bk⟩:=sub64 lC lD D be bg a8;have g1:=I.free k;have g2:=I.cell k (by omega);rw[N.o k lZ,Q] at g2;have g3:=J.free k;have g4:=J.cell k (by omega);rw[O.o k lZ,R] at g4;obtain⟨an,ao,ap,aq,ar,au⟩:=Ie W ab af ai (Qjn (by omega) Q R V aa ak t.o) (Qjn (by omega) R Q ae ah am x.o);clear Q R W ab af ai V aa ae ah ak am I J lX lY;go_wp2_with fail;go_fit (an.o _);rintro e1 w1 ⟨rfl,f⟩;subst f;go_wp2_with fail;go_fit (ao.o _);rintro e1 w1 ⟨rfl,f⟩;subst f
   go_wp2_with fail;go_fit (ap.o _);rintro e1 w1 ⟨rfl,f⟩;subst f;go_wp2_with fail;go_fit (aq.o _);rintro e1 w1 ⟨rfl,f⟩;subst f;clear an ao ap aq;go_wp2_with (simp only[bi,bk]);go_roundw
   case rel=>
    refine⟨k+1,a9,bb,bd,bf,bh,bj,g.set k r,i.set k s,by omega,U,Z,ad,ag,aj,al,rfl,rfl,rfl,rfl,rfl,rfl,by go_num,(HP.o.set k r (by have:=m.o;omega)).other E _ _,(HQ.o.other H _ _).set k s (by have:=q.o;omega),by rw[List.length_set];exact m.o,by rw[List.length_set];exact q.o,L.o.set k hr,M.o.set k hs,?_,?_,ar.o,au.o,(P.o.set1 _ _).set2 _ _⟩
    .
     intro p hp;rw[getD_set_ne _ _ _ _ (by omega)];exact N.o p (by omega)
    .
     intro p hp;rw[getD_set_ne _ _ _ _ (by omega)];exact O.o p (by omega)
   case measure=>simp[intOf];omega
  .
   have e1:k=n:=by omega
   clear I J lX lY;go_wp2;go_end0;rw[e1] at t x;exact⟨rfl,g,i,HP.o,HQ.o,m.o,q.o,L.o,M.o,⟨y,z,C,t.o⟩,⟨A,B,D,x.o⟩,P.o⟩
end Go.Proofs.YtppkmifkpjkgpaaGreatDoor
