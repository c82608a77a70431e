/- num's takeFromEachOther. -/
import Derived.Test.YtbbkamnfjejceaaGreatDoorP07NatDivM
namespace Go.Proofs.YtbbkamnfjejceaaGreatDoor
open Go.RowKit
set_option linter.unusedVariables false
set_option linter.unusedSimpArgs false
theorem Qgh(a1 a2:Option Addr)(c1 c2:Nat)(l m:List Nat)(x y:Nat)(w:World)(h1:U64 w a1 c1 l x)(h2:U64 w a2 c2 m y)(h0:0<y)(hlb:l.length<1099511627770):
 Calls Tryz.prog 186 #[.slice a1 l.length c1,.slice a2 m.length c2] w (QR w (x / y) (x % y)):=by
 by_cases hlt:x<y
 · exact Qk6 a1 a2 c1 c2 l m x y w h1 h2 hlt
 ·
  have hm0:m.length≠0:=fun h=>by have:=(h2.num.len_zero (by decide)).2 h;omega
  by_cases hm1:m.length=1
  · exact Qk8 a1 a2 c1 c2 l m x y w h1 h2 (by omega) h0 hm1
  · exact Qld a1 a2 c1 c2 (m.length - 2) l m x y w h1 h2 (by omega) (by omega) hlb
def Nat64(w:World)(n:Nat)(e:Ending)(w':World):Prop:=(∃a cap l,e=.returned (.slice a (List.length l) cap)∧U64 w' a cap l n)∧Below w.heap.size w w'
set_option maxHeartbeats 400000 in
theorem Qlp(a1 a2:Option Addr)(c1 c2:Nat)(l m:List Nat)(x y:Nat)(w:World)(h1:U64 w a1 c1 l x)(h2:U64 w a2 c2 m y)(h0:0<y)(hlb:l.length<1099511627770):
 Calls Tryz.prog 144 #[.slice a1 l.length c1,.slice a2 m.length c2] w (Nat64 w (x / y)):=by
 have HO:=Hi (Qbw a2 c2 m y w h2);have HD:=Hi (Qgh a1 a2 c1 c2 l m x y w h1 h2 h0 hlb);have H1:=Hi h1;clear h1 h2;by_cases hy:y=1
 ·
  rw[show decide (y=1)=true by simpa using hy] at HO;go_enter Tryz.func144,Tryz.ntmps144;go_wp2_with fail;go_fit HO.out;rintro e w1 ⟨rfl,hw⟩;subst hw;clear HO HD;go_wp2;go_ret;exact⟨⟨a1,c1,l,rfl,by rw[hy,Nat.div_one];exact H1.out⟩,Below.refl _ _⟩
 ·
  rw[show decide (y=1)=false by simpa using hy] at HO;go_enter Tryz.func144,Tryz.ntmps144;go_wp2_with fail;go_fit HO.out;rintro e w1 ⟨rfl,hw⟩;subst hw;go_wp2_with fail;go_fit HD.out;rintro e w2 ⟨⟨aq,cq,lq,ar,cr,lr,rfl,hq,hr⟩,hb⟩;have HQ:=Hi hq;have HB:=Hi hb;clear hq hr hb HO HD;go_wp2;go_ret;exact⟨⟨aq,cq,lq,rfl,HQ.out⟩,HB.out⟩
set_option maxHeartbeats 400000 in
theorem Qlq(x y:Nat)(w:World)(hx:x<18446744073709551616)(hy:y<18446744073709551616):
 Calls Tryz.prog 189 #[.int .u64 x,.int .u64 y] w fun e w'=>e=.returned (.int .u64 ((Nat.gcd x y:Nat):Int))∧Below w.heap.size w w':=by
 obtain⟨G,hG⟩:∃G,Nat.gcd x y=G:=⟨_,rfl⟩;rw[hG];have HG:=Hi hG;clear hG;go_enter Tryz.func189,Tryz.ntmps189;go_wp2;go_loopw [0,1] (fun xv yv wr=>∃a b:Nat,xv=.int .u64 a∧yv=.int .u64 b∧a<18446744073709551616∧b<18446744073709551616∧Nat.gcd a b=G∧Below w.heap.size w wr) (fun _ yv _=>(intOf yv).toNat)
 case atStart=>exact⟨x,y,rfl,rfl,hx,hy,HG.out,Below.refl _ _⟩
 case round=>
  obtain⟨a,b,rfl,rfl,ha,hb,hg,hbl⟩:=hrel;have HGG:=Hi hg;have HB:=Hi hbl;clear hg hbl;by_cases h0:b=0
  ·
   subst h0;go_wp2;go_ret;exact⟨by rw[←HGG.out,Nat.gcd_zero_right];rfl,HB.out⟩
  ·
   obtain⟨r,hr⟩:∃r,a % b=r:=⟨_,rfl⟩;have hrb:r<b:=by rw[←hr];exact Nat.mod_lt _ (by omega)
   have d1:(a:Int) % (b:Int)=(r:Int):=by rw[←hr];rfl
   have d2:Int.tmod (a:Int) (b:Int)=(r:Int):=by rw[←hr];rfl
   have q0:((b:Int) != 0)=true:=by rw[bne_iff_ne];omega
   have q1:((b:Int) == 0)=false:=by rw[beq_eq_false_iff_ne];omega
   have HR:=Hi hr;clear hr;go_wp2_with fail;go_region
   all_goals
    go_wp2;go_roundw
    case rel=>exact⟨b,r,rfl,rfl,hb,by omega,by rw[←HGG.out,←HR.out,Nat.gcd_comm a b,Nat.gcd_rec b a,Nat.gcd_comm],HB.out.drew⟩
    case measure=>simp[intOf];omega
set_option maxHeartbeats 1000000 in
theorem Qlr(a:Option Addr)(cap d:Nat)(l:List Nat)(x:Nat)(w:World)(h:U64 w a cap l x)(hd0:0<d)(hd:d<18446744073709551616):
 Calls Tryz.prog 190 #[.slice a l.length cap,.int .u64 d] w fun e w'=>e=.returned (.int .u64 ((x % d:Nat):Int))∧Below w.heap.size w w':=by
 have hs:=h.short;obtain⟨R,hR⟩:∃R,x % d=R:=⟨_,rfl⟩;rw[hR];have HR:=Hi hR;have H:=Hi h;clear hR h;go_enter Tryz.func190,Tryz.ntmps190;go_wp2;go_loopw [5,6] (fun r i wr=>∃(k r':Nat),k≤l.length∧r'<d∧r=.int .u64 r'∧i=.int .i64 ((k:Int) - 1)∧val 18446744073709551616 (l.drop k) % d=r'∧Below w.heap.size w wr) (fun _ i _=>(intOf i+1).toNat)
 case atStart=>exact⟨l.length,0,Nat.le_refl _,hd0,rfl,rfl,by rw[List.drop_of_length_le (Nat.le_refl _),Qdg,Nat.zero_mod],Below.refl _ _⟩
 case round=>
  obtain⟨k,r,hk,hr,rfl,rfl,hv,hb⟩:=hrel;have HV:=Hi hv;have HB:=Hi hb;clear hv hb;by_cases h0:k=0
  ·
   subst h0;go_wp2;go_ret;exact⟨by rw[←HR.out,←H.out.num.eq];have:=HV.out;rw[List.drop_zero] at this;rw[this];rfl,HB.out⟩
  ·
   obtain⟨j,rfl⟩:∃j,k=j+1:=⟨k - 1,by omega⟩;obtain⟨b,off,rfl,hb1,hc1⟩:=(H.out.row.below HB.out).cell j (by omega);obtain⟨z,hz⟩:∃z,l.getD j 0=z:=⟨_,rfl⟩;rw[hz] at hc1;have hzb:z<18446744073709551616:=by rw[←hz];exact H.out.num.small.getD (by omega) j
   obtain⟨q,r',hq,hr',hqr,hcd⟩:=div64 r z d hr hzb hd;have HCD:=Hi hcd;have HN:Hid (val 18446744073709551616 (l.drop j) % d=r'):=Hi (by
    rw[Qai _ l j (by omega),hz];have h1:=Nat.div_add_mod (val 18446744073709551616 (l.drop (j+1))) d;rw[HV.out] at h1
    rw[←h1,Nat.mul_add,show z+(18446744073709551616*(d*(val 18446744073709551616 (l.drop (j+1)) / d))+18446744073709551616*r)=d*(18446744073709551616*(val 18446744073709551616 (l.drop (j+1)) / d))+(d*q+r') by rw[Nat.mul_left_comm];omega,Nat.mul_add_mod,Nat.mul_add_mod,Nat.mod_eq_of_lt hr'])
   have ei:((j+1:Nat):Int) - 1=(j:Int):=by omega
   rw[ei];clear ei hcd hqr hz;go_wp2_with fail;go_fit (HCD.out _);rintro e w2 ⟨rfl,n2,hw2⟩;have HB2:Hid (Below w.heap.size w w2):=Hi (by rw[hw2];exact Qd1 HB.out n2);clear hw2 HCD;go_wp2;go_roundw
   case rel=>exact⟨j,r',by omega,hr',rfl,by go_num,HN.out,HB2.out⟩
   case measure=>simp[intOf]
set_option maxHeartbeats 400000 in
theorem Qbz(x y c:Nat)(hx:x<18446744073709551616)(hy:y<18446744073709551616)(hc:c<18446744073709551616):∃h l:Nat,h<18446744073709551616∧l<18446744073709551616∧l+18446744073709551616*h=x*y+c∧
 ∀w,Calls Tryz.prog 230 #[.int .u64 x,.int .u64 y,.int .u64 c] w fun e w'=>e=.returned (.tuple #[.int .u64 (h:Int),.int .u64 (l:Int)])∧w'=w:=by
 obtain⟨h,l,hh,hl,hhl,hcm⟩:=mul64 x y hx hy;obtain⟨l',c1,hl',hc1,hlc,hca⟩:=Qbu l c hl hc;have hfit:=Qdz (over:=c) hx hy;have hsum:l'+18446744073709551616*(h+c1)=x*y+c:=by omega
 have hob:h+c1<18446744073709551616:=by omega
 refine⟨h+c1,l',hob,hl',hsum,fun w=>?_⟩;have HCM:=Hi hcm;clear hcm hhl hlc hsum hfit;go_enter Tryz.func230,Tryz.ntmps230;go_wp2_with (first|(go_at_call 229;go_fit (HCM.out _);rintro e w2 ⟨rfl,hw2⟩;subst hw2)|simp only[hca]);go_ret2;exact⟨by rw[Int.natCast_add];rfl,rfl⟩
theorem Qgi{B k u v d e r ox oy bo ox' oy' bo' lx ly:Nat}{rs xs ys:List Nat}(hk:k<rs.length)(hd:xs.getD k 0=d)(he:ys.getD k 0=e)(h1:lx+B*ox'=d*u+ox)(h2:ly+B*oy'=e*v+oy)(h3:r+bo+ly=lx+B*bo')
 (h:val B (rs.take k)+v*val B (ys.take k)+B ^ k*ox=u*val B (xs.take k)+B ^ k*(oy+bo)):
 val B ((rs.set k r).take (k+1))+v*val B (ys.take (k+1))+B ^ (k+1)*ox'=u*val B (xs.take (k+1))+B ^ (k+1)*(oy'+bo'):=by
 rw[take_set _ _ _ hk,Qak,List.length_take,Nat.min_eq_left (by omega),Qag,Qag,hd,he,Nat.pow_succ,Nat.mul_add v,Nat.mul_add u];have e1:B ^ k*(lx+B*ox')=B ^ k*(d*u+ox):=by rw[h1]
 have e2:B ^ k*(ly+B*oy')=B ^ k*(e*v+oy):=by rw[h2]
 have e3:B ^ k*(r+bo+ly)=B ^ k*(lx+B*bo'):=by rw[h3]
 rw[Nat.mul_add,Nat.mul_add,←Nat.mul_assoc] at e1 e2;rw[Nat.mul_add,Nat.mul_add,Nat.mul_add,←Nat.mul_assoc] at e3;rw[Nat.mul_add] at h;rw[Nat.mul_add,Nat.mul_left_comm v,Nat.mul_left_comm u,Nat.mul_comm v e,Nat.mul_comm u d];omega
structure Two (b c:Nat) (w w':World):Prop where
 os:w'.os=w.os
 tape:w'.tape=w.tape
 output:w'.output=w.output
 size:w.heap.size≤w'.heap.size
 block:∀k,k<w.heap.size→k≠b→k≠c→w'.heap[k]?=w.heap[k]?
theorem Two.refl(b c:Nat)(w:World):Two b c w w:=⟨rfl,rfl,rfl,Nat.le_refl _,fun _ _ _ _=>rfl⟩
theorem Two.swap{b c:Nat}{w w':World}(h:Two b c w w'):Two c b w w':=⟨h.os,h.tape,h.output,h.size,fun k hk h1 h2=>h.block k hk h2 h1⟩
theorem Two.set1{b c:Nat}{u w:World}(h:Two b c u w)(i:Nat)(v:Value):Two b c u (w.setCell ⟨b,i,none⟩ v):=
 ⟨h.os,h.tape,h.output,by simpa [World.setCell] using h.size,fun k hk h1 h2=>by rw[Below.heap_setCell _ _ _ _ h1];exact h.block k hk h1 h2⟩
theorem Two.set2{b c:Nat}{u w:World}(h:Two b c u w)(i:Nat)(v:Value):Two b c u (w.setCell ⟨c,i,none⟩ v):=(h.swap.set1 i v).swap
theorem Two.below{b c B:Nat}{w w':World}(h:Two b c w w')(hb:B≤b)(hc:B≤c)(hw:B≤w.heap.size):Below B w w':=⟨h.os,h.tape,h.output,h.size,fun k hk=>h.block k (by omega) (by omega) (by omega)⟩
theorem Pre.other{w:World}{g g':Nat}{rs:List Nat}(h:Pre w g rs)(hg:g≠g')(i:Nat)(v:Value):Pre (w.setCell ⟨g',i,none⟩ v) g rs:=by
 obtain⟨C,h,hc⟩:=h;refine⟨C,?_,hc⟩;unfold SB at h ⊢;rw[Below.heap_setCell _ _ _ _ hg];exact h
def Took(n u v:Nat)(V xs ys:List Nat):Prop:=∃o p q:Nat,val 18446744073709551616 (V.take n)+v*val 18446744073709551616 (ys.take n)+18446744073709551616 ^ n*o=u*val 18446744073709551616 (xs.take n)+18446744073709551616 ^ n*(p+q)
theorem Took.end{n u v x y z:Nat}{V xs ys:List Nat}(h:Took n u v V xs ys)(hs:Small 18446744073709551616 V)(hn:n≤V.length)(hx:∃t,x=val 18446744073709551616 (xs.take n)+18446744073709551616 ^ n*t)(hy:∃t,y=val 18446744073709551616 (ys.take n)+18446744073709551616 ^ n*t)(hz:u*x=v*y+z)(hzb:z<18446744073709551616 ^ n):
 val 18446744073709551616 (V.take n)=z:=by
 obtain⟨o,p,q,h⟩:=h;obtain⟨t,rfl⟩:=hx;obtain⟨r,rfl⟩:=hy;have hV:=Qae (B:=18446744073709551616) (by decide) (hs.take n);rw[List.length_take,Nat.min_eq_left hn] at hV;generalize val 18446744073709551616 (V.take n)=A at*;generalize val 18446744073709551616 (xs.take n)=D at*;generalize val 18446744073709551616 (ys.take n)=E at*;generalize 18446744073709551616 ^ n=M at*;have e1:A+M*(o+u*t)=z+M*(p+q+v*r):=by
  have e2:u*(D+M*t)=u*D+M*(u*t):=by rw[Nat.mul_add,Nat.mul_left_comm]
  have e3:v*(E+M*r)=v*E+M*(v*r):=by rw[Nat.mul_add,Nat.mul_left_comm]
  rw[e2,e3] at hz;rw[Nat.mul_add,Nat.mul_add M (p+q)];omega
 have h2:=congrArg (· % M) e1;simp only[Nat.add_mul_mod_self_left] at h2;rw[Nat.mod_eq_of_lt hV,Nat.mod_eq_of_lt hzb] at h2;exact h2
set_option maxRecDepth 100000 in
set_option maxHeartbeats 2000000 in
theorem Qgj(gx gy n cx cy a b c d:Nat)(X Y:List Nat)(w:World)(hX:Pre w gx X)(hY:Pre w gy Y)(hne:gx≠gy)(sX:Small 18446744073709551616 X)(sY:Small 18446744073709551616 Y)(nX:n≤X.length)(nY:n≤Y.length)(hn:n≤1099511627776)(hcx:n≤cx)(hcy:n≤cy)
 (ha:a<18446744073709551616) (hb:b<18446744073709551616) (hc:c<18446744073709551616) (hd:d<18446744073709551616):
 Calls Tryz.prog 225 #[.slice (some ⟨gx,0,none⟩) n cx,.slice (some ⟨gy,0,none⟩) n cy,.int .u64 a,.int .u64 b,.int .u64 c,.int .u64 d] w fun e w'=>e=.returned (.tuple #[])∧
  ∃X2 Y2,Pre w' gx X2∧Pre w' gy Y2∧X2.length=X.length∧Y2.length=Y.length∧Small 18446744073709551616 X2∧Small 18446744073709551616 Y2∧Took n a b X2 X Y∧Took n c d Y2 Y X∧Two gx gy w w':=by
 have HX0:=Hi hX;have HY0:=Hi hY;have HSX:=Hi sX;have HSY:=Hi sY;have hne':gy≠gx:=fun h=>hne h.symm
 clear hX hY sX sY;go_enter Tryz.func225,Tryz.ntmps225;go_wp2;go_loopw [12,13,14,15,16,17,31] (fun v12 v13 v14 v15 v16 v17 iv wr=>∃(k oA oB oC oD kx ky:Nat) (X2 Y2:List Nat),k≤n∧oA<18446744073709551616∧oB<18446744073709551616∧oC<18446744073709551616∧oD<18446744073709551616∧kx≤1∧ky≤1∧
  v12=.int .u64 oA∧v13=.int .u64 oB∧v14=.int .u64 oC∧v15=.int .u64 oD∧v16=.int .u64 kx∧v17=.int .u64 ky∧iv=.int .i64 k∧Pre wr gx X2∧Pre wr gy Y2∧X2.length=X.length∧Y2.length=Y.length∧Small 18446744073709551616 X2∧Small 18446744073709551616 Y2∧
  (∀p,k≤p→X2.getD p 0=X.getD p 0)∧(∀p,k≤p→Y2.getD p 0=Y.getD p 0)∧
  val 18446744073709551616 (X2.take k)+b*val 18446744073709551616 (Y.take k)+18446744073709551616 ^ k*oA=a*val 18446744073709551616 (X.take k)+18446744073709551616 ^ k*(oB+kx)∧
  val 18446744073709551616 (Y2.take k)+d*val 18446744073709551616 (X.take k)+18446744073709551616 ^ k*oC=c*val 18446744073709551616 (Y.take k)+18446744073709551616 ^ k*(oD+ky)∧Two gx gy w wr) (fun _ _ _ _ _ _ iv _=>n - (intOf iv).toNat)
 case atStart=>exact⟨0,0,0,0,0,0,0,X,Y,by omega,by omega,by omega,by omega,by omega,by omega,by omega,rfl,rfl,rfl,rfl,rfl,rfl,rfl,HX0.out,HY0.out,rfl,rfl,HSX.out,HSY.out,fun _ _=>rfl,fun _ _=>rfl,by simp[val],by simp[val],Two.refl _ _ _⟩
 case round=>
  obtain⟨k,oA,oB,oC,oD,kx,ky,X2,Y2,hk,hoA,hoB,hoC,hoD,hkx,hky,rfl,rfl,rfl,rfl,rfl,rfl,rfl,hP,hQ,lX,lY,tX,tY,rX,rY,eX,eY,hon⟩:=hrel;have HP:=Hi hP;have HQ:=Hi hQ;have HLX:=Hi lX;have HLY:=Hi lY;have HTX:=Hi tX;have HTY:=Hi tY;have HRX:=Hi rX;have HRY:=Hi rY;have HEX:=Hi eX;have HEY:=Hi eY;have HON:=Hi hon;clear tX tY rX rY eX eY hon;by_cases hlt:k<n
  ·
   obtain⟨u,hu⟩:∃u,X.getD k 0=u:=⟨_,rfl⟩;obtain⟨v,hv⟩:∃v,Y.getD k 0=v:=⟨_,rfl⟩;have hub:u<18446744073709551616:=by rw[←hu];exact HSX.out.getD (by omega) k
   have hvb:v<18446744073709551616:=by rw[←hv];exact HSY.out.getD (by omega) k
   obtain⟨oA',lA,hoA',hlA,hA1,hcA⟩:=Qbz u a oA hub ha hoA;obtain⟨oB',lB,hoB',hlB,hB1,hcB⟩:=Qbz v b oB hvb hb hoB;obtain⟨oC',lC,hoC',hlC,hC1,hcC⟩:=Qbz v c oC hvb hc hoC;obtain⟨oD',lD,hoD',hlD,hD1,hcD⟩:=Qbz u d oD hub hd hoD;obtain⟨r,kx',hr,hkx',hrx,hsx⟩:=sub64 lA lB kx hlA hlB hkx;obtain⟨s,ky',hs,hky',hry,hsy⟩:=sub64 lC lD ky hlC hlD hky;have g1:=hP.free k;have g2:=hP.cell k (by omega);rw[HRX.out k (Nat.le_refl _),hu] at g2;have g3:=hQ.free k;have g4:=hQ.cell k (by omega);rw[HRY.out k (Nat.le_refl _),hv] at g4;have HCA:=Hi hcA;have HCB:=Hi hcB;have HCC:=Hi hcC;have HCD:=Hi hcD;have HSTX:=Hi (Qgi (by omega) hu hv hA1 hB1 hrx HEX.out);have HSTY:=Hi (Qgi (by omega) hv hu hC1 hD1 hry HEY.out);clear hu hv hcA hcB hcC hcD hA1 hB1 hC1 hD1 hrx hry hP hQ lX lY;go_wp2_with fail;go_fit (HCA.out _);rintro e1 w1 ⟨rfl,hw1⟩;subst hw1;go_wp2_with fail;go_fit (HCB.out _);rintro e1 w1 ⟨rfl,hw1⟩;subst hw1
   go_wp2_with fail;go_fit (HCC.out _);rintro e1 w1 ⟨rfl,hw1⟩;subst hw1;go_wp2_with fail;go_fit (HCD.out _);rintro e1 w1 ⟨rfl,hw1⟩;subst hw1;clear HCA HCB HCC HCD;go_wp2_with (simp only[hsx,hsy]);go_roundw
   case rel=>
    refine⟨k+1,oA',oB',oC',oD',kx',ky',X2.set k r,Y2.set k s,by omega,hoA',hoB',hoC',hoD',hkx',hky',rfl,rfl,rfl,rfl,rfl,rfl,by go_num,(HP.out.set k r (by have:=HLX.out;omega)).other hne _ _,(HQ.out.other hne' _ _).set k s (by have:=HLY.out;omega),by rw[List.length_set];exact HLX.out,by rw[List.length_set];exact HLY.out,HTX.out.set k hr,HTY.out.set k hs,?_,?_,HSTX.out,HSTY.out,(HON.out.set1 _ _).set2 _ _⟩
    ·
     intro p hp;rw[getD_set_ne _ _ _ _ (by omega)];exact HRX.out p (by omega)
    ·
     intro p hp;rw[getD_set_ne _ _ _ _ (by omega)];exact HRY.out p (by omega)
   case measure=>simp[intOf];omega
  ·
   have e1:k=n:=by omega
   clear hP hQ lX lY;go_wp2;go_end0;rw[e1] at HEX HEY;exact⟨rfl,X2,Y2,HP.out,HQ.out,HLX.out,HLY.out,HTX.out,HTY.out,⟨oA,oB,kx,HEX.out⟩,⟨oC,oD,ky,HEY.out⟩,HON.out⟩
end Go.Proofs.YtbbkamnfjejceaaGreatDoor
