import Derived.Test.YtgnmjaponiclhaaGreatDoorC16NatDivM
import Derived.Deep.DeepCutAuto
import Derived.Test.YtgnmjaponiclhaaGreatDoorC13RefSum
namespace Go.Proofs.YtgnmjaponiclhaaGreatDoor
open Go.RowKit
set_option linter.unusedVariables false
set_option linter.unusedSimpArgs false
theorem Qhl(a1 a2:Option Addr)(c1 c2:Nat)(l m:List Nat)(x y:Nat)(w:World)(h1:U64 w a1 c1 l x)(h2:U64 w a2 c2 m y)(h0:0<y)(hlb:l.length<1099511627770):
 Calls Tryz.prog 263 #[.slice a1 l.length c1,.slice a2 m.length c2] w (QR w (x / y) (x % y)):=by
 by_cases hlt:x<y
 · exact Qm3 a1 a2 c1 c2 l m x y w h1 h2 hlt
 ·
  have hm0:m.length≠0:=fun h=>by have:=(h2.num.len_zero (by decide)).2 h;omega
  by_cases hm1:m.length=1
  · exact Qm5 a1 a2 c1 c2 l m x y w h1 h2 (by omega) h0 hm1
  · exact Qna a1 a2 c1 c2 (m.length - 2) l m x y w h1 h2 (by omega) (by omega) hlb
def Nat64(w:World)(n:Nat)(e:Ending)(w':World):Prop:=(∃a cap l,e=.returned (.slice a (List.length l) cap)∧U64 w' a cap l n)∧Below w.heap.size w w'
set_option maxHeartbeats 400000 in
theorem Qnm(a1 a2:Option Addr)(c1 c2:Nat)(l m:List Nat)(x y:Nat)(w:World)(h1:U64 w a1 c1 l x)(h2:U64 w a2 c2 m y)(h0:0<y)(hlb:l.length<1099511627770):
 Calls Tryz.prog 215 #[.slice a1 l.length c1,.slice a2 m.length c2] w (Nat64 w (x / y)):=by
 have HO:=Hi (Qci a2 c2 m y w h2)
 have HD:=Hi (Qhl a1 a2 c1 c2 l m x y w h1 h2 h0 hlb)
 have H1:=Hi h1
 clear h1 h2
 by_cases hy:y=1
 ·
  rw[show decide (y=1)=true by simpa using hy] at HO
  go_enter Tryz.func215,Tryz.ntmps215
  go_wp2_with fail
  go_fit HO.out
  rintro e w1 ⟨rfl,hw⟩
  subst hw
  clear HO HD
  go_wp2
  go_ret
  exact⟨⟨a1,c1,l,rfl,by rw[hy,Nat.div_one];exact H1.out⟩,Below.refl _ _⟩
 ·
  rw[show decide (y=1)=false by simpa using hy] at HO
  go_enter Tryz.func215,Tryz.ntmps215
  go_wp2_with fail
  go_fit HO.out
  rintro e w1 ⟨rfl,hw⟩
  subst hw
  go_wp2_with fail
  go_fit HD.out
  rintro e w2 ⟨⟨aq,cq,lq,ar,cr,lr,rfl,hq,hr⟩,hb⟩
  have HQ:=Hi hq
  have HB:=Hi hb
  clear hq hr hb HO HD
  go_wp2
  go_ret
  exact⟨⟨aq,cq,lq,rfl,HQ.out⟩,HB.out⟩
set_option maxHeartbeats 400000 in
theorem Qnn(x y:Nat)(w:World)(hx:x<18446744073709551616)(hy:y<18446744073709551616):
 Calls Tryz.prog 266 #[.int .u64 x,.int .u64 y] w fun e w'=>e=.returned (.int .u64 ((Nat.gcd x y:Nat):Int))∧Below w.heap.size w w':=by
 obtain⟨G,hG⟩:∃G,Nat.gcd x y=G:=⟨_,rfl⟩
 rw[hG]
 have HG:=Hi hG
 clear hG
 go_enter Tryz.func266,Tryz.ntmps266
 go_wp2
 go_loopw [0,1] (fun xv yv wr=>∃a b:Nat,xv=.int .u64 a∧yv=.int .u64 b∧a<18446744073709551616∧b<18446744073709551616∧Nat.gcd a b=G∧Below w.heap.size w wr) (fun _ yv _=>(intOf yv).toNat)
 case atStart=>exact⟨x,y,rfl,rfl,hx,hy,HG.out,Below.refl _ _⟩
 case round=>
  obtain⟨a,b,rfl,rfl,ha,hb,hg,hbl⟩:=hrel
  have HGG:=Hi hg
  have HB:=Hi hbl
  clear hg hbl
  by_cases h0:b=0
  ·
   subst h0
   go_wp2
   go_ret
   exact⟨by rw[←HGG.out,Nat.gcd_zero_right];rfl,HB.out⟩
  ·
   obtain⟨r,hr⟩:∃r,a % b=r:=⟨_,rfl⟩
   have hrb:r<b:=by rw[←hr];exact Nat.mod_lt _ (by omega)
   have d1:(a:Int) % (b:Int)=(r:Int):=by rw[←hr];rfl
   have d2:Int.tmod (a:Int) (b:Int)=(r:Int):=by rw[←hr];rfl
   have q0:((b:Int) != 0)=true:=by rw[bne_iff_ne];omega
   have q1:((b:Int) == 0)=false:=by rw[beq_eq_false_iff_ne];omega
   have HR:=Hi hr
   clear hr
   go_wp2_with fail
   go_region
   all_goals
    go_wp2
    go_roundw
    case rel=>exact⟨b,r,rfl,rfl,hb,by omega,by rw[←HGG.out,←HR.out,Nat.gcd_comm a b,Nat.gcd_rec b a,Nat.gcd_comm],HB.out.drew⟩
    case measure=>simp[intOf];omega
set_option maxHeartbeats 1000000 in
theorem Qno(a:Option Addr)(cap d:Nat)(l:List Nat)(x:Nat)(w:World)(h:U64 w a cap l x)(hd0:0<d)(hd:d<18446744073709551616):
 Calls Tryz.prog 267 #[.slice a l.length cap,.int .u64 d] w fun e w'=>e=.returned (.int .u64 ((x % d:Nat):Int))∧Below w.heap.size w w':=by
 have hs:=h.short
 obtain⟨R,hR⟩:∃R,x % d=R:=⟨_,rfl⟩
 rw[hR]
 have HR:=Hi hR
 have H:=Hi h
 clear hR h
 go_enter Tryz.func267,Tryz.ntmps267
 go_wp2
 go_loopw [5,6] (fun r i wr=>∃(k r':Nat),k≤l.length∧r'<d∧r=.int .u64 r'∧i=.int .i64 ((k:Int) - 1)∧val 18446744073709551616 (l.drop k) % d=r'∧Below w.heap.size w wr) (fun _ i _=>(intOf i+1).toNat)
 case atStart=>exact⟨l.length,0,Nat.le_refl _,hd0,rfl,rfl,by rw[List.drop_of_length_le (Nat.le_refl _),Qcw,Nat.zero_mod],Below.refl _ _⟩
 case round=>
  obtain⟨k,r,hk,hr,rfl,rfl,hv,hb⟩:=hrel
  have HV:=Hi hv
  have HB:=Hi hb
  clear hv hb
  by_cases h0:k=0
  ·
   subst h0
   go_wp2
   go_ret
   exact⟨by rw[←HR.out,←H.out.num.eq];have:=HV.out;rw[List.drop_zero] at this;rw[this];rfl,HB.out⟩
  ·
   obtain⟨j,rfl⟩:∃j,k=j+1:=⟨k - 1,by omega⟩
   obtain⟨b,off,rfl,hb1,hc1⟩:=(H.out.row.below HB.out).cell j (by omega)
   obtain⟨z,hz⟩:∃z,l.getD j 0=z:=⟨_,rfl⟩
   rw[hz] at hc1
   have hzb:z<18446744073709551616:=by rw[←hz];exact H.out.num.small.getD (by omega) j
   obtain⟨q,r',hq,hr',hqr,hcd⟩:=div64 r z d hr hzb hd
   have HCD:=Hi hcd
   have HN:Hid (val 18446744073709551616 (l.drop j) % d=r'):=Hi (by
    rw[Qak _ l j (by omega),hz]
    have h1:=Nat.div_add_mod (val 18446744073709551616 (l.drop (j+1))) d
    rw[HV.out] at h1
    rw[←h1,Nat.mul_add,show z+(18446744073709551616*(d*(val 18446744073709551616 (l.drop (j+1)) / d))+18446744073709551616*r)=d*(18446744073709551616*(val 18446744073709551616 (l.drop (j+1)) / d))+(d*q+r') by rw[Nat.mul_left_comm];omega,Nat.mul_add_mod,Nat.mul_add_mod,Nat.mod_eq_of_lt hr'])
   have ei:((j+1:Nat):Int) - 1=(j:Int):=by omega
   rw[ei]
   clear ei hcd hqr hz
   go_wp2_with fail
   go_fit (HCD.out _)
   rintro e w2 ⟨rfl,n2,hw2⟩
   have HB2:Hid (Below w.heap.size w w2):=Hi (by rw[hw2];exact Qe1 HB.out n2)
   clear hw2 HCD
   go_wp2
   go_roundw
   case rel=>exact⟨j,r',by omega,hr',rfl,by go_num,HN.out,HB2.out⟩
   case measure=>simp[intOf]
set_option maxHeartbeats 400000 in
theorem Qcl(x y c:Nat)(hx:x<18446744073709551616)(hy:y<18446744073709551616)(hc:c<18446744073709551616):∃h l:Nat,h<18446744073709551616∧l<18446744073709551616∧l+18446744073709551616*h=x*y+c∧
 ∀w,Calls Tryz.prog 312 #[.int .u64 x,.int .u64 y,.int .u64 c] w fun e w'=>e=.returned (.tuple #[.int .u64 (h:Int),.int .u64 (l:Int)])∧w'=w:=by
 obtain⟨h,l,hh,hl,hhl,hcm⟩:=mul64 x y hx hy
 obtain⟨l',c1,hl',hc1,hlc,hca⟩:=Qcg l c hl hc
 have hfit:=Qez (over:=c) hx hy
 have hsum:l'+18446744073709551616*(h+c1)=x*y+c:=by omega
 have hob:h+c1<18446744073709551616:=by omega
 refine⟨h+c1,l',hob,hl',hsum,fun w=>?_⟩
 have HCM:=Hi hcm
 clear hcm hhl hlc hsum hfit
 go_enter Tryz.func312,Tryz.ntmps312
 go_wp2_with (first|(go_at_call 311;go_fit (HCM.out _);rintro e w2 ⟨rfl,hw2⟩;subst hw2)|simp only[hca])
 go_ret2
 exact⟨by rw[Int.natCast_add];rfl,rfl⟩
theorem Qhm{B k u v d e r ox oy bo ox' oy' bo' lx ly:Nat}{rs xs ys:List Nat}(hk:k<rs.length)(hd:xs.getD k 0=d)(he:ys.getD k 0=e)(h1:lx+B*ox'=d*u+ox)(h2:ly+B*oy'=e*v+oy)(h3:r+bo+ly=lx+B*bo')
 (h:val B (rs.take k)+v*val B (ys.take k)+B ^ k*ox=u*val B (xs.take k)+B ^ k*(oy+bo)):
 val B ((rs.set k r).take (k+1))+v*val B (ys.take (k+1))+B ^ (k+1)*ox'=u*val B (xs.take (k+1))+B ^ (k+1)*(oy'+bo'):=by
 rw[take_set _ _ _ hk,Qah,List.length_take,Nat.min_eq_left (by omega),Qac,Qac,hd,he,Nat.pow_succ,Nat.mul_add v,Nat.mul_add u]
 have e1:B ^ k*(lx+B*ox')=B ^ k*(d*u+ox):=by rw[h1]
 have e2:B ^ k*(ly+B*oy')=B ^ k*(e*v+oy):=by rw[h2]
 have e3:B ^ k*(r+bo+ly)=B ^ k*(lx+B*bo'):=by rw[h3]
 rw[Nat.mul_add,Nat.mul_add,←Nat.mul_assoc] at e1 e2
 rw[Nat.mul_add,Nat.mul_add,Nat.mul_add,←Nat.mul_assoc] at e3
 rw[Nat.mul_add] at h
 rw[Nat.mul_add,Nat.mul_left_comm v,Nat.mul_left_comm u,Nat.mul_comm v e,Nat.mul_comm u d]
 omega
structure Two (b c:Nat) (w w':World):Prop where
 os:w'.os=w.os
 tape:w'.tape=w.tape
 output:w'.output=w.output
 size:w.heap.size≤w'.heap.size
 block:∀k,k<w.heap.size→k≠b→k≠c→w'.heap[k]?=w.heap[k]?
theorem Two.refl(b c:Nat)(w:World):Two b c w w:=⟨rfl,rfl,rfl,Nat.le_refl _,fun _ _ _ _=>rfl⟩
theorem Two.swap{b c:Nat}{w w':World}(h:Two b c w w'):Two c b w w':=⟨h.os,h.tape,h.output,h.size,fun k hk h1 h2=>h.block k hk h2 h1⟩
theorem Two.set1{b c:Nat}{u w:World}(h:Two b c u w)(i:Nat)(v:Value):Two b c u (w.setCell ⟨b,i,none⟩ v):=
 ⟨h.os,h.tape,h.output,by simpa [World.setCell] using h.size,fun k hk h1 h2=>by rw[Below.heap_setCell _ _ _ _ h1];exact h.block k hk h1 h2⟩
theorem Two.set2{b c:Nat}{u w:World}(h:Two b c u w)(i:Nat)(v:Value):Two b c u (w.setCell ⟨c,i,none⟩ v):=(h.swap.set1 i v).swap
theorem Two.below{b c B:Nat}{w w':World}(h:Two b c w w')(hb:B≤b)(hc:B≤c)(hw:B≤w.heap.size):Below B w w':=⟨h.os,h.tape,h.output,h.size,fun k hk=>h.block k (by omega) (by omega) (by omega)⟩
theorem Pre.other{w:World}{g g':Nat}{rs:List Nat}(h:Pre w g rs)(hg:g≠g')(i:Nat)(v:Value):Pre (w.setCell ⟨g',i,none⟩ v) g rs:=by
 obtain⟨C,h,hc⟩:=h
 refine⟨C,?_,hc⟩
 unfold SB at h ⊢
 rw[Below.heap_setCell _ _ _ _ hg]
 exact h
def Took(n u v:Nat)(V xs ys:List Nat):Prop:=∃o p q:Nat,val 18446744073709551616 (V.take n)+v*val 18446744073709551616 (ys.take n)+18446744073709551616 ^ n*o=u*val 18446744073709551616 (xs.take n)+18446744073709551616 ^ n*(p+q)
theorem Took.end{n u v x y z:Nat}{V xs ys:List Nat}(h:Took n u v V xs ys)(hs:Small 18446744073709551616 V)(hn:n≤V.length)(hx:∃t,x=val 18446744073709551616 (xs.take n)+18446744073709551616 ^ n*t)(hy:∃t,y=val 18446744073709551616 (ys.take n)+18446744073709551616 ^ n*t)(hz:u*x=v*y+z)(hzb:z<18446744073709551616 ^ n):
 val 18446744073709551616 (V.take n)=z:=by
 obtain⟨o,p,q,h⟩:=h
 obtain⟨t,rfl⟩:=hx
 obtain⟨r,rfl⟩:=hy
 have hV:=Qab (B:=18446744073709551616) (by decide) (hs.take n)
 rw[List.length_take,Nat.min_eq_left hn] at hV
 generalize val 18446744073709551616 (V.take n)=A at*
 generalize val 18446744073709551616 (xs.take n)=D at*
 generalize val 18446744073709551616 (ys.take n)=E at*
 generalize 18446744073709551616 ^ n=M at*
 have e1:A+M*(o+u*t)=z+M*(p+q+v*r):=by
  have e2:u*(D+M*t)=u*D+M*(u*t):=by rw[Nat.mul_add,Nat.mul_left_comm]
  have e3:v*(E+M*r)=v*E+M*(v*r):=by rw[Nat.mul_add,Nat.mul_left_comm]
  rw[e2,e3] at hz
  rw[Nat.mul_add,Nat.mul_add M (p+q)]
  omega
 have h2:=congrArg (· % M) e1
 simp only[Nat.add_mul_mod_self_left] at h2
 rw[Nat.mod_eq_of_lt hV,Nat.mod_eq_of_lt hzb] at h2
 exact h2
set_option maxRecDepth 100000 in
set_option maxHeartbeats 2000000 in
theorem Qhn(gx gy n cx cy a b c d:Nat)(X Y:List Nat)(w:World)(hX:Pre w gx X)(hY:Pre w gy Y)(hne:gx≠gy)(sX:Small 18446744073709551616 X)(sY:Small 18446744073709551616 Y)(nX:n≤X.length)(nY:n≤Y.length)(hn:n≤1099511627776)(hcx:n≤cx)(hcy:n≤cy)
 (ha:a<18446744073709551616) (hb:b<18446744073709551616) (hc:c<18446744073709551616) (hd:d<18446744073709551616):
 Calls Tryz.prog 307 #[.slice (some ⟨gx,0,none⟩) n cx,.slice (some ⟨gy,0,none⟩) n cy,.int .u64 a,.int .u64 b,.int .u64 c,.int .u64 d] w fun e w'=>e=.returned (.tuple #[])∧
  ∃X2 Y2,Pre w' gx X2∧Pre w' gy Y2∧X2.length=X.length∧Y2.length=Y.length∧Small 18446744073709551616 X2∧Small 18446744073709551616 Y2∧Took n a b X2 X Y∧Took n c d Y2 Y X∧Two gx gy w w':=by
 have HX0:=Hi hX
 have HY0:=Hi hY
 have HSX:=Hi sX
 have HSY:=Hi sY
 have hne':gy≠gx:=fun h=>hne h.symm
 clear hX hY sX sY
 go_enter Tryz.func307,Tryz.ntmps307
 go_wp2
 go_loopw [12,13,14,15,16,17,31] (fun v12 v13 v14 v15 v16 v17 iv wr=>∃(k oA oB oC oD kx ky:Nat) (X2 Y2:List Nat),k≤n∧oA<18446744073709551616∧oB<18446744073709551616∧oC<18446744073709551616∧oD<18446744073709551616∧kx≤1∧ky≤1∧
  v12=.int .u64 oA∧v13=.int .u64 oB∧v14=.int .u64 oC∧v15=.int .u64 oD∧v16=.int .u64 kx∧v17=.int .u64 ky∧iv=.int .i64 k∧Pre wr gx X2∧Pre wr gy Y2∧X2.length=X.length∧Y2.length=Y.length∧Small 18446744073709551616 X2∧Small 18446744073709551616 Y2∧
  (∀p,k≤p→X2.getD p 0=X.getD p 0)∧(∀p,k≤p→Y2.getD p 0=Y.getD p 0)∧
  val 18446744073709551616 (X2.take k)+b*val 18446744073709551616 (Y.take k)+18446744073709551616 ^ k*oA=a*val 18446744073709551616 (X.take k)+18446744073709551616 ^ k*(oB+kx)∧
  val 18446744073709551616 (Y2.take k)+d*val 18446744073709551616 (X.take k)+18446744073709551616 ^ k*oC=c*val 18446744073709551616 (Y.take k)+18446744073709551616 ^ k*(oD+ky)∧Two gx gy w wr) (fun _ _ _ _ _ _ iv _=>n - (intOf iv).toNat)
 case atStart=>exact⟨0,0,0,0,0,0,0,X,Y,by omega,by omega,by omega,by omega,by omega,by omega,by omega,rfl,rfl,rfl,rfl,rfl,rfl,rfl,HX0.out,HY0.out,rfl,rfl,HSX.out,HSY.out,fun _ _=>rfl,fun _ _=>rfl,by simp[val],by simp[val],Two.refl _ _ _⟩
 case round=>
  obtain⟨k,oA,oB,oC,oD,kx,ky,X2,Y2,hk,hoA,hoB,hoC,hoD,hkx,hky,rfl,rfl,rfl,rfl,rfl,rfl,rfl,hP,hQ,lX,lY,tX,tY,rX,rY,eX,eY,hon⟩:=hrel
  have HP:=Hi hP
  have HQ:=Hi hQ
  have HLX:=Hi lX
  have HLY:=Hi lY
  have HTX:=Hi tX
  have HTY:=Hi tY
  have HRX:=Hi rX
  have HRY:=Hi rY
  have HEX:=Hi eX
  have HEY:=Hi eY
  have HON:=Hi hon
  clear tX tY rX rY eX eY hon
  by_cases hlt:k<n
  ·
   obtain⟨u,hu⟩:∃u,X.getD k 0=u:=⟨_,rfl⟩
   obtain⟨v,hv⟩:∃v,Y.getD k 0=v:=⟨_,rfl⟩
   have hub:u<18446744073709551616:=by rw[←hu];exact HSX.out.getD (by omega) k
   have hvb:v<18446744073709551616:=by rw[←hv];exact HSY.out.getD (by omega) k
   obtain⟨oA',lA,hoA',hlA,hA1,hcA⟩:=Qcl u a oA hub ha hoA
   obtain⟨oB',lB,hoB',hlB,hB1,hcB⟩:=Qcl v b oB hvb hb hoB
   obtain⟨oC',lC,hoC',hlC,hC1,hcC⟩:=Qcl v c oC hvb hc hoC
   obtain⟨oD',lD,hoD',hlD,hD1,hcD⟩:=Qcl u d oD hub hd hoD
   obtain⟨r,kx',hr,hkx',hrx,hsx⟩:=sub64 lA lB kx hlA hlB hkx
   obtain⟨s,ky',hs,hky',hry,hsy⟩:=sub64 lC lD ky hlC hlD hky
   have g1:=hP.free k
   have g2:=hP.cell k (by omega)
   rw[HRX.out k (Nat.le_refl _),hu] at g2
   have g3:=hQ.free k
   have g4:=hQ.cell k (by omega)
   rw[HRY.out k (Nat.le_refl _),hv] at g4
   have HCA:=Hi hcA
   have HCB:=Hi hcB
   have HCC:=Hi hcC
   have HCD:=Hi hcD
   have HSTX:=Hi (Qhm (by omega) hu hv hA1 hB1 hrx HEX.out)
   have HSTY:=Hi (Qhm (by omega) hv hu hC1 hD1 hry HEY.out)
   clear hu hv hcA hcB hcC hcD hA1 hB1 hC1 hD1 hrx hry hP hQ lX lY
   go_wp2_with fail
   go_fit (HCA.out _)
   rintro e1 w1 ⟨rfl,hw1⟩
   subst hw1
   go_wp2_with fail
   go_fit (HCB.out _)
   rintro e1 w1 ⟨rfl,hw1⟩
   subst hw1
   go_wp2_with fail
   go_fit (HCC.out _)
   rintro e1 w1 ⟨rfl,hw1⟩
   subst hw1
   go_wp2_with fail
   go_fit (HCD.out _)
   rintro e1 w1 ⟨rfl,hw1⟩
   subst hw1
   clear HCA HCB HCC HCD
   go_wp2_with (simp only[hsx,hsy])
   go_roundw
   case rel=>
    refine⟨k+1,oA',oB',oC',oD',kx',ky',X2.set k r,Y2.set k s,by omega,hoA',hoB',hoC',hoD',hkx',hky',rfl,rfl,rfl,rfl,rfl,rfl,by go_num,(HP.out.set k r (by have:=HLX.out;omega)).other hne _ _,(HQ.out.other hne' _ _).set k s (by have:=HLY.out;omega),by rw[List.length_set];exact HLX.out,by rw[List.length_set];exact HLY.out,HTX.out.set k hr,HTY.out.set k hs,?_,?_,HSTX.out,HSTY.out,(HON.out.set1 _ _).set2 _ _⟩
    ·
     intro p hp
     rw[getD_set_ne _ _ _ _ (by omega)]
     exact HRX.out p (by omega)
    ·
     intro p hp
     rw[getD_set_ne _ _ _ _ (by omega)]
     exact HRY.out p (by omega)
   case measure=>simp[intOf];omega
  ·
   have e1:k=n:=by omega
   clear hP hQ lX lY
   go_wp2
   go_end0
   rw[e1] at HEX HEY
   exact⟨rfl,X2,Y2,HP.out,HQ.out,HLX.out,HLY.out,HTX.out,HTY.out,⟨oA,oB,kx,HEX.out⟩,⟨oC,oD,ky,HEY.out⟩,HON.out⟩
end Go.Proofs.YtgnmjaponiclhaaGreatDoor
namespace Go.Proofs.YtgnmjaponiclhaaGreatDoor
set_option linter.unusedVariables false
structure LInv (a0 b0 st:Nat) (odd:Bool) (xx xy yx yy nX nY a b pa:Nat):Prop where
 ra:if odd then yx*a0=yy*b0+a else yy*b0=yx*a0+a
 rb:if odd then nY*b0=nX*a0+b else nX*a0=nY*b0+b
 ab:b≤a
 d1:if odd then yx*nY=yy*nX+1 else yy*nX=yx*nY+1
 n1:nX≤nY
 n2:1≤nY
 s0:st=0→odd=true∧xy=0∧yx=1∧yy=0∧nX=0
 s1:1≤st→yx≤yy∧1≤yy∧yy≤a∧a+xy+yy≤pa∧1≤nX
 dd:1≤st→if odd then xy*yx=xx*yy+1 else xx*yy=xy*yx+1
 rp:1≤st→if odd then xy*b0=xx*a0+pa else xx*a0=xy*b0+pa
 s2:st=1→xy=0
 s3:2≤st→xx≤xy∧1≤xy∧1≤yx
theorem LInv.start(a0 b0:Nat)(h:b0≤a0):LInv a0 b0 0 true 0 0 1 0 0 1 a0 b0 0:=
 ⟨by simp,by simp,h,by simp,by omega,by omega,fun _=>⟨rfl,rfl,rfl,rfl,rfl⟩,fun h=>by omega,fun h=>by omega,fun h=>by omega,fun h=>by omega,fun h=>by omega⟩
theorem LInv.whole{a0 b0 st:Nat}{odd:Bool}{xx xy yx yy nX nY a b pa:Nat}(h:LInv a0 b0 st odd xx xy yx yy nX nY a b pa):a0=nY*a+yy*b∧b0=nX*a+yx*b:=by
 have h1:=h.ra
 have h2:=h.rb
 have h3:=h.d1
 cases odd
 · simp only[Bool.false_eq_true,if_false] at h1 h2 h3
   constructor<;>grind
 · simp only[if_true] at h1 h2 h3
   constructor<;>grind
theorem LInv.next{a0 b0 st q r:Nat}{odd:Bool}{xx xy yx yy nX nY a b pa:Nat}(h:LInv a0 b0 st odd xx xy yx yy nX nY a b pa)(hb:nY≤b)(hab:b+yy+nY≤a)(hq:q*b+r=a)(hr:r<b)(hq1:1≤q):
 LInv a0 b0 (min (st+1) 2) (!odd) yx yy nX nY (yx+q*nX) (yy+q*nY) b r a:=by
 have h1:=h.ra
 have h2:=h.rb
 have h3:=h.d1
 have hn1:=h.n1
 have hn2:=h.n2
 have hqn:q*nX≤q*nY:=Nat.mul_le_mul_left q hn1
 have hqy:nY≤q*nY:=by have:=Nat.mul_le_mul_right nY hq1;omega
 have hqx:nX≤q*nX:=by have:=Nat.mul_le_mul_right nX hq1;omega
 have hst:st=0∨1≤st:=by omega
 have hnn:yx+q*nX≤yy+q*nY:=by
  rcases hst with h0|h0
  · obtain⟨_,_,e1,e2,e3⟩:=h.s0 h0
    rw[e1,e2,e3,Nat.mul_zero];omega
  · have:=(h.s1 h0).1;omega
 have hx1:1≤yx+q*nX:=by
  rcases hst with h0|h0
  · obtain⟨_,_,e1,e2,e3⟩:=h.s0 h0
    omega
  · have:=(h.s1 h0).2.2.2.2;omega
 refine⟨?_,?_,by omega,?_,hnn,by omega,fun h0=>by omega,fun _=>⟨hn1,hn2,hb,by omega,hx1⟩,fun _=>?_,fun _=>?_,fun h0=>?_,fun h0=>?_⟩
 ·
  cases odd
  · simp only[Bool.not_false,if_true,Bool.false_eq_true,if_false] at h2 ⊢;exact h2
  · simp only[Bool.not_true,Bool.false_eq_true,if_false,if_true] at h2 ⊢;exact h2
 ·
  cases odd
  · simp only[Bool.not_false,if_true,Bool.false_eq_true,if_false] at h1 h2 ⊢;grind
  · simp only[Bool.not_true,Bool.false_eq_true,if_false,if_true] at h1 h2 ⊢;grind
 ·
  cases odd
  · simp only[Bool.not_false,if_true,Bool.false_eq_true,if_false] at h3 ⊢;grind
  · simp only[Bool.not_true,Bool.false_eq_true,if_false,if_true] at h3 ⊢;grind
 ·
  cases odd
  · simp only[Bool.not_false,if_true,Bool.false_eq_true,if_false] at h3 ⊢;exact h3
  · simp only[Bool.not_true,Bool.false_eq_true,if_false,if_true] at h3 ⊢;exact h3
 ·
  cases odd
  · simp only[Bool.not_false,if_true,Bool.false_eq_true,if_false] at h1 ⊢;exact h1
  · simp only[Bool.not_true,Bool.false_eq_true,if_false,if_true] at h1 ⊢;exact h1
 ·
  rcases hst with h1|h1
  · exact(h.s0 h1).2.2.2.1
  · omega
 · have h1:1≤st:=by omega
   exact⟨(h.s1 h1).1,(h.s1 h1).2.1,(h.s1 h1).2.2.2.2⟩
structure Lehm (odd:Bool) (xx xy yx yy x y X Y:Nat):Prop where
 fx:if odd then xy*y=xx*x+X else xx*x=xy*y+X
 fy:if odd then yx*x=yy*y+Y else yy*y=yx*x+Y
 le:Y≤X
 bx:x=yy*X+xy*Y
 by':y=yx*X+xx*Y
 p1:1≤xy
 p2:1≤yx
 p3:1≤yy
theorem Qc9{u v z P:Nat}(hz:z<P)(huv:u≤v):u*z≤v*P:=Nat.mul_le_mul huv (Nat.le_of_lt hz)
theorem LInv.done{a0 b0 st:Nat}{odd:Bool}{xx xy yx yy nX nY a b pa P x' y' x y:Nat}(h:LInv a0 b0 st odd xx xy yx yy nX nY a b pa)(h2:2≤st)(hx:x=a0*P+x')(hy:y=b0*P+y')(hx':x'<P)(hy':y'<P):∃X Y,Lehm odd xx xy yx yy x y X Y:=by
 obtain⟨k1,k2,k3,k4,k5⟩:=h.s1 (by omega)
 obtain⟨j1,j2,j3⟩:=h.s3 h2
 have ra:=h.ra
 have rp:=h.rp (by omega)
 have dd:=h.dd (by omega)
 have m1:=Qc9 hx' j1
 have m2:=Qc9 hy' (Nat.le_refl xy)
 have m3:=Qc9 hx' k1
 have m4:=Qc9 hy' (Nat.le_refl yy)
 have m5:xy*P+yy*P+a*P≤pa*P:=by rw[←Nat.add_mul,←Nat.add_mul];exact Nat.mul_le_mul_right _ (by omega)
 have m6:yy*P≤a*P:=Nat.mul_le_mul_right _ k3
 cases odd
 ·
  simp only[Bool.false_eq_true,if_false] at ra rp dd
  have e1:xx*x=xy*(b0*P)+pa*P+xx*x':=by rw[hx];grind
  have e2:xy*y=xy*(b0*P)+xy*y':=by rw[hy];grind
  have e3:yy*y=yx*(a0*P)+a*P+yy*y':=by rw[hy];grind
  have e4:yx*x=yx*(a0*P)+yx*x':=by rw[hx];grind
  obtain⟨X,hX⟩:∃X,xx*x=xy*y+X:=⟨xx*x - xy*y,by omega⟩
  obtain⟨Y,hY⟩:∃Y,yy*y=yx*x+Y:=⟨yy*y - yx*x,by omega⟩
  refine⟨X,Y,by simpa using hX,by simpa using hY,by omega,?_,?_,j2,j3,k2⟩
  · grind
  · grind
 ·
  simp only[if_true] at ra rp dd
  have e1:xy*y=xx*(a0*P)+pa*P+xy*y':=by rw[hy];grind
  have e2:xx*x=xx*(a0*P)+xx*x':=by rw[hx];grind
  have e3:yx*x=yy*(b0*P)+a*P+yx*x':=by rw[hx];grind
  have e4:yy*y=yy*(b0*P)+yy*y':=by rw[hy];grind
  obtain⟨X,hX⟩:∃X,xy*y=xx*x+X:=⟨xy*y - xx*x,by omega⟩
  obtain⟨Y,hY⟩:∃Y,yx*x=yy*y+Y:=⟨yx*x - yy*y,by omega⟩
  refine⟨X,Y,by simpa using hX,by simpa using hY,by omega,?_,?_,j2,j3,k2⟩
  · grind
  · grind
theorem Lehm.gcd{odd:Bool}{xx xy yx yy x y X Y:Nat}(h:Lehm odd xx xy yx yy x y X Y):Nat.gcd X Y=Nat.gcd x y:=by
 apply Nat.dvd_antisymm
 ·
  apply Nat.dvd_gcd
  · rw[h.bx]
    exact Nat.dvd_add (Nat.dvd_trans (Nat.gcd_dvd_left X Y) (Nat.dvd_mul_left X yy)) (Nat.dvd_trans (Nat.gcd_dvd_right X Y) (Nat.dvd_mul_left Y xy))
  · rw[h.by']
    exact Nat.dvd_add (Nat.dvd_trans (Nat.gcd_dvd_left X Y) (Nat.dvd_mul_left X yx)) (Nat.dvd_trans (Nat.gcd_dvd_right X Y) (Nat.dvd_mul_left Y xx))
 ·
  have g1:=Nat.gcd_dvd_left x y
  have g2:=Nat.gcd_dvd_right x y
  have f1:=h.fx
  have f2:=h.fy
  generalize Nat.gcd x y=g at*
  have dx:∀u,g ∣ u*x:=fun u=>Nat.dvd_trans g1 (Nat.dvd_mul_left x u)
  have dy:∀u,g ∣ u*y:=fun u=>Nat.dvd_trans g2 (Nat.dvd_mul_left y u)
  apply Nat.dvd_gcd
  ·
   cases odd
   · simp only[Bool.false_eq_true,if_false] at f1
     exact(Nat.dvd_add_right (dy xy)).1 (f1 ▸ dx xx)
   · simp only[if_true] at f1
     exact(Nat.dvd_add_right (dx xx)).1 (f1 ▸ dy xy)
  ·
   cases odd
   · simp only[Bool.false_eq_true,if_false] at f2
     exact(Nat.dvd_add_right (dx yx)).1 (f2 ▸ dy yy)
   · simp only[if_true] at f2
     exact(Nat.dvd_add_right (dy yy)).1 (f2 ▸ dx yx)
theorem Lehm.less{odd:Bool}{xx xy yx yy x y X Y:Nat}(h:Lehm odd xx xy yx yy x y X Y)(hy:0<y):X≤y∧X+Y<x+y:=by
 have h1:=h.bx
 have h2:=h.by'
 have h3:=Nat.mul_le_mul_right X h.p3
 have h4:=Nat.mul_le_mul_right Y h.p1
 have h5:=Nat.mul_le_mul_right X h.p2
 have h6:=h.le
 have h7:0<X:=by
  rcases Nat.eq_zero_or_pos X with h0|h0
  ·
   have:Y=0:=by omega
   rw[h0,this] at h2
   simp at h2
   omega
  · exact h0
 constructor<;>omega
open Go.RowKit
set_option linter.unusedSimpArgs false
theorem Qhj(d e s:Nat)(hs:s<64)(hd:d*2 ^ s<18446744073709551616)(he:e<18446744073709551616):∃lo hi new r:Nat,IntKind.u64.wrap ((d:Int)*2 ^ s)=(lo:Int)∧(e:Int) / 2 ^ (64 - s)=(hi:Int)∧bits .or .u64 (lo:Int) (hi:Int)=(new:Int)∧new<18446744073709551616∧r<2 ^ (64 - s)∧new*2 ^ (64 - s)+r=e+18446744073709551616*d:=by
 have h0:=Qbg (s:=s) (by omega)
 have h2:=Qef (lo:=e) (s:=s) (by omega) he
 have h3:=Nat.div_add_mod e (2 ^ (64 - s))
 have h4:2 ^ s*d+e / 2 ^ (64 - s)<18446744073709551616:=by
  have a1:d+1≤2 ^ (64 - s):=by
   apply Nat.lt_of_mul_lt_mul_left (a:=2 ^ s)
   rw[h0,Nat.mul_comm];exact hd
  have a2:=Nat.mul_le_mul_left (2 ^ s) a1
  rw[h0,Nat.mul_add,Nat.mul_one] at a2
  omega
 refine⟨d*2 ^ s,e / 2 ^ (64 - s),2 ^ s*d+e / 2 ^ (64 - s),e % 2 ^ (64 - s),?_,?_,?_,h4,Nat.mod_lt _ (Nat.two_pow_pos _),?_⟩
 · rw[show (d:Int)*2 ^ s=((d*2 ^ s:Nat):Int) by rw[Int.natCast_mul,Int.natCast_pow];rfl,Qbp _ hd]
 · rw[Int.natCast_ediv,Int.natCast_pow];rfl
 · exact or64 _ _ d (e / 2 ^ (64 - s)) s (by rw[Nat.mul_comm]) rfl h2 h4
 ·
  have e1:2 ^ s*d*2 ^ (64 - s)=18446744073709551616*d:=by rw[Nat.mul_right_comm,h0]
  rw[Nat.add_mul,e1,Nat.mul_comm (e / 2 ^ (64 - s))]
  omega
theorem Qhk{l:List Nat}{x N:Nat}(h:Num 18446744073709551616 l x)(hl:l.length≤N+2):∃low,low<18446744073709551616 ^ N∧x=low+18446744073709551616 ^ N*(l.getD N 0+18446744073709551616*l.getD (N+1) 0):=by
 refine⟨val 18446744073709551616 (l.take N),?_,?_⟩
 · have h1:=Qab (B:=18446744073709551616) (by decide) (h.small.take N)
   exact Nat.lt_of_lt_of_le h1 (Nat.pow_le_pow_right (by decide) (by rw[List.length_take];omega))
 ·
  have h1:=Qac 18446744073709551616 l (N+1)
  rw[List.take_of_length_le (by omega),h.eq,Qac,Nat.pow_succ] at h1
  rw[h1,Nat.mul_add,Nat.mul_assoc]
  omega
structure Highs (x y a b P x' y':Nat):Prop where
 hx:x=a*P+x'
 hy:y=b*P+y'
 hx':x'<P
 hy':y'<P
 ab:b≤a
 ha:a<18446744073709551616
theorem Qnk{x y lx ly N s d1 d0 e1 e0 a b r t:Nat}(hle:y≤x)(hx:x=lx+18446744073709551616 ^ N*(d0+18446744073709551616*d1))(hy:y=ly+18446744073709551616 ^ N*(e0+18446744073709551616*e1))(hlx:lx<18446744073709551616 ^ N)(hly:ly<18446744073709551616 ^ N)
 (ha:a*2 ^ (64 - s)+r=d0+18446744073709551616*d1) (hb:b*2 ^ (64 - s)+t=e0+18446744073709551616*e1) (hr:r<2 ^ (64 - s)) (ht:t<2 ^ (64 - s)) (hab:a<18446744073709551616):∃P x' y',Highs x y a b P x' y':=by
 generalize 18446744073709551616 ^ N=M at*
 generalize 2 ^ (64 - s)=p at*
 have h1:M*(r+1)≤M*p:=Nat.mul_le_mul_left M hr
 have h2:M*(t+1)≤M*p:=Nat.mul_le_mul_left M ht
 rw[Nat.mul_add,Nat.mul_one] at h1 h2
 have e1:x=a*(M*p)+(lx+M*r):=by rw[hx,←ha];grind
 have e2:y=b*(M*p)+(ly+M*t):=by rw[hy,←hb];grind
 refine⟨M*p,lx+M*r,ly+M*t,e1,e2,by omega,by omega,?_,hab⟩
 apply Classical.byContradiction
 intro hc
 have h3:(a+1)*(M*p)≤b*(M*p):=Nat.mul_le_mul_right _ (by omega)
 rw[Nat.add_mul,Nat.one_mul] at h3
 omega
set_option maxRecDepth 100000 in
set_option maxHeartbeats 1000000 in
theorem Qnl(N:Nat)(l m:List Nat)(x y:Nat)(g1:Num 18446744073709551616 l x)(g2:Num 18446744073709551616 m y)(hle:y≤x)(hl:l.length=N+2)(hs1:l.length≤1099511627776):
 ∃a b:Nat,(∃P x' y',Highs x y a b P x' y')∧∀(a1 a2:Option Addr) (c1 c2:Nat) (w:World),U64 w a1 c1 l x→U64 w a2 c2 m y→Calls Tryz.prog 300 #[.slice a1 l.length c1,.slice a2 m.length c2] w fun e w'=>e=.returned (.tuple #[.int .u64 (a:Int),.int .u64 (b:Int)])∧Below w.heap.size w w':=by
 have hml:m.length≤N+2:=by
  apply Classical.byContradiction
  intro hc
  have:=Qat (B:=18446744073709551616) (by decide) g1.small g2.trim (by omega)
  rw[g1.eq,g2.eq] at this
  omega
 have hs2:m.length≤1099511627776:=by omega
 obtain⟨lx,hlx,hx⟩:=Qhk g1 (N:=N) (by omega)
 obtain⟨ly,hly,hy⟩:=Qhk g2 (N:=N) hml
 obtain⟨d1,hd1⟩:∃d,l.getD (N+1) 0=d:=⟨_,rfl⟩
 obtain⟨d0,hd0⟩:∃d,l.getD N 0=d:=⟨_,rfl⟩
 obtain⟨f1,hf1⟩:∃d,m.getD (N+1) 0=d:=⟨_,rfl⟩
 obtain⟨f0,hf0⟩:∃d,m.getD N 0=d:=⟨_,rfl⟩
 have hd1b:d1<18446744073709551616:=by rw[←hd1];exact g1.small.getD (by omega) _
 have hd0b:d0<18446744073709551616:=by rw[←hd0];exact g1.small.getD (by omega) _
 have hf0b:f0<18446744073709551616:=by rw[←hf0];exact g2.small.getD (by omega) _
 have hd1p:0<d1:=by
  obtain⟨_,t,ht,_,_,h,_⟩:=Qhg g1 (N:=N+1) (by omega)
  rw[←hd1,ht];exact h
 rw[hd1,hd0] at hx
 rw[hf1,hf0] at hy
 have hfd:f1≤d1:=by
  apply Classical.byContradiction
  intro hc
  have k1:18446744073709551616 ^ N*(d0+18446744073709551616*d1+1)≤18446744073709551616 ^ N*(f0+18446744073709551616*f1):=Nat.mul_le_mul_left _ (by omega)
  rw[Nat.mul_add _ _ 1,Nat.mul_one] at k1
  omega
 obtain⟨s,hs64,hs,hst1,hst2⟩:=Qed d1 hd1p hd1b
 have HLEAD:=Hi (fun w=>Qec (d1:Int) w (by omega) (by omega))
 rw[hs] at HLEAD
 obtain⟨lo,hi,a,r,u1,u2,u3,hab,hr,har⟩:=Qhj d1 d0 s hs64 hst2 hd0b
 obtain⟨lo',hi',b,t,v1,v2,v3,hbb,ht,hbt⟩:=Qhj f1 f0 s hs64 (Nat.lt_of_le_of_lt (Nat.mul_le_mul_right _ hfd) hst2) hf0b
 refine⟨a,b,Qnk hle hx hy hlx hly har hbt hr ht hab,?_⟩
 intro a1 a2 c1 c2 w h1 h2
 obtain⟨b1,o1,rfl,hb1,hc1⟩:=h1.row.cell (N+1) (by omega)
 obtain⟨b2,o2,e2,hb2,hc2⟩:=h1.row.cell N (by omega)
 obtain⟨rfl,rfl⟩:b1=b2∧o1=o2:=by simp at e2;exact e2
 clear e2
 have HW1:=Qbj a2 c2 m (N+1)
 have HW0:=Qbj a2 c2 m N
 rw[hf1] at HW1
 rw[hf0] at HW0
 rw[hd1] at hc1
 rw[hd0] at hc2
 have H2:=Hi h2
 have HW1:=Hi HW1
 have HW0:=Hi HW0
 obtain⟨L,hL⟩:∃L,l.length=L:=⟨_,rfl⟩
 obtain⟨p,hp⟩:∃p,N+1=p:=⟨_,rfl⟩
 rw[hL]
 rw[hp] at hc1 HW1
 have w1:IntKind.i64.wrap ((L:Int) - 1)=(p:Int):=by rw[wrap_i64 _ (by omega) (by omega)];omega
 have w2:IntKind.i64.wrap ((L:Int) - 2)=(N:Int):=by rw[wrap_i64 _ (by omega) (by omega)];omega
 have w3:IntKind.i64.wrap (64 - (s:Int))=((64 - s:Nat):Int):=by rw[wrap_i64 _ (by omega) (by omega)];omega
 have i1:(p:Int)<(L:Int):=by omega
 have i2:(N:Int)<(L:Int):=by omega
 have hpN:p≤2199023255552:=by omega
 have hNN:N≤2199023255552:=by omega
 clear h1 h2 g1 g2 hx hy hlx hly har hbt hr ht hst1 hst2 hd1 hd0 hf1 hf0 hs hle hl hml hp
 go_enter Tryz.func300,Tryz.ntmps300
 go_wp2_with fail
 go_fit (HLEAD.out _)
 rintro e w2 ⟨rfl,hw⟩
 subst hw
 clear HLEAD
 go_wp2_with fail
 go_region
 all_goals
  go_wp2_with fail
  go_region_held3 (fun _=>True) (trivial) (first
   |(
    go_at_call 277
    first
     |go_fit (HW1.out _ (H2.out.row) hs2 hpN)
     |go_fit (HW1.out _ (H2.out.drew.row) hs2 hpN)
     |go_fit (HW1.out _ (H2.out.drew.drew.row) hs2 hpN)
     |go_fit (HW0.out _ (H2.out.row) hs2 hNN)
     |go_fit (HW0.out _ (H2.out.drew.row) hs2 hNN)
     |go_fit (HW0.out _ (H2.out.drew.drew.row) hs2 hNN)
    rintro e w6 ⟨rfl,hw⟩
    subst hw))
  all_goals
   go_wp2
   go_ret2
   exact⟨rfl,(Below.refl _ _).drew.drew⟩
theorem SB.apart{w:World}{b g:Nat}{t:TypeId}{C:Array Value}(h:SB w b t C)(hne:b≠g)(i:Nat)(v:Value):SB (w.setCell ⟨g,i,none⟩ v) b t C:=by
 unfold SB at h ⊢
 rw[Below.heap_setCell _ _ _ _ hne];exact h
def StepsVal(odd:Bool)(xx xy yx yy:Nat):Value:=.agg #[.int .u64 xx,.int .u64 xy,.int .u64 yx,.int .u64 yy,.bool odd]
structure Steps (x y:Nat) (odd:Bool) (xx xy yx yy:Nat):Prop where
 bxx:xx<18446744073709551616
 bxy:xy<18446744073709551616
 byx:yx<18446744073709551616
 byy:yy<18446744073709551616
 go:0<xy→∃X Y,Lehm odd xx xy yx yy x y X Y
def StepsSaid(x y:Nat)(w:World)(e:Ending)(w':World):Prop:=(∃odd xx xy yx yy,e=.returned (StepsVal odd xx xy yx yy)∧Steps x y odd xx xy yx yy)∧Below w.heap.size w w'
theorem LInv.small{a0 b0 st:Nat}{odd:Bool}{xx xy yx yy nX nY a b pa:Nat}(h:LInv a0 b0 st odd xx xy yx yy nX nY a b pa)(hb:1≤b):nX≤a0∧nY+yy≤a0∧yx≤a0+1:=by
 have h1:=h.whole
 have h2:=h.ab
 have h3:nY*1≤nY*a:=Nat.mul_le_mul_left _ (by omega)
 have h4:yy*1≤yy*b:=Nat.mul_le_mul_left _ hb
 have h5:=h.n1
 have h6:yx≤yy+1:=by
  rcases(show st=0∨1≤st by omega) with h0|h0
  · have:=h.s0 h0;omega
  · have:=h.s1 h0;omega
 refine⟨by omega,by omega,by have:=h.n2;omega⟩
theorem LInv.step{a0 b0 st:Nat}{odd:Bool}{xx xy yx yy nX nY a b pa:Nat}(h:LInv a0 b0 st odd xx xy yx yy nX nY a b pa)(hb:nY≤b)(hab:b+yy+nY≤a):∃q r u v nX' nY':Nat,(a:Int) / (b:Int)=(q:Int)∧Int.tdiv (a:Int) (b:Int)=(q:Int)∧(a:Int) % (b:Int)=(r:Int)∧Int.tmod (a:Int) (b:Int)=(r:Int)∧(q:Int)*(nX:Int)=(u:Int)∧(q:Int)*(nY:Int)=(v:Int)∧(yx:Int)+(u:Int)=(nX':Int)∧(yy:Int)+(v:Int)=(nY':Int)∧
 nX'≤a0∧nY'≤a0∧u≤nX'∧v≤nY'∧r<b∧q≤a∧LInv a0 b0 (min (st+1) 2) (!odd) yx yy nX nY nX' nY' b r a:=by
 have hn2:=h.n2
 have hq:a / b*b+a % b=a:=by rw[Nat.mul_comm];exact Nat.div_add_mod a b
 have hr:a % b<b:=Nat.mod_lt _ (by omega)
 have hq1:1≤a / b:=(Nat.one_le_div_iff (by omega)).2 (by omega)
 have hN:=h.next hb hab hq hr hq1
 have hw:=hN.whole
 have h1:=hN.n1
 have h2:(yy+a / b*nY)*1≤(yy+a / b*nY)*b:=Nat.mul_le_mul_left _ (by omega)
 refine⟨a / b,a % b,a / b*nX,a / b*nY,yx+a / b*nX,yy+a / b*nY,rfl,rfl,rfl,rfl,(Int.natCast_mul _ _).symm,(Int.natCast_mul _ _).symm,(Int.natCast_add _ _).symm,(Int.natCast_add _ _).symm,by omega,by omega,by omega,by omega,hr,Nat.div_le_self _ _,hN⟩
theorem Tryz.stepsInfo:(Tryz.prog.info? 318).map (·.size)=some 5:=by kernel_rfl
theorem LInv.steps{a0 b0 st:Nat}{odd:Bool}{xx xy yx yy nX nY a b pa P x' y' x y:Nat}(h:LInv a0 b0 st odd xx xy yx yy nX nY a b pa)(H:Highs x y a0 b0 P x' y')(hxx:xx<18446744073709551616)(hxy:xy<18446744073709551616)(hyx:yx<18446744073709551616)(hyy:yy<18446744073709551616):Steps x y odd xx xy yx yy:=by
 refine⟨by omega,by omega,by omega,by omega,fun h0=>?_⟩
 rcases(show st=0∨st=1∨2≤st by omega) with h1|h1|h1
 · have:=h.s0 h1;omega
 · have:=h.s2 h1;omega
 · exact h.done h1 H.hx H.hy H.hx' H.hy'
set_option maxRecDepth 100000 in
set_option maxHeartbeats 1000000 in
theorem Qnp(a1 a2:Option Addr)(c1 c2 N:Nat)(l m:List Nat)(x y:Nat)(w:World)(h1:U64 w a1 c1 l x)(h2:U64 w a2 c2 m y)(hle:y≤x)(hl:l.length=N+2):
 Calls Tryz.prog 261 #[.slice a1 l.length c1,.slice a2 m.length c2] w (StepsSaid x y w):=by
 obtain⟨a0,b0,⟨P,x',y',hH⟩,hC⟩:=Qnl N l m x y h1.num h2.num hle hl h1.short
 have HC:=Hi hC
 have HH:=Hi hH
 have ha0:=hH.ha
 have hb0:=hH.ab
 have H1:=Hi h1
 have H2:=Hi h2
 clear hH hC h1 h2 hle hl
 go_enter Tryz.func261,Tryz.ntmps261
 go_wp2_with fail
 go_fit (HC.out a1 a2 c1 c2 _ (H1.out.below ((Below.refl _ _).alloc (Nat.le_refl _) _)) (H2.out.below ((Below.refl _ _).alloc (Nat.le_refl _) _)))
 rintro e w1 ⟨rfl,hb⟩
 have HB:Hid (Below w.heap.size w w1):=Hi (((Below.refl _ _).alloc (Nat.le_refl _) _).trans (hb.mono (by rw[World.size_alloc];omega)))
 have hs:=SB.below (SB.new w _ _) hb (by rw[World.size_alloc];omega)
 obtain⟨R,hR⟩:∃R,w.heap.size=R:=⟨_,rfl⟩
 obtain⟨g,hg⟩:∃g,w1.heap.size=g:=⟨_,rfl⟩
 have hRg:R<g:=by rw[←hg,←hR];exact hs.lt
 have HS:=Hi hs
 rw[hR] at HB HS
 clear hb HC hs
 go_wp2_with fail
 try rw[hg]
 try rw[hR]
 have HG:=Hi hg
 have HR:=Hi hR
 clear hg hR
 go_loopw [5,6,8,9] (fun av bv nxv nyv wr=>∃(st:Nat) (odd:Bool) (xx xy yx yy nX nY a b pa:Nat),av=.int .u64 a∧bv=.int .u64 b∧nxv=.int .u64 nX∧nyv=.int .u64 nY∧a≤a0∧nX<18446744073709551616∧nY<18446744073709551616∧xx<18446744073709551616∧xy<18446744073709551616∧yx<18446744073709551616∧yy<18446744073709551616∧LInv a0 b0 st odd xx xy yx yy nX nY a b pa∧
  SB wr g 318 #[.int .u64 xx,.int .u64 xy,.int .u64 yx,.int .u64 yy,.bool odd]∧SB wr R 318 #[.int .u64 0,.int .u64 0,.int .u64 0,.int .u64 0,.bool false]∧Below R w wr) (fun _ bv _ _ _=>(intOf bv).toNat)
 case atStart=>
  refine⟨0,true,0,0,1,0,0,1,a0,b0,0,rfl,rfl,rfl,rfl,by omega,by omega,by omega,by omega,by omega,by omega,by omega,LInv.start a0 b0 hb0,?_,HS.out.alloc _,HB.out.alloc (by rw[HG.out];omega) _⟩
  rw[←HG.out];exact SB.new _ _ _
 case round=>
  obtain⟨st,odd,xx,xy,yx,yy,nX,nY,a,b,pa,rfl,rfl,rfl,rfl,haa,hnx,hny,hxx,hxy,hyx,hyy,hL,hs,hr,hb⟩:=hrel
  have HL:=Hi hL
  have HS2:=Hi hs
  have HR2:=Hi hr
  have HB2:=Hi hb
  have k0:=hs.cell 0
  have k1:=hs.cell 1
  have k2:=hs.cell 2
  have k3:=hs.cell 3
  have k4:=hs.cell 4
  have f0:=hs.free 0
  have f1:=hs.free 1
  have f2:=hs.free 2
  have f3:=hs.free 3
  have f4:=hs.free 4
  have r0:=hr.cell 0
  have r1:=hr.cell 1
  have r2:=hr.cell 2
  have r3:=hr.cell 3
  have r4:=hr.cell 4
  have q0:=hr.free 0
  have q1:=hr.free 1
  have q2:=hr.free 2
  have q3:=hr.free 3
  have q4:=hr.free 4
  simp at k0 k1 k2 k3 k4 r0 r1 r2 r3 r4
  have hab:=hL.ab
  clear hs hr hb hL
  by_cases hc1:nY≤b
  ·
   have hsm:=HL.out.small (by have:=HL.out.n2;omega)
   obtain⟨hsm1,hsm2,hsm3⟩:=hsm
   by_cases hc2:b+yy+nY≤a
   ·
    obtain⟨q,r,u,v,nX',nY',d1,d2,d3,d4,d5,d6,d7,d8,hnx',hny',hu,hv,hr,hqa,hN⟩:=HL.out.step hc1 hc2
    have HN:=Hi hN
    clear hN
    have t1:((b:Int) == 0)=false:=by rw[beq_eq_false_iff_ne];have:=HL.out.n2;omega
    have t2:decide ((yy:Int)+(nY:Int)≤(a:Int) - (b:Int))=true:=by simp;omega
    clear r0 r1 r2 r3 r4 q0 q1 q2 q3 q4
    go_wp2_with fail
    go_region
    all_goals
     go_wp2
     refine⟨⟨min (st+1) 2,!odd,yx,yy,nX,nY,nX',nY',b,r,a,rfl,rfl,rfl,rfl,by omega,by omega,by omega,hyx,hyy,hnx,hny,HN.out,?_,?_,?_⟩,?_⟩
     · exact SB.drew (((((HS2.out.set 0 _).set 2 _).set 1 _).set 3 _).set 4 _)
     · refine SB.drew (SB.apart (SB.apart (SB.apart (SB.apart (SB.apart HR2.out ?_ 0 _) ?_ 2 _) ?_ 1 _) ?_ 3 _) ?_ 4 _)
       all_goals omega
     · exact(((((HB2.out.setCell (Nat.le_of_lt hRg) _).setCell (Nat.le_of_lt hRg) _).setCell (Nat.le_of_lt hRg) _).setCell (Nat.le_of_lt hRg) _).setCell (Nat.le_of_lt hRg) _).drew
     · simp[intOf];omega
   ·
    have t1:((a:Int) - (b:Int)≥(yy:Int)+(nY:Int))=False:=by simp;omega
    have t2:decide ((yy:Int)+(nY:Int)≤(a:Int) - (b:Int))=false:=by simp;omega
    go_wp2
    refine bodyPost_ret (v:=StepsVal odd xx xy yx yy) (results_cell_row rfl _ _ R 318 #[.int .u64 xx,.int .u64 xy,.int .u64 yx,.int .u64 yy,.bool odd] (0,0) _ rfl (((((HR2.out.set 0 _).set 1 _).set 2 _).set 3 _).set 4 _) Tryz.underlying318 rfl Tryz.stepsInfo) rfl ?_
    exact⟨⟨odd,xx,xy,yx,yy,rfl,HL.out.steps HH.out hxx hxy hyx hyy⟩,by rw[HR.out];exact((((HB2.out.setCell (Nat.le_refl _) _).setCell (Nat.le_refl _) _).setCell (Nat.le_refl _) _).setCell (Nat.le_refl _) _).setCell (Nat.le_refl _) _⟩
  ·
   go_wp2
   refine bodyPost_ret (v:=StepsVal odd xx xy yx yy) (results_cell_row rfl _ _ R 318 #[.int .u64 xx,.int .u64 xy,.int .u64 yx,.int .u64 yy,.bool odd] (0,0) _ rfl (((((HR2.out.set 0 _).set 1 _).set 2 _).set 3 _).set 4 _) Tryz.underlying318 rfl Tryz.stepsInfo) rfl ?_
   exact⟨⟨odd,xx,xy,yx,yy,rfl,HL.out.steps HH.out hxx hxy hyx hyy⟩,by rw[HR.out];exact((((HB2.out.setCell (Nat.le_refl _) _).setCell (Nat.le_refl _) _).setCell (Nat.le_refl _) _).setCell (Nat.le_refl _) _).setCell (Nat.le_refl _) _⟩
set_option maxHeartbeats 400000 in
theorem Qnq(odd:Bool)(xx xy yx yy:Nat)(w:World):
 Calls Tryz.prog 262 #[StepsVal odd xx xy yx yy] w fun e w'=>e=.returned (.bool (decide (xy=0)))∧Below w.heap.size w w':=by
 rw[show (decide (xy=0))=((xy:Int) == 0) by by_cases h:xy=0<;>simp[h]]
 unfold StepsVal
 go_enter Tryz.func262,Tryz.ntmps262
 go_wp2
 go_ret
 exact⟨rfl,(Below.refl _ _).alloc (Nat.le_refl _) _⟩
theorem Qho{w:World}{g cap n:Nat}{C l:List Nat}{x:Nat}(h:ON w g cap C l x)(hn:n≤l.length):∃t,x=val 18446744073709551616 (C.take n)+18446744073709551616 ^ n*t:=by
 refine⟨val 18446744073709551616 (l.drop n),?_⟩
 have e:C.take n=l.take n:=by
  have:=congrArg (List.take n) h.fro
  rw[List.take_take,Nat.min_eq_left hn] at this
  exact this
 rw[e,←Qag _ _ _ hn]
 exact h.num.eq.symm
theorem ON.lt{w:World}{g cap:Nat}{C l:List Nat}{x:Nat}(h:ON w g cap C l x):x<18446744073709551616 ^ l.length:=by
 have:=Qab (B:=18446744073709551616) (by decide) h.num.small
 rw[h.num.eq] at this
 exact this
def Both(w:World)(gx gy X Y:Nat)(e:Ending):Prop:=∃ga gb ca cb Ca Cb la lb,e=.returned (.tuple #[.slice (some ⟨ga,0,none⟩) (List.length la) ca,.slice (some ⟨gb,0,none⟩) (List.length lb) cb])∧ON w ga ca Ca la X∧ON w gb cb Cb lb Y∧((ga=gx∧gb=gy)∨(ga=gy∧gb=gx))
set_option maxRecDepth 100000 in
set_option maxHeartbeats 1000000 in
theorem Qnr(odd:Bool)(xx xy yx yy:Nat)(gx gy cx cy:Nat)(Cx Cy l m:List Nat)(x y X Y:Nat)(w:World)(h1:ON w gx cx Cx l x)(h2:ON w gy cy Cy m y)(hne:gx≠gy)(hyx:y≤x)(hS:Steps x y odd xx xy yx yy)(hL:Lehm odd xx xy yx yy x y X Y)(hy:0<y)(B:Nat)(hBx:B≤gx)(hBy:B≤gy):
 Calls Tryz.prog 264 #[StepsVal odd xx xy yx yy,.slice (some ⟨gx,0,none⟩) l.length cx,.slice (some ⟨gy,0,none⟩) m.length cy] w fun e w'=>Both w' gx gy X Y e∧Below B w w':=by
 have hl:=hL.less hy
 have hml:m.length≤l.length:=h2.num.length_le_of_lt (by decide) (Nat.lt_of_le_of_lt hyx h1.lt)
 have hm1:=h1.fit
 have hm2:=h2.fit
 have hc1:=h1.le
 have hc2:=h2.le
 have hs1:=h1.len
 have hs2:=h2.len
 have hbX:X<18446744073709551616 ^ m.length:=Nat.lt_of_le_of_lt hl.1 h2.lt
 have hbY:Y<18446744073709551616 ^ m.length:=Nat.lt_of_le_of_lt (by have:=hL.le;omega) hbX
 have tx:=Qho h1 hml
 have ty:=Qho h2 (Nat.le_refl _)
 have fx:=hL.fx
 have fy:=hL.fy
 have HT:=Hi (⟨hbX,hbY,tx,ty⟩:X<18446744073709551616 ^ m.length∧Y<18446744073709551616 ^ m.length∧_∧_)
 obtain⟨wa,hwa⟩:∃wa,w.alloc (.cells #[Value.int .u64 xx,.int .u64 xy,.int .u64 yx,.int .u64 yy,.bool odd] 318)=wa:=⟨_,rfl⟩
 obtain⟨gs,hg⟩:∃gs,w.heap.size=gs:=⟨_,rfl⟩
 have hbw:Below w.heap.size w wa:=by rw[←hwa];exact(Below.refl _ _).alloc (Nat.le_refl _) _
 have hsb:SB wa gs 318 #[Value.int .u64 xx,.int .u64 xy,.int .u64 yx,.int .u64 yy,.bool odd]:=by rw[←hwa,←hg];exact SB.new _ _ _
 have p1:=h1.pre.below hbw h1.pre.lt
 have p2:=h2.pre.below hbw h2.pre.lt
 have HB:Hid (Below B w wa):=Hi (hbw.mono (by have:=h1.pre.lt;omega))
 have HWB:Hid (B≤wa.heap.size):=Hi (by have:=h1.pre.lt;have:=hbw.size;omega)
 have k0:=hsb.cell 0
 have k1:=hsb.cell 1
 have k2:=hsb.cell 2
 have k3:=hsb.cell 3
 have k4:=hsb.cell 4
 simp at k0 k1 k2 k3 k4
 have HW:=Hi hwa
 have HG:=Hi hg
 have HS1:=Hi hs1
 have HS2:=Hi hs2
 have HC1:=Hi hc1
 have HC2:=Hi hc2
 have HM1:=Hi hm1
 have HM2:=Hi hm2
 have hmcx:m.length≤cx:=by omega
 have hmcy:m.length≤cy:=by omega
 have HMX:=Hi hmcx
 have HMY:=Hi hmcy
 have im:(m.length:Int)≤(cx:Int):=by omega
 have im0:(0:Int)≤(m.length:Int):=by omega
 unfold StepsVal
 cases odd
 ·
  simp only[Bool.false_eq_true,if_false] at fx fy
  have HTK:=Hi (Qhn gx gy m.length cx cy xx xy yy yx Cx Cy wa p1 p2 hne h1.small h2.small (by omega) (by omega) (by omega) (by omega) (by omega) hS.bxx hS.bxy hS.byy hS.byx)
  have HFX:=Hi fx
  have HFY:=Hi fy
  clear h1 h2 hS hL hl hbX hbY tx ty fx fy p1 p2 hbw hsb hwa hg hs1 hs2 hc1 hc2 hm1 hm2
  go_enter Tryz.func264,Tryz.ntmps264
  go_wp2_with fail
  rw[HW.out,HG.out]
  go_wp2_with fail
  go_fit HTK.out
  rintro e w2 ⟨rfl,X2,Y2,hX2,hY2,lX,lY,sX,sY,oX,oY,h2w⟩
  have HR1:=Hi (Qck gx m.length cx X X2 w2 hX2 sX (by rw[lX];exact HS1.out) (by rw[lX];have:=HC1.out;omega) HMX.out (oX.end sX (by rw[lX];have:=HC1.out;omega) HT.out.2.2.1 HT.out.2.2.2 HFX.out HT.out.1))
  have HR2:=Hi (Qck gy m.length cy Y Y2 w2 hY2 sY (by rw[lY];exact HS2.out) (by rw[lY];have:=HC2.out;omega) HMY.out (oY.end sY (by rw[lY];have:=HC2.out;omega) HT.out.2.2.2 HT.out.2.2.1 HFY.out HT.out.2.1))
  have HB2:=Hi (HB.out.trans (h2w.below hBx hBy HWB.out))
  clear hX2 hY2 lX lY sX sY oX oY h2w HTK k0 k1 k2 k3 k4
  go_wp2_with fail
  go_fit HR1.out
  rintro e w3 ⟨⟨r1,rfl,ho1,_⟩,hw3⟩
  subst hw3
  have HO1:=Hi ho1
  clear ho1
  go_wp2_with fail
  go_fit HR2.out
  rintro e w3 ⟨⟨r2,rfl,ho2,_⟩,hw3⟩
  subst hw3
  have HO2:=Hi ho2
  clear ho2
  go_wp2
  go_ret2
  exact⟨⟨gx,gy,cx,cy,X2,Y2,r1,r2,rfl,HO1.out,HO2.out,.inl ⟨rfl,rfl⟩⟩,HB2.out⟩
 ·
  simp only[if_true] at fx fy
  have HTK:=Hi (Qhn gy gx m.length cy cx xy xx yx yy Cy Cx wa p2 p1 (fun h=>hne h.symm) h2.small h1.small (by omega) (by omega) (by omega) (by omega) (by omega) hS.bxy hS.bxx hS.byx hS.byy)
  have HFX:=Hi fx
  have HFY:=Hi fy
  clear h1 h2 hS hL hl hbX hbY tx ty fx fy p1 p2 hbw hsb hwa hg hs1 hs2 hc1 hc2 hm1 hm2
  go_enter Tryz.func264,Tryz.ntmps264
  go_wp2_with fail
  rw[HW.out,HG.out]
  go_wp2_with fail
  go_fit HTK.out
  rintro e w2 ⟨rfl,X2,Y2,hX2,hY2,lX,lY,sX,sY,oX,oY,h2w⟩
  have HR1:=Hi (Qck gy m.length cy X X2 w2 hX2 sX (by rw[lX];exact HS2.out) (by rw[lX];have:=HC2.out;omega) HMY.out (oX.end sX (by rw[lX];have:=HC2.out;omega) HT.out.2.2.2 HT.out.2.2.1 HFX.out HT.out.1))
  have HR2:=Hi (Qck gx m.length cx Y Y2 w2 hY2 sY (by rw[lY];exact HS1.out) (by rw[lY];have:=HC1.out;omega) HMX.out (oY.end sY (by rw[lY];have:=HC1.out;omega) HT.out.2.2.1 HT.out.2.2.2 HFY.out HT.out.2.1))
  have HB2:=Hi (HB.out.trans (h2w.below hBy hBx HWB.out))
  clear hX2 hY2 lX lY sX sY oX oY h2w HTK k0 k1 k2 k3 k4
  go_wp2_with fail
  go_fit HR1.out
  rintro e w3 ⟨⟨r1,rfl,ho1,_⟩,hw3⟩
  subst hw3
  have HO1:=Hi ho1
  clear ho1
  go_wp2_with fail
  go_fit HR2.out
  rintro e w3 ⟨⟨r2,rfl,ho2,_⟩,hw3⟩
  subst hw3
  have HO2:=Hi ho2
  clear ho2
  go_wp2
  go_ret2
  exact⟨⟨gy,gx,cy,cx,X2,Y2,r1,r2,rfl,HO1.out,HO2.out,.inr ⟨rfl,rfl⟩⟩,HB2.out⟩
theorem U64.uniq{w:World}{a:Option Addr}{c c':Nat}{l l':List Nat}{n n':Nat}(h:U64 w a c l n)(k:U64 w a c' l' n')(hl:l.length=l'.length):n=n':=by
 have e:l=l':=by
  apply List.ext_getElem hl
  intro i h1 h2
  obtain⟨b,off,e1,_,d1⟩:=h.row.cell i h1
  obtain⟨b',off',e2,_,d2⟩:=k.row.cell i h2
  rw[e1] at e2
  obtain⟨rfl,rfl⟩:b=b'∧off=off':=by simp at e2;exact e2
  rw[d1] at d2
  simp only[Option.some.injEq,Value.int.injEq,true_and] at d2
  have d3:l.getD i 0=l'.getD i 0:=by omega
  rw[List.getD_eq_getElem?_getD,List.getD_eq_getElem?_getD,List.getElem?_eq_getElem h1,List.getElem?_eq_getElem h2] at d3
  simpa using d3
 rw[←h.num.eq,←k.num.eq,e]
open Classical in
theorem Qnc:∃f:World→Value→Nat,∀(w:World) (a:Option Addr) (c:Nat) (l:List Nat) (n:Nat),U64 w a c l n→f w (.slice a l.length c)=n:=by
 have h:∀(w:World) (v:Value),∃n:Nat,∀(a:Option Addr) (c:Nat) (l:List Nat) (m:Nat),v=.slice a l.length c→U64 w a c l m→n=m:=by
  intro w v
  by_cases hx:∃n a c l,v=.slice a (List.length l) c∧U64 w a c l n
  ·
   obtain⟨n,a,c,l,rfl,hu⟩:=hx
   refine⟨n,fun a' c' l' m e hm=>?_⟩
   simp only[Value.slice.injEq] at e
   obtain⟨rfl,e2,rfl⟩:=e
   exact hu.uniq hm e2
  · exact⟨0,fun a c l m e hm=>absurd ⟨m,a,c,l,e,hm⟩ hx⟩
 have h2:∀p:World × Value,∃n:Nat,∀(a:Option Addr) (c:Nat) (l:List Nat) (m:Nat),p.2=.slice a l.length c→U64 p.1 a c l m→n=m:=fun p=>h p.1 p.2
 obtain⟨f,hf⟩:=Classical.axiomOfChoice h2
 exact⟨fun w v=>f (w,v),fun w a c l n hu=>hf (w,.slice a l.length c) a c l n rfl hu⟩
theorem U64.len_mono{w w':World}{a b:Option Addr}{c d:Nat}{l m:List Nat}{x y:Nat}(h:U64 w a c l x)(k:U64 w' b d m y)(hxy:x≤y):l.length≤m.length:=
 h.num.length_le_of_lt (by decide) (Nat.lt_of_le_of_lt hxy (by have:=Qab (B:=18446744073709551616) (by decide) k.num.small;rw[k.num.eq] at this;exact this))
theorem Qnd{l:List Nat}{x:Nat}(h:Num 18446744073709551616 l x)(h1:l.length=1):l.getD 0 0=x:=by
 rw[←h.eq]
 match l,h1 with
 | [z],_=>simp[val]
structure HoldsC (w:World) (p:Addr) (v:Value) (wl:World):Prop where
 b:Below w.heap.size w wl
 c:wl.cell? p=some v
theorem HoldsC.drew{w:World}{p:Addr}{v:Value}{wl:World}(h:HoldsC w p v wl):HoldsC w p v wl.drew:=⟨h.b.drew,h.c⟩
theorem HoldsC.below{w:World}{p:Addr}{v:Value}{wl w':World}(h:HoldsC w p v wl)(hp:p.block<w.heap.size)(k:Below wl.heap.size wl w'):HoldsC w p v w':=
 ⟨h.b.trans (k.mono h.b.size),(k.cell (Nat.lt_of_lt_of_le hp h.b.size)).trans h.c⟩
theorem Qne(w:World)(pa:Addr)(v:Value)(hp:pa.block<w.heap.size)(a:Option Addr)(cap d:Nat)(l:List Nat)(x:Nat)(h:U64 w a cap l x)(hd0:0<d)(hd:d<18446744073709551616)(wl:World)(hw:HoldsC w pa v wl):
 Calls Tryz.prog 267 #[.slice a l.length cap,.int .u64 d] wl fun e w'=>e=.returned (.int .u64 ((x % d:Nat):Int))∧HoldsC w pa v w'∧Below wl.heap.size wl w':=by
 refine(Qno a cap d l x wl (h.below hw.b) hd0 hd).mono ?_
 rintro e w' ⟨rfl,hb⟩
 exact⟨rfl,hw.below hp hb,hb⟩
theorem Qnf(w:World)(pa:Addr)(v:Value)(hp:pa.block<w.heap.size)(x y:Nat)(hx:x<18446744073709551616)(hy:y<18446744073709551616)(wl:World)(hw:HoldsC w pa v wl):
 Calls Tryz.prog 266 #[.int .u64 x,.int .u64 y] wl fun e w'=>e=.returned (.int .u64 ((Nat.gcd x y:Nat):Int))∧HoldsC w pa v w'∧Below wl.heap.size wl w':=by
 refine(Qnn x y wl hx hy).mono ?_
 rintro e w' ⟨rfl,hb⟩
 exact⟨rfl,hw.below hp hb,hb⟩
theorem Qng{w w4:World}{G:Nat}(h:Below w.heap.size w w4)(h0:0<G)(hb:G<18446744073709551616):Nat64 w G (.returned (.slice (some ⟨w4.heap.size,0,none⟩) 1 1)) (w4.alloc (.cells #[.int .u64 G] 222)):=by
 have hB:Blk .u64 222 (w4.alloc (.cells (wordCells .u64 [G]) 222)) w4.heap.size [G]:=Blk.new _ _ _ _
 exact⟨⟨some ⟨w4.heap.size,0,none⟩,1,[G],rfl,hB.row 1 (by simp) 1 (by omega),⟨fun d hd=>by simp at hd;omega,.inr (by simp;omega),by simp[val]⟩,by simp⟩,h.alloc h.size _⟩
def Own2(B:Nat)(w:World)(a b:Option Addr)(c d:Nat)(l m:List Nat)(p q:Nat):Prop:=∃g1 g2 C1 C2,a=some ⟨g1,0,none⟩∧b=some ⟨g2,0,none⟩∧ON w g1 c C1 l p∧ON w g2 d C2 m q∧g1≠g2∧B≤g1∧B≤g2
theorem Qhi{w w':World}{a:Option Addr}{cap cap' g x:Nat}{l:List Nat}(h:U64 w a cap l x)(hp:Pre w' g l)(hc:l.length≤cap'):ON w' g cap' l l x:=⟨hp,h.num.small,h.short,List.take_length,h.num,hc⟩
set_option maxRecDepth 100000 in
set_option maxHeartbeats 1000000 in
theorem Qnh(a1 a2:Option Addr)(c1 c2:Nat)(l m:List Nat)(x y:Nat)(w:World)(h1:U64 w a1 c1 l x)(h2:U64 w a2 c2 m y)(hl:l.length<1099511627770)(hm:m.length<1099511627770):
 Calls Tryz.prog 214 #[.slice a1 l.length c1,.slice a2 m.length c2] w (Nat64 w (Nat.gcd x y)):=by
 have HC:=Hi (Qcj a1 a2 c1 c2 l m x y w h1 h2)
 obtain⟨G,hG⟩:∃G,Nat.gcd x y=G:=⟨_,rfl⟩
 rw[hG]
 have H1:=Hi h1
 have H2:=Hi h2
 have HG:=Hi hG
 clear h1 h2 hG
 obtain⟨natAt,hna⟩:=Qnc
 have HNA:=Hi hna
 clear hna
 go_enter Tryz.func214,Tryz.ntmps214
 go_wp2_with fail
 go_fit HC.out
 rintro e w1 ⟨rfl,hb⟩
 have HB:=Hi hb
 clear hb HC
 go_upto_if 11 with fail
 go_cut [0,1] (fun xv yv wr=>∃(p q:Nat) (a b:Option Addr) (c d:Nat) (l m:List Nat),xv=.slice a l.length c∧yv=.slice b m.length d∧q≤p∧l.length<1099511627770∧U64 w a c l p∧U64 w b d m q∧Nat.gcd p q=G∧wr=w1)
 case first=>
  by_cases hlt:x<y
  ·
   have hcmp:cmp3 x y<0:=(Qaw x y).2 hlt
   go_wp2_with fail
   go_meet
   case rel=>exact⟨y,x,a2,a1,c2,c1,m,l,rfl,rfl,by omega,hm,H2.out,H1.out,(Nat.gcd_comm y x).trans HG.out,rfl⟩
  ·
   have hcmp:¬(cmp3 x y<0):=fun h=>by have:=(Qaw x y).1 h;omega
   go_wp2_with fail
   go_meet
   case rel=>exact⟨x,y,a1,a2,c1,c2,l,m,rfl,rfl,by omega,hl,H1.out,H2.out,HG.out,rfl⟩
 case rest=>
 clear hl hm H1 H2 HG
 obtain⟨wx,rfl⟩:∃wx,wx=wc:=⟨wc,rfl⟩
 obtain⟨p,q,a,b,c,d,l,m,rfl,rfl,hqp,hlen,hu1,hu2,hg,rfl⟩:=hcut
 have HX:=Hi hu1
 have HY:=Hi hu2
 have HG:=Hi hg
 clear hu1 hu2 hg
 go_upto_if 16 with fail
 go_cut [0,1] (fun xv yv wr=>∃(p q:Nat) (a b:Option Addr) (c d:Nat) (l m:List Nat),xv=.slice a l.length c∧yv=.slice b m.length d∧q≤p∧l.length<1099511627770∧U64 wr a c l p∧U64 wr b d m q∧Nat.gcd p q=G∧(1<m.length→Own2 w.heap.size wr a b c d l m p q)∧Below w.heap.size w wr)
 case first=>
  by_cases hl1:1<m.length
  ·
   have hli:(1:Int)<(m.length:Int):=by omega
   have hll:m.length≤l.length:=HY.out.len_mono HX.out hqp
   have HK1:=Hi (Qex a c l p wx (HX.out.below HB.out) (by omega))
   go_wp2_with fail
   go_fit HK1.out
   rintro e w2 ⟨⟨g1,d1,rfl,hd1,hg1,hp1⟩,hb2⟩
   have HK2:=Hi (Qex b d m q w2 ((HY.out.below HB.out).below hb2) (by omega))
   have HP1:=Hi hp1
   have HB2:=Hi (HB.out.trans (hb2.mono HB.out.size))
   have hg1':w.heap.size≤g1:=by have:=HB.out.size;omega
   clear hp1 hb2 HK1
   go_wp2_with fail
   go_fit HK2.out
   rintro e w3 ⟨⟨g2,d2,rfl,hd2,hg2,hp2⟩,hb3⟩
   have HO1:=Hi (Qhi HX.out (HP1.out.below hb3 HP1.out.lt) hd1)
   have HO2:=Hi (Qhi HY.out hp2 hd2)
   have hgg:g1<g2:=by have:=HP1.out.lt;omega
   have HB3:=Hi (HB2.out.trans (hb3.mono HB2.out.size))
   clear hp2 hb3 HK2
   go_wp2_with fail
   go_meet
   case rel=>exact⟨p,q,some ⟨g1,0,none⟩,some ⟨g2,0,none⟩,d1,d2,l,m,rfl,rfl,hqp,(by omega),HO1.out.u64,HO2.out.u64,HG.out,(fun _=>⟨g1,g2,l,m,rfl,rfl,HO1.out,HO2.out,(by omega),hg1',(by omega)⟩),HB3.out⟩
  ·
   have hli:¬((1:Int)<(m.length:Int)):=by omega
   go_wp2_with fail
   go_meet
   case rel=>exact⟨p,q,a,b,c,d,l,m,rfl,rfl,hqp,(by omega),HX.out.below HB.out,HY.out.below HB.out,HG.out,(fun h=>absurd h hl1),HB.out⟩
 case rest=>
 clear hqp hlen HX HY HG HB
 obtain⟨wy,rfl⟩:∃wy,wy=wc:=⟨wc,rfl⟩
 have HCUT:=Hi hcut
 clear hcut
 go_wp2_with fail
 go_loopw [0,1] (fun xv yv wr=>∃(p q:Nat) (a b:Option Addr) (c d:Nat) (l m:List Nat),xv=.slice a l.length c∧yv=.slice b m.length d∧q≤p∧l.length<1099511627770∧U64 wr a c l p∧U64 wr b d m q∧Nat.gcd p q=G∧(1<m.length→Own2 w.heap.size wr a b c d l m p q)∧Below w.heap.size w wr) (fun xv yv wr=>natAt wr xv+natAt wr yv)
 case atStart=>exact HCUT.out
 case round=>
  obtain⟨p,q,a,b,c,d,l,m,rfl,rfl,hqp,hlen,hu1,hu2,hg,how,hb⟩:=hrel
  have HOW:=Hi how
  clear how
  have hml:=hu2.len_mono hu1 hqp
  have HU1:=Hi hu1
  have HU2:=Hi hu2
  have HGG:=Hi hg
  have HBB:=Hi hb
  by_cases hm1:m.length≤1
  ·
   have hmi:¬(1:Int)<(m.length:Int):=by omega
   by_cases hq0:q=0
   ·
    have hm0:((m.length:Int) == 0)=true:=by have:=(hu2.num.len_zero (by decide)).1 hq0;simp[this]
    have HQ:=Hi hq0
    clear hu1 hu2 hg hb hq0
    go_wp2
    go_ret
    have e1:=HGG.out
    rw[HQ.out,Nat.gcd_zero_right] at e1
    exact⟨⟨a,c,l,rfl,by rw[←e1];exact HU1.out⟩,HBB.out⟩
   ·
    have hm0:((m.length:Int) == 0)=false:=by
     rw[beq_eq_false_iff_ne]
     have:=(hu2.num.len_zero (by decide)).2
     omega
    have hm1':m.length=1:=by have:=(hu2.num.len_zero (by decide)).2;omega
    have HO:=Hi (Qci b d m q wr hu2)
    by_cases hq1:q=1
    ·
     rw[show decide (q=1)=true by simpa using hq1] at HO
     have HQ:=Hi hq1
     clear hu1 hu2 hg hb hq0 hq1 hm1'
     go_wp2_with fail
     go_fit HO.out
     rintro e w2 ⟨rfl,hw⟩
     subst hw
     go_wp2
     go_ret
     have e1:=HGG.out
     rw[HQ.out,Nat.gcd_one_right] at e1
     exact⟨⟨b,d,m,rfl,by rw[←e1,←HQ.out];exact HU2.out⟩,HBB.out⟩
    ·
     rw[show decide (q=1)=false by simpa using hq1] at HO
     obtain⟨b',off,rfl,hb1,hc1⟩:=hu2.row.cell 0 (by omega)
     have hqd:=Qnd hu2.num hm1'
     rw[hqd,Nat.add_zero] at hc1
     have hqb:q<18446744073709551616:=by rw[←hqd];exact hu2.num.small.getD (by omega) 0
     have HQD:=Hi hqd
     have HR:=Hi (Qne wr ⟨b',off,none⟩ (.int .u64 q) hb1 a c q l p hu1 (by omega) hqb)
     obtain⟨r,hr⟩:∃r,p % q=r:=⟨_,rfl⟩
     rw[hr] at HR
     have hrq:r<q:=by rw[←hr];exact Nat.mod_lt _ (by omega)
     have HRE:=Hi hr
     have HQ1:=Hi hq1
     have HQ0:=Hi hq0
     clear hu1 hu2 hg hb hq1 hqd hr hq0 hm1'
     go_wp2_with fail
     go_fit HO.out
     rintro e w2 ⟨rfl,hw⟩
     subst hw
     go_wp2_with fail
     have HI:Hid (HoldsC w2 ⟨b',off,none⟩ (.int .u64 q) w2):=Hi ⟨Below.refl _ _,hc1⟩
     have i0:(0:Int)<(m.length:Int):=by have:=(HU2.out.num.len_zero (by decide)).2;have:=HQ0.out;omega
     have hGE:Hid (Nat.gcd q r=G):=Hi (by rw[←HGG.out,←HRE.out];exact Qbn p q)
     have HW:=Hi (Qnf w2 ⟨b',off,none⟩ (.int .u64 q) hb1 q r hqb (by omega))
     have i0':0<m.length:=by omega
     rw[hGE.out] at HW
     go_region_held3 (fun w'=>w'.cell? ⟨b',off,none⟩=some (.int .u64 q)) ((first|(simp [*];done)|exact(((Below.refl _ w4).alloc (Nat.le_refl _) _).cell (p:=⟨b',off,none⟩) z4).trans k0)) (first
      |(
       go_at_call 267
       first
        |go_fit (HR.out _ HI.out)
        |go_fit (HR.out _ HI.out.drew)
       rintro e w3 ⟨rfl,hi,hb⟩
       have k0:=hi.c
       have HI3:=Hi hi
       clear hi hb)
      |(
       go_at_call 266
       first
        |go_fit (HW.out _ HI3.out)
        |go_fit (HW.out _ HI3.out.drew)
       rintro e w4 ⟨rfl,hi,hb⟩
       have k0:=hi.c
       have z4:b'<w4.heap.size:=Nat.lt_of_lt_of_le hb1 hi.b.size
       have z5:b'≠w4.heap.size:=Nat.ne_of_lt z4
       have HI4:=Hi hi
       clear hi hb))
     all_goals
      go_wp2
      go_ret
      have hG0:0<G:=by rw[←hGE.out];exact Nat.gcd_pos_of_pos_left _ (by have:=HQ0.out;omega)
      have hGb:G<18446744073709551616:=by rw[←hGE.out];exact Nat.lt_of_le_of_lt (Nat.gcd_le_left _ (by have:=HQ0.out;omega)) hqb
      exact Qng (HBB.out.trans (HI4.out.b.mono HBB.out.size)) hG0 hGb
  ·
   have hmi:(1:Int)<(m.length:Int):=by omega
   have hq0:0<q:=by
    rcases Nat.eq_zero_or_pos q with h0|h0
    · have:=(hu2.num.len_zero (by decide)).1 h0;omega
    · exact h0
   obtain⟨g1,g2,C1,C2,rfl,rfl,ho1,ho2,hn12,hB1,hB2⟩:=HOW.out (by omega)
   have HO1:=Hi ho1
   have HO2:=Hi ho2
   have HM:=Hi (Qnp (some ⟨g1,0,none⟩) (some ⟨g2,0,none⟩) c d (l.length - 2) l m p q wr hu1 hu2 hqp (by omega))
   clear hu1 hu2 hg hb ho1 ho2 HOW
   go_wp2_with fail
   go_fit HM.out
   rintro e w2 ⟨⟨odd,xx,xy,yx,yy,rfl,hS⟩,hb2⟩
   have HS:=Hi hS
   have HB2:=Hi hb2
   have HN:=Hi (Qnq odd xx xy yx yy)
   clear hS hb2 HM
   unfold StepsVal
   unfold StepsVal at HN
   by_cases hxy0:xy=0
   ·
    rw[show decide (xy=0)=true by simpa using hxy0] at HN
    clear hxy0
    go_wp2_with fail
    go_fit (HN.out _)
    rintro e w3 ⟨rfl,hb3⟩
    have HB3:Hid (Below wr.heap.size wr w3):=Hi ((HB2.out.alloc HB2.out.size _).trans (hb3.mono (HB2.out.alloc HB2.out.size _).size))
    clear hb3 HN
    have HD:=Hi (Qhh (some ⟨g1,0,none⟩) (some ⟨g2,0,none⟩) c d (m.length - 2) l m p q w3 (HU1.out.below HB3.out) (HU2.out.below HB3.out) hqp (by omega) hlen)
    go_wp2_with fail
    go_fit HD.out
    rintro e w4 ⟨⟨aq,cq,lq,gr,cr,Cr,lr,rfl,huq,hor,hgr⟩,hb4⟩
    have HB4:Hid (Below wr.heap.size wr w4):=Hi (HB3.out.trans (hb4.mono HB3.out.size))
    have hur:=hor.u64
    have HUR:=Hi hur
    have HO2':=Hi (HO2.out.below HB4.out)
    have HOR:=Hi hor
    have hgr2:g2<gr:=by have:=HO2.out.pre.lt;have:=HB3.out.size;omega
    clear hor
    have hmod:=Nat.mod_lt p hq0
    have HU2':=Hi (HU2.out.below HB4.out)
    have m1:=HNA.out _ _ _ _ _ HU1.out
    have m2:=HNA.out _ _ _ _ _ HU2.out
    have m3:=HNA.out _ _ _ _ _ HU2'.out
    have m4:=HNA.out _ _ _ _ _ HUR.out
    have HM1:=Hi m1
    have HM2:=Hi m2
    have HM3:=Hi m3
    have HM4:=Hi m4
    clear huq hur hb4 HD m1 m2 m3 m4
    go_wp2
    refine⟨⟨q,p % q,some ⟨g2,0,none⟩,some ⟨gr,0,none⟩,d,cr,m,lr,rfl,rfl,by omega,by omega,HU2'.out,HUR.out,(Qbn p q).trans HGG.out,fun _=>⟨g2,gr,C2,Cr,rfl,rfl,HO2'.out,HOR.out,by omega,hB2,by omega⟩,HBB.out.trans (HB4.out.mono HBB.out.size)⟩,?_⟩
    rw[HM1.out,HM2.out,HM3.out,HM4.out]
    omega
   ·
    rw[show decide (xy=0)=false by simpa using hxy0] at HN
    obtain⟨X,Y,hL⟩:=HS.out.go (by omega)
    have HL:=Hi hL
    have hless:=hL.less hq0
    have hLE:=hL.le
    have HLG:=Hi hL.gcd
    clear hL hxy0
    go_wp2_with fail
    go_fit (HN.out _)
    rintro e w3 ⟨rfl,hb3⟩
    have HB3:Hid (Below wr.heap.size wr w3):=Hi ((HB2.out.alloc HB2.out.size _).trans (hb3.mono (HB2.out.alloc HB2.out.size _).size))
    have HS3:=Hi ((SB.new w2 _ _).below hb3 (by rw[World.size_alloc];omega))
    clear hb3 HN
    have k0:=HS3.out.cell 0
    have k1:=HS3.out.cell 1
    have k2:=HS3.out.cell 2
    have k3:=HS3.out.cell 3
    have k4:=HS3.out.cell 4
    simp at k0 k1 k2 k3 k4
    have HD:=Hi (Qnr odd xx xy yx yy g1 g2 c d C1 C2 l m p q X Y w3 (HO1.out.below HB3.out) (HO2.out.below HB3.out) hn12 hqp HS.out HL.out hq0 w.heap.size hB1 hB2)
    go_wp2_with fail
    go_fit HD.out
    rintro e w4 ⟨⟨ga,gb,ca,cb,Ca,Cb,la,lb,rfl,hoa,hob,hgab⟩,hb4⟩
    have HB4:Hid (Below w.heap.size w w4):=Hi ((HBB.out.trans (HB3.out.mono HBB.out.size)).trans hb4)
    have huq:=hoa.u64
    have hur:=hob.u64
    have HOA:=Hi hoa
    have HOB:=Hi hob
    have hgs:ga≠gb∧w.heap.size≤ga∧w.heap.size≤gb:=by omega
    clear hoa hob hgab
    have HUQ:=Hi huq
    have HUR:=Hi hur
    have HM1:=Hi (HNA.out _ _ _ _ _ HU1.out)
    have HM2:=Hi (HNA.out _ _ _ _ _ HU2.out)
    have HM3:=Hi (HNA.out _ _ _ _ _ HUQ.out)
    have HM4:=Hi (HNA.out _ _ _ _ _ HUR.out)
    have hql:=huq.len_mono HU2.out hless.1
    clear huq hur hb4 HD
    go_wp2
    refine⟨⟨X,Y,some ⟨ga,0,none⟩,some ⟨gb,0,none⟩,ca,cb,la,lb,rfl,rfl,by omega,by omega,HUQ.out,HUR.out,HLG.out.trans HGG.out,fun _=>⟨ga,gb,Ca,Cb,rfl,rfl,HOA.out,HOB.out,hgs.1,hgs.2.1,hgs.2.2⟩,HB4.out⟩,?_⟩
    rw[HM1.out,HM2.out,HM3.out,HM4.out]
    omega
theorem Qgl(neg:Bool):sgn neg 0=0:=by cases neg<;>simp[sgn]
theorem Qlj{neg:Bool}{t:Nat}(h:0<t):decide (sgn neg t<0)=neg:=by cases neg<;>simp[sgn]<;>omega
theorem Qbh(x:Int):sgn (decide (x<0)) x.natAbs=x:=by
 unfold sgn
 by_cases h:x<0
 · simp[h];omega
 · simp[h];omega
theorem Qbv(p q:Bool)(s t:Nat):sgn (p != q) (s*t)=sgn p s*sgn q t:=by cases p<;>cases q<;>simp[sgn]<;>grind
theorem Qlk(p:Bool)(s:Nat):sgn (!p) s= - sgn p s:=by cases p<;>simp[sgn]
theorem Qgm{neg:Bool}{t d:Nat}(hd:0<d)(hc:Nat.Coprime t d):(mkRat (sgn neg t) d).num=sgn neg t∧(mkRat (sgn neg t) d).den=d:=by
 have e:=Rat.mk_eq_mkRat (sgn neg t) d (by omega) (by rw[Qc7];exact hc)
 rw[←e]
 exact⟨rfl,rfl⟩
theorem Qll(x y:Rat){g h:Nat}(hg:Nat.gcd x.num.natAbs y.den=g)(hh:Nat.gcd y.num.natAbs x.den=h):
 mkRat (sgn (decide (x.num<0) != decide (y.num<0)) (x.num.natAbs / g*(y.num.natAbs / h))) (x.den / h*(y.den / g))=x*y∧Nat.Coprime (x.num.natAbs / g*(y.num.natAbs / h)) (x.den / h*(y.den / g)):=by
 have gp:0<g:=by rw[←hg];exact Nat.gcd_pos_of_pos_right _ y.den_pos
 have hp:0<h:=by rw[←hh];exact Nat.gcd_pos_of_pos_right _ x.den_pos
 have d1:g ∣ x.num.natAbs:=hg ▸ Nat.gcd_dvd_left _ _
 have d2:g ∣ y.den:=hg ▸ Nat.gcd_dvd_right _ _
 have d3:h ∣ y.num.natAbs:=hh ▸ Nat.gcd_dvd_left _ _
 have d4:h ∣ x.den:=hh ▸ Nat.gcd_dvd_right _ _
 have e1:=Nat.div_mul_cancel d1
 have e2:=Nat.div_mul_cancel d2
 have e3:=Nat.div_mul_cancel d3
 have e4:=Nat.div_mul_cancel d4
 constructor
 ·
  rw[←Qh4,←Rat.mkRat_mul_right (a:=g*h) (by have:=Nat.mul_pos gp hp;omega)]
  congr 1
  ·
   have k1:(sgn (decide (x.num<0)) (x.num.natAbs / g))*(g:Int)=x.num:=by
    have:=Qbv (decide (x.num<0)) false (x.num.natAbs / g) g
    rw[show sgn false g=(g:Int) from rfl,e1,Bool.bne_false,Qbh] at this
    exact this.symm
   have k2:(sgn (decide (y.num<0)) (y.num.natAbs / h))*(h:Int)=y.num:=by
    have:=Qbv (decide (y.num<0)) false (y.num.natAbs / h) h
    rw[show sgn false h=(h:Int) from rfl,e3,Bool.bne_false,Qbh] at this
    exact this.symm
   rw[Qbv,←k1,←k2,Int.natCast_mul]
   rw[k1,k2]
   conv=>rhs;rw[←k1,←k2]
   grind
  ·
   rw[Int.natAbs_mul,Int.natAbs_natCast,Int.natAbs_natCast]
   conv=>rhs;rw[←e4,←e2]
   grind
 ·
  have c1:Nat.Coprime (x.num.natAbs / g) (x.den / h):=Nat.Coprime.coprime_dvd_left (Nat.div_dvd_of_dvd d1) (Nat.Coprime.coprime_dvd_right (Nat.div_dvd_of_dvd d4) x.reduced)
  have c2:Nat.Coprime (x.num.natAbs / g) (y.den / g):=by have:=Nat.coprime_div_gcd_div_gcd (m:=x.num.natAbs) (n:=y.den) (by omega);rw[hg] at this;exact this
  have c3:Nat.Coprime (y.num.natAbs / h) (x.den / h):=by have:=Nat.coprime_div_gcd_div_gcd (m:=y.num.natAbs) (n:=x.den) (by omega);rw[hh] at this;exact this
  have c4:Nat.Coprime (y.num.natAbs / h) (y.den / g):=Nat.Coprime.coprime_dvd_left (Nat.div_dvd_of_dvd d3) (Nat.Coprime.coprime_dvd_right (Nat.div_dvd_of_dvd d2) y.reduced)
  exact Nat.Coprime.mul_left (Nat.Coprime.mul_right c1 c2) (Nat.Coprime.mul_right c3 c4)
theorem Qlm(x y:Rat){g h t:Nat}{neg:Bool}(hg:Nat.gcd x.den y.den=g)(ht:sgn neg t=x.num*((y.den / g:Nat):Int)+y.num*((x.den / g:Nat):Int))(hh:Nat.gcd t g=h):
 mkRat (sgn neg (t / h)) (x.den / g*(y.den / h))=x+y∧Nat.Coprime (t / h) (x.den / g*(y.den / h)):=by
 have gp:0<g:=by rw[←hg];exact Nat.gcd_pos_of_pos_right _ y.den_pos
 have hp:0<h:=by rw[←hh];exact Nat.gcd_pos_of_pos_right _ gp
 have d1:g ∣ x.den:=hg ▸ Nat.gcd_dvd_left _ _
 have d2:g ∣ y.den:=hg ▸ Nat.gcd_dvd_right _ _
 have d3:h ∣ t:=hh ▸ Nat.gcd_dvd_left _ _
 have d4:h ∣ g:=hh ▸ Nat.gcd_dvd_right _ _
 have e1:=Nat.div_mul_cancel d1
 have e2:=Nat.div_mul_cancel d2
 have e3:=Nat.div_mul_cancel d3
 have e4:=Nat.div_mul_cancel (Nat.dvd_trans d4 d2)
 have ta:t=(x.num*((y.den / g:Nat):Int)+y.num*((x.den / g:Nat):Int)).natAbs:=by rw[←ht,Qc7]
 constructor
 ·
  rw[←Qh5,←Rat.mkRat_mul_right (a:=h*g) (by have:=Nat.mul_pos hp gp;omega)]
  congr 1
  ·
   have k1:sgn neg (t / h)*(h:Int)=sgn neg t:=by
    have:=Qbv neg false (t / h) h
    rw[show sgn false h=(h:Int) from rfl,e3,Bool.bne_false] at this
    exact this.symm
   rw[Int.natCast_mul,←Int.mul_assoc,k1,ht]
   conv=>rhs;rw[←e1,←e2,Int.natCast_mul,Int.natCast_mul]
   grind
  ·
   rw[Int.natAbs_mul,Int.natAbs_natCast,Int.natAbs_natCast]
   conv=>rhs;rw[←e1,←e4]
   grind
 ·
  have aux:=Rat.add.aux x y hg.symm rfl rfl
  simp only[] at aux
  rw[←ta,hh] at aux
  have hc:=Nat.coprime_div_gcd_div_gcd (m:=t) (n:=x.den / g*y.den) (by rw[←aux];exact hp)
  rw[←aux,Nat.mul_div_assoc _ (Nat.dvd_trans d4 d2)] at hc
  exact hc
theorem Qgn{y:Rat}(hy:y≠0):mkRat (sgn (decide (y.num<0)) y.den) y.num.natAbs=y⁻¹∧Nat.Coprime y.den y.num.natAbs∧0<y.num.natAbs:=by
 have h0:y.num≠0:=fun h=>hy (Rat.num_eq_zero.1 h)
 refine⟨?_,Nat.Coprime.symm y.reduced,by omega⟩
 rw[Rat.inv_def]
 by_cases h:y.num<0
 · conv=>rhs;rw[show y.num= -((y.num.natAbs:Nat):Int) by omega,Rat.divInt_neg',Rat.divInt_ofNat]
   simp[sgn,h]
 ·
  conv=>rhs;rw[show y.num=((y.num.natAbs:Nat):Int) by omega]
  rw[Rat.divInt_ofNat]
  simp[sgn,h]
structure Ent where
 a:Option Addr
 n:Nat
 c:Nat
 x:Nat
 k:Nat
def NumV(w:World)(a:Option Addr)(n c x:Nat):Prop:=∃l,List.length l=n∧U64 w a c l x
theorem NumV.below{w w':World}{a:Option Addr}{n c x:Nat}(h:NumV w a n c x)(hb:Below w.heap.size w w'):NumV w' a n c x:=by
 obtain⟨l,hl,h⟩:=h;exact⟨l,hl,h.below hb⟩
theorem NumV.zero_iff{w:World}{a:Option Addr}{n c x:Nat}(h:NumV w a n c x):x=0↔n=0:=by
 obtain⟨l,rfl,h⟩:=h
 exact h.num.len_zero (by decide)
theorem U64.len_bits{w:World}{a:Option Addr}{c:Nat}{l:List Nat}{n k:Nat}(h:U64 w a c l n)(hn:n<2 ^ k):l.length≤k:=by
 apply h.num.length_le_of_lt (by decide)
 refine Nat.lt_of_lt_of_le hn ?_
 exact Nat.pow_le_pow_left (by decide) k
theorem NumV.some{w:World}{a:Option Addr}{n c x:Nat}(h:NumV w a n c x)(h0:0<x):∃b o,a=some ⟨b,o,none⟩:=by
 have hn:n≠0:=fun hc=>by have:=h.zero_iff.2 hc;omega
 obtain⟨l,hl,h⟩:=h
 obtain⟨b,o,e,_⟩:=h.row.cell 0 (by omega)
 exact⟨b,o,e⟩
structure NBag (w0 w:World) (L:List Ent):Prop where
 base:Below w0.heap.size w0 w
 ts:∀t,t∈ L→NumV w t.a t.n t.c t.x∧t.x<2 ^ t.k
theorem NBag.below{w0 w w':World}{L:List Ent}(h:NBag w0 w L)(hb:Below w.heap.size w w'):NBag w0 w' L:=
 ⟨h.base.trans (hb.mono h.base.size),fun t ht=>⟨(h.ts t ht).1.below hb,(h.ts t ht).2⟩⟩
theorem NBag.drew{w0 w:World}{L:List Ent}(h:NBag w0 w L):NBag w0 w.drew L:=h.below (Below.refl _ _).drew
theorem NBag.alloc{w0 w:World}{L:List Ent}(h:NBag w0 w L)(o:Obj):NBag w0 (w.alloc o) L:=h.below ((Below.refl _ _).alloc (Nat.le_refl _) _)
theorem NBag.put{w0 w:World}{L:List Ent}{a:Option Addr}{n c x k:Nat}(h:NBag w0 w L)(hv:NumV w a n c x)(hk:x<2 ^ k):NBag w0 w (⟨a,n,c,x,k⟩ :: L):=
 ⟨h.base,fun t ht=>by
   rcases List.mem_cons.1 ht with rfl|ht
   · exact⟨hv,hk⟩
   · exact h.ts t ht⟩
theorem NBag.get{w0 w:World}{L:List Ent}{a:Option Addr}{n c x k:Nat}(h:NBag w0 w L)(hx:⟨a,n,c,x,k⟩∈ L):NumV w a n c x∧x<2 ^ k:=h.ts _ hx
def NNew(w0:World)(L:List Ent)(x k:Nat)(e:Ending)(w':World):Prop:=∃a n c,e=.returned (.slice a n c)∧NBag w0 w' (⟨a,n,c,x,k⟩ :: L)
theorem NBag.new{w0 w w':World}{L:List Ent}{x k:Nat}{e:Ending}(h:NBag w0 w L)(hn:(∃a cap r,e=.returned (.slice a (List.length r) cap)∧U64 w' a cap r x)∧Below w.heap.size w w')(hk:x<2 ^ k):NNew w0 L x k e w':=by
 obtain⟨⟨a,c,r,rfl,hu⟩,hb⟩:=hn
 exact⟨a,r.length,c,rfl,(h.below hb).put ⟨r,rfl,hu⟩ hk⟩
theorem NBag.gcd{w0 w:World}{L:List Ent}{a1 a2:Option Addr}{n1 n2 c1 c2 x y j k:Nat}(h:NBag w0 w L)(hx:⟨a1,n1,c1,x,j⟩∈ L)(hy:⟨a2,n2,c2,y,k⟩∈ L)(hj:j+k<274877906000):
 Calls Tryz.prog 214 #[.slice a1 n1 c1,.slice a2 n2 c2] w (NNew w0 L (Nat.gcd x y) (j+k)):=by
 obtain⟨⟨l,rfl,h1⟩,hb1⟩:=h.get hx
 obtain⟨⟨m,rfl,h2⟩,hb2⟩:=h.get hy
 refine(Qnh a1 a2 c1 c2 l m x y w h1 h2 (by have:=h1.len_bits hb1;omega) (by have:=h2.len_bits hb2;omega)).mono fun e w' hn=>h.new hn ?_
 have e1:2 ^ j≤2 ^ (j+k):=Nat.pow_le_pow_right (by decide) (by omega)
 have e2:2 ^ k≤2 ^ (j+k):=Nat.pow_le_pow_right (by decide) (by omega)
 rcases Nat.eq_zero_or_pos x with h0|h0
 · subst h0;rw[Nat.gcd_zero_left];omega
 · have:=Nat.gcd_le_left y h0;omega
theorem NBag.quot{w0 w:World}{L:List Ent}{a1 a2:Option Addr}{n1 n2 c1 c2 x y j k:Nat}(h:NBag w0 w L)(hx:⟨a1,n1,c1,x,j⟩∈ L)(hy:⟨a2,n2,c2,y,k⟩∈ L)(hj:j<274877906000)(h0:0<y):
 Calls Tryz.prog 215 #[.slice a1 n1 c1,.slice a2 n2 c2] w (NNew w0 L (x / y) j):=by
 obtain⟨⟨l,rfl,h1⟩,hb1⟩:=h.get hx
 obtain⟨⟨m,rfl,h2⟩,hb2⟩:=h.get hy
 refine(Qnm a1 a2 c1 c2 l m x y w h1 h2 h0 (by have:=h1.len_bits hb1;omega)).mono fun e w' hn=>h.new hn ?_
 exact Nat.lt_of_le_of_lt (Nat.div_le_self _ _) hb1
theorem NBag.mul{w0 w:World}{L:List Ent}{a1 a2:Option Addr}{n1 n2 c1 c2 x y j k:Nat}(h:NBag w0 w L)(hx:⟨a1,n1,c1,x,j⟩∈ L)(hy:⟨a2,n2,c2,y,k⟩∈ L)(hj:j+k<274877906000):
 Calls Tryz.prog 217 #[.slice a1 n1 c1,.slice a2 n2 c2] w (NNew w0 L (x*y) (j+k)):=by
 obtain⟨⟨l,rfl,h1⟩,hb1⟩:=h.get hx
 obtain⟨⟨m,rfl,h2⟩,hb2⟩:=h.get hy
 exact(Qhp a1 a2 c1 c2 l m x y w h1 h2 (by have:=h1.len_bits hb1;have:=h2.len_bits hb2;omega)).mono fun e w' hn=>h.new hn (Qb4 hb1 hb2)
theorem NBag.add{w0 w:World}{L:List Ent}{a1 a2:Option Addr}{n1 n2 c1 c2 x y j k:Nat}(h:NBag w0 w L)(hx:⟨a1,n1,c1,x,j⟩∈ L)(hy:⟨a2,n2,c2,y,k⟩∈ L)(hj:j+k<274877906000):
 Calls Tryz.prog 268 #[.slice a1 n1 c1,.slice a2 n2 c2] w (NNew w0 L (x+y) (j+k+1)):=by
 obtain⟨⟨l,rfl,h1⟩,hb1⟩:=h.get hx
 obtain⟨⟨m,rfl,h2⟩,hb2⟩:=h.get hy
 refine(Qm1 a1 a2 c1 c2 l m x y w h1 h2 (by have:=h1.len_bits hb1;omega) (by have:=h2.len_bits hb2;omega)).mono fun e w' hn=>h.new hn ?_
 have e1:2 ^ j≤2 ^ (j+k):=Nat.pow_le_pow_right (by decide) (by omega)
 have e2:2 ^ k≤2 ^ (j+k):=Nat.pow_le_pow_right (by decide) (by omega)
 have e3:(2:Nat) ^ (j+k+1)=2 ^ (j+k)*2:=Nat.pow_succ _ _
 have e4:x<2 ^ j:=hb1
 have e5:y<2 ^ k:=hb2
 omega
theorem NBag.sub{w0 w:World}{L:List Ent}{a1 a2:Option Addr}{n1 n2 c1 c2 x y j k:Nat}(h:NBag w0 w L)(hx:⟨a1,n1,c1,x,j⟩∈ L)(hy:⟨a2,n2,c2,y,k⟩∈ L)(hyx:y≤x):
 Calls Tryz.prog 269 #[.slice a1 n1 c1,.slice a2 n2 c2] w (NNew w0 L (x - y) j):=by
 obtain⟨⟨l,rfl,h1⟩,hb1⟩:=h.get hx
 obtain⟨⟨m,rfl,h2⟩,hb2⟩:=h.get hy
 exact(Qm2 a1 a2 c1 c2 l m x y w h1 h2 hyx).mono fun e w' hn=>h.new hn (Nat.lt_of_le_of_lt (Nat.sub_le _ _) hb1)
theorem NBag.compare{w0 w:World}{L:List Ent}{a1 a2:Option Addr}{n1 n2 c1 c2 x y j k:Nat}(h:NBag w0 w L)(hx:⟨a1,n1,c1,x,j⟩∈ L)(hy:⟨a2,n2,c2,y,k⟩∈ L):
 Calls Tryz.prog 259 #[.slice a1 n1 c1,.slice a2 n2 c2] w (fun e w'=>e=.returned (.int .i64 (cmp3 x y))∧NBag w0 w' L):=by
 obtain⟨⟨l,rfl,h1⟩,hb1⟩:=h.get hx
 obtain⟨⟨m,rfl,h2⟩,hb2⟩:=h.get hy
 refine(Qcj a1 a2 c1 c2 l m x y w h1 h2).mono ?_
 rintro e w' ⟨rfl,hb⟩
 exact⟨rfl,h.below hb⟩
end Go.Proofs.YtgnmjaponiclhaaGreatDoor
