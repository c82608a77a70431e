/- rafterlaw's ForceTurns. -/
import Derived.Test.YtbbkamnfjejceaaGreatDoorT46LawA
namespace Go.Proofs.YtbbkamnfjejceaaGreatDoor
open Go
set_option linter.unusedVariables false
theorem Ql2(ds:List Nat)(h:Small 10 ds):decVal (ds.reverse.map (fun d=>UInt8.ofNat (48+d)))=val 10 ds:=by
 induction ds with
 |nil=>rfl
 |cons d l ih=>
  have h1:=h d (List.mem_cons_self ..);have h2:=ih fun e he=>h e (List.mem_cons_of_mem _ he)
  have h3:(UInt8.ofNat (48+d)).toNat=48+d:=by
   rw[UInt8.toNat_ofNat'];omega
  rw[List.reverse_cons,List.map_append,List.map_cons,List.map_nil,Qb9,h2,h3,Qa7];omega
theorem IsDec.dig{l:List UInt8}{n:Nat}(h:IsDec l n):IsDig l∧decVal l=n:=by
 rcases h with ⟨rfl,rfl⟩|⟨h0,ds,hd,rfl⟩
 · exact⟨⟨by decide,fun c hc=>by simp at hc;subst hc;decide⟩,by decide⟩
 ·
  refine⟨⟨?_,?_⟩,by rw[Ql2 ds hd.small];exact hd.eq⟩
  ·
   intro hn;have:ds= []:=by simpa using hn
   subst this;exact h0 (by rw[←hd.eq];rfl)
  ·
   intro c hc;obtain⟨d,hm,rfl⟩:=List.mem_map.1 hc;have h1:=hd.small d (by simpa using hm);rw[UInt8.toNat_ofNat'];omega
theorem Ql3{l:List UInt8}(h:AllDigits l):Lib.index l [47]= -1:=by
 induction l with
 |nil=>rfl
 |cons c l ih=>
  have h1:=h c (List.mem_cons_self ..);have h2:=ih fun d hd=>h d (List.mem_cons_of_mem _ hd)
  have h3:((47:UInt8) == c)=false:=by
   rw[beq_eq_false_iff_ne];rintro rfl;exact absurd h1.1 (by decide)
  unfold Lib.index;rw[h2];simp[List.isPrefixOf,h3]
theorem Ql4{l:List UInt8}(d:List UInt8)(h:AllDigits l):Lib.index (l++47 :: d) [47]=l.length:=by
 induction l with
 |nil=>simp[Lib.index,List.isPrefixOf]
 |cons c l ih=>
  have h1:=h c (List.mem_cons_self ..);have h2:=ih fun d hd=>h d (List.mem_cons_of_mem _ hd)
  have h3:((47:UInt8) == c)=false:=by
   rw[beq_eq_false_iff_ne];rintro rfl;exact absurd h1.1 (by decide)
  have h4:((l.length:Int) == -1)=false:=by
   rw[beq_eq_false_iff_ne];omega
  rw[List.cons_append];unfold Lib.index;rw[h2];simp[List.isPrefixOf,h3,h4]
theorem Qdy{l:List UInt8}(h:AllDigits l):Lib.cut l [47]=(l,[],false):=by
 unfold Lib.cut;rw[Ql3 h];rfl
theorem Qdz{l:List UInt8}(d:List UInt8)(h:AllDigits l):Lib.cut (l++47 :: d) [47]=(l,d,true):=by
 unfold Lib.cut;rw[Ql4 d h,if_pos (by omega)];simp
theorem Qf7{l:List UInt8}(t:List UInt8)(h:IsDig l):Lib.hasPrefix (l++t) [45]=false:=by
 obtain⟨h0,h⟩:=h;cases l with
 |nil=>exact absurd rfl h0
 |cons c l=>
  have h1:=h c (List.mem_cons_self ..);have h3:((45:UInt8) == c)=false:=by
   rw[beq_eq_false_iff_ne];rintro rfl;exact absurd h1.1 (by decide)
  simp[Lib.hasPrefix,List.isPrefixOf,h3]
theorem Ql5{l:List UInt8}(t:List UInt8)(h:IsDig l):Lib.trimPrefix (l++t) [45]=l++t:=by
 unfold Lib.trimPrefix;rw[Qf7 t h];rfl
theorem Qf8(t:List UInt8):Lib.hasPrefix (45 :: t) [45]=true:=by
 simp[Lib.hasPrefix,List.isPrefixOf]
theorem Ql6(t:List UInt8):Lib.trimPrefix (45 :: t) [45]=t:=by
 unfold Lib.trimPrefix;rw[Qf8 t];rfl
theorem Qf9(X:Int):sgn (decide (X<0)) X.natAbs=X:=by
 unfold sgn;by_cases h:X<0
 · simp[h];omega
 · simp[h];omega
theorem QText.back{l:List UInt8}{q:Rat}(h:QText l q):QOf l q:=by
 obtain⟨m,⟨k,hk,rfl⟩,h⟩:=h;obtain⟨hd,hv⟩:=hk.dig;have e1:∀t,Lib.hasPrefix ((if q.num<0 then 45 :: k else k)++t) [45]=decide (q.num<0):=by
  intro t;by_cases h0:q.num<0
  · simp only[h0,if_true,decide_true,List.cons_append];exact Qf8 _
  · simp only[h0,if_false,decide_false];exact Qf7 t hd
 have e2:∀t,Lib.trimPrefix ((if q.num<0 then 45 :: k else k)++t) [45]=k++t:=by
  intro t;by_cases h0:q.num<0
  · simp only[h0,if_true,List.cons_append];exact Ql6 _
  · simp only[h0,if_false];exact Ql5 t hd
 rcases h with ⟨h1,rfl⟩|⟨h1,d,hdd,rfl⟩
 ·
  have e3:=e1 [];have e4:=e2 [];rw[List.append_nil] at e3 e4;rw[List.append_nil] at e4;have:=Qct (c1:=k) (c2:=[]) (bar:=false) e4 e3 (by rw[Qdy hd.2]) (by rw[Qdy hd.2]) (by rw[Qdy hd.2]) hd (fun h=>by cases h);rw[hv,Qf9] at this;have e5:mkRat q.num (if false=true then decVal [] else 1)=q:=by
   have:=Rat.mkRat_self q;rw[h1] at this;exact this
  rw[e5] at this;exact this
 ·
  obtain⟨gd,gv⟩:=hdd.dig;have:=Qct (c1:=k) (c2:=d) (bar:=true) (e2 (47 :: d)) (e1 (47 :: d)) (by rw[Qdz d hd.2]) (by rw[Qdz d hd.2]) (by rw[Qdz d hd.2]) hd (fun _=>gd);rw[hv,Qf9,gv] at this;have e5:mkRat q.num (if true=true then q.den else 1)=q:=Rat.mkRat_self q;rw[e5] at this;exact this
theorem QText.len{s:ByteArray}{q:Rat}{K:Nat}(h:QText s.data.toList q)(hq:Fits q K):s.size≤2*K+4:=by
 obtain⟨m,⟨k,hk,rfl⟩,h⟩:=h;have h2:=hk.len hq.1;have h3:(if q.num<0 then 45 :: k else k).length≤k.length+1:=by split<;>simp
 have h4:s.data.toList.length=s.size:=by simp
 rcases h with ⟨_,h⟩|⟨_,d,hd,h⟩
 · rw[h] at h4;omega
 ·
  have h5:=hd.len hq.2;rw[h,List.length_append,List.length_cons] at h4;omega
end Go.Proofs.YtbbkamnfjejceaaGreatDoor
namespace Go.Proofs.YtbbkamnfjejceaaGreatDoor
open Go.RowKit
set_option linter.unusedVariables false
set_option linter.unusedSimpArgs false
theorem Sums.move{l:List F4}{x y t:Rat}(ox oy:Rat)(h:Sums 0 0 l x y t):Sums ox oy l x y (t - ox*y+oy*x):=by
 refine Sums.ind (P:=fun l x y t=>Sums ox oy l x y (t - ox*y+oy*x)) h ?_ ?_
 ·
  have e:(0:Rat) - ox*0+oy*0=0:=by grind
  rw[e];exact Sums.nil
 ·
  intro fs x0 y0 t0 px py wx wy f h1 h2 ih;have:=Sums.snoc ih h2;have e:t0 - ox*y0+oy*x0+((px - ox)*wy - (py - oy)*wx)=t0+((px - 0)*wy - (py - 0)*wx) - ox*(y0+wy)+oy*(x0+wx):=by grind
  rw[e] at this;exact this
theorem sq_ne{x y:Rat}(h:¬(x=0∧y=0)):x*x+y*y≠0:=by
 intro h0;apply h;have hx:=Qgr x;have hy:=Qgr y;have e1:x*x=0:=by grind
 have e2:y*y=0:=by grind
 exact⟨by rcases Rat.mul_eq_zero.1 e1 with h|h<;>exact h,by rcases Rat.mul_eq_zero.1 e2 with h|h<;>exact h⟩
theorem Qj3{f:F4}{x y t:Rat}(h:¬(x=0∧y=0))(hf:Q4 f (nearX x y t) (nearY x y t) x y):Sums 0 0 [f] x y t:=by
 have h0:=sq_ne h;have:=Sums.snoc (Sums.nil (ox:=0) (oy:=0)) hf;rw[nearX,nearY,if_neg h,if_neg h] at this;have e:(0:Rat)+((y*(t / (x*x+y*y)) - 0)*y - (-x*(t / (x*x+y*y)) - 0)*x)=t:=by grind
 rw[e,Rat.zero_add,Rat.zero_add] at this;exact this
theorem Qj4(x y t:Rat):nearX x y t*x+nearY x y t*y=0:=by
 unfold nearX nearY
 split<;>grind
theorem Sums.fits{l:List F4}{x y t:Rat}(h:Sums 0 0 l x y t):Fits x (wt 0 l+1)∧Fits y (wt 0 l+1)∧Fits t (wt 0 l+1):=by
 refine Sums.ind (P:=fun l x y t=>Fits x (wt 0 l+1)∧Fits y (wt 0 l+1)∧Fits t (wt 0 l+1)) h ?_ ?_
 · exact⟨Fits.zero,Fits.zero,Fits.zero⟩
 ·
  intro fs x0 y0 t0 px py wx wy f h1 h2 ih;have e:wt 0 (fs++ [f])=wt 0 fs+(16*sz f+20):=by rw[Qdi];simp[wt]
  have s:sz f=f.ax.size+f.ay.size+f.wx.size+f.wy.size:=rfl;have fax:=h2.ax.fits (n:=f.ax.size) (by simp);have fay:=h2.ay.fits (n:=f.ay.size) (by simp);have fwx:=h2.wx.fits (n:=f.wx.size) (by simp);have fwy:=h2.wy.fits (n:=f.wy.size) (by simp);rw[e];refine⟨(ih.1.add fwx).mono (by omega),(ih.2.1.add fwy).mono (by omega),(ih.2.2.add (((fax.sub Fits.zero).mul fwy (by omega)).sub ((fay.sub Fits.zero).mul fwx (by omega)))).mono (by omega)⟩
theorem Qj5{x y t:Rat}{K:Nat}(hx:Fits x K)(hy:Fits y K)(ht:Fits t K)(hK:0<K):Fits (nearX x y t) (6*K+1)∧Fits (nearY x y t) (6*K+1):=by
 have hn:=(hx.mul hx hK).add (hy.mul hy hK);have hq:=ht.div hn hK (by omega);unfold nearX nearY;constructor
 ·
  split
  · exact Fits.zero.mono (by omega)
  · exact(hy.mul hq hK).mono (by omega)
 ·
  split
  · exact Fits.zero.mono (by omega)
  · exact(hx.neg.mul hq hK).mono (by omega)
theorem Qfi{l:List F4}{x y t:Rat}{s1 s2 s4 s5:ByteArray}(h:Sums 0 0 l x y t)(h1:QText s1.data.toList x)(h2:QText s2.data.toList y)(h4:QText s4.data.toList (nearX x y t))(h5:QText s5.data.toList (nearY x y t)):
 sz ⟨s4,s5,s1,s2⟩≤28*(wt 0 l+1)+20:=by
 obtain⟨fx,fy,ft⟩:=h.fits;obtain⟨gx,gy⟩:=Qj5 fx fy ft (by omega);have k1:=h1.len fx;have k2:=h2.len fy;have k4:=h4.len gx;have k5:=h5.len gy;have s:sz ⟨s4,s5,s1,s2⟩=s4.size+s5.size+s1.size+s2.size:=rfl;omega
theorem Qfj{x y t:Rat}{s1 s2 s4 s5:ByteArray}(h:kindOf x y t=3)(h1:QText s1.data.toList x)(h2:QText s2.data.toList y)(h4:QText s4.data.toList (nearX x y t))(h5:QText s5.data.toList (nearY x y t)):
 Sums 0 0 [⟨s4,s5,s1,s2⟩] x y t:=by
 refine Qj3 ?_ ⟨h4.back,h5.back,h1.back,h2.back⟩;intro hz;rw[kindOf,if_pos hz] at h
 split at h<;>omega
set_option maxRecDepth 100000 in
set_option maxHeartbeats 1000000 in
theorem Qj6(a b:Option Addr)(cap cap2 l m:Nat)(sx sy:ByteArray)(w:World)(hg:Glob w)(hl:60<l):
 Calls Tryz.prog 4 #[.slice a l cap,.slice b m cap2,.agg #[.string sx,.string sy]] w fun e w'=>e=.returned (.bool true)∧Below w.heap.size w w':=by
 have HG:=Hi hg;have q1:((60:Int)<(l:Int)):=by omega
 clear hg;go_enter Tryz.func4,Tryz.ntmps4;go_wp2_with fail;obtain⟨wA,hwA⟩:∃wA,w.alloc (.cells #[.string sx,.string sy] 25)=wA:=⟨_,rfl⟩;have HBA:Hid (Below w.heap.size w wA):=Hi (by rw[←hwA];exact(Below.refl _ _).alloc (Nat.le_refl _) _);rw[hwA];have HWA:=Hi hwA;clear hwA;go_fit (Qby wA (HG.out.below HBA.out));rintro e w1 ⟨rfl,hb1⟩;have HB1:=Hi (HBA.out.trans (hb1.mono HBA.out.size));clear hb1;go_wp2_with fail;go_fit (Qir a cap l w1 hl);rintro e w2 ⟨rfl,hb2⟩;have HB2:=Hi (HB1.out.trans (hb2.mono HB1.out.size));clear hb2;go_wp2;go_ret;exact⟨by simp[q1],HB2.out.alloc HB2.out.size _⟩
structure Sized (fs:List F4):Prop where
 len:fs.length≤60
 wt0:wt 0 fs≤20000000
 wtm:wt 1048576 fs≤600000000
 sz:∀f,f∈ fs→sz f≤1048576
set_option maxRecDepth 100000 in
set_option maxHeartbeats 1000000 in
theorem Qj7(a b:Option Addr)(cap cap2 m:Nat)(fs:List F4)(sx sy:ByteArray)(w:World)(hg:Glob w)(hf:FRow w a cap fs)(hs:Sized fs)(hm:60<m)(hk:∀x y t,Sums 0 0 fs x y t→kindOf x y t≠3):
 Calls Tryz.prog 4 #[.slice a fs.length cap,.slice b m cap2,.agg #[.string sx,.string sy]] w fun e w'=>e=.returned (.bool true)∧Below w.heap.size w w':=by
 have HG:=Hi hg;have HF:=Hi hf;have HS:=Hi hs;have HK:=Hi hk;have HM:=Hi hm;clear hg hf hs hk hm;go_enter Tryz.func4,Tryz.ntmps4;go_wp2_with fail;obtain⟨wA,hwA⟩:∃wA,w.alloc (.cells #[.string sx,.string sy] 25)=wA:=⟨_,rfl⟩;have HBA:Hid (Below w.heap.size w wA):=Hi (by rw[←hwA];exact(Below.refl _ _).alloc (Nat.le_refl _) _);rw[hwA];have HWA:=Hi hwA;clear hwA;go_fit (Qby wA (HG.out.below HBA.out));rintro e w1 ⟨rfl,hb1⟩;have HB1:=Hi (HBA.out.trans (hb1.mono HBA.out.size));clear hb1;go_wp2_with fail;go_fit (Qbu a cap 20000000 fs w1 (HG.out.below HB1.out) (HF.out.below HB1.out) HS.out.len HS.out.wt0 (by decide) (fun f hf=>Nat.le_trans (HS.out.sz f hf) (by decide)));rintro e w2 ⟨x,y,t,s1,s2,s3,s4,s5,hsum,h1,h2,h3,h4,h5,rfl,hb2⟩;have HB2:=Hi (HB1.out.trans (hb2.mono HB1.out.size));have hkk:=HK.out x y t hsum;obtain⟨kd,hkd⟩:∃kd,kindOf x y t=kd:=⟨_,rfl⟩;rw[hkd] at hkk ⊢;have HSUM:=Hi hsum
 clear hb2 h1 h2 h3 h4 h5 hkd hsum HK;go_wp2_with fail;obtain⟨wB,hwB⟩:∃wB,w2.alloc (.cells #[.int .i64 kd,.string s1,.string s2,.string s3,.string s4,.string s5] 34)=wB:=⟨_,rfl⟩;have HB3:Hid (Below w.heap.size w wB):=Hi (by rw[←hwB];exact HB2.out.alloc HB2.out.size _);rw[hwB];clear hwB;go_fit (Qeu a b cap cap2 fs.length m wB (.inr HM.out));rintro e w3 ⟨rfl,rfl⟩;go_wp2;go_ret;exact⟨rfl,HB3.out⟩
set_option maxRecDepth 100000 in
set_option maxHeartbeats 1000000 in
theorem Qj8(a b:Option Addr)(cap cap2:Nat)(fs gs:List F4)(sx sy:ByteArray)(w:World)(hg:Glob w)(hf:FRow w a cap fs)(hf2:FRow w b cap2 gs)(hs:Sized fs)(hs2:Sized gs)(hsx:sx.size≤1048576)(hsy:sy.size≤1048576)(hk:∀x y t,Sums 0 0 fs x y t→kindOf x y t≠3):
 Calls Tryz.prog 4 #[.slice a fs.length cap,.slice b gs.length cap2,.agg #[.string sx,.string sy]] w fun e w'=>e=.returned (.bool true)∧Below w.heap.size w w':=by
 have HG:=Hi hg;have HF:=Hi hf;have HF2:=Hi hf2;have HS:=Hi hs;have HS2:=Hi hs2;have HK:=Hi hk;have HSX:=Hi hsx;have HSY:=Hi hsy;clear hg hf hf2 hs hs2 hk hsx hsy;go_enter Tryz.func4,Tryz.ntmps4;go_wp2_with fail;obtain⟨wA,hwA⟩:∃wA,w.alloc (.cells #[.string sx,.string sy] 25)=wA:=⟨_,rfl⟩;have HBA:Hid (Below w.heap.size w wA):=Hi (by rw[←hwA];exact(Below.refl _ _).alloc (Nat.le_refl _) _);have HAB:Hid (SB wA w.heap.size 25 #[.string sx,.string sy]):=Hi (by rw[←hwA];exact SB.new w _ _);rw[hwA];clear hwA;go_fit (Qby wA (HG.out.below HBA.out));rintro e w1 ⟨rfl,hb1⟩;have HB1:=Hi (HBA.out.trans (hb1.mono HBA.out.size));have HC1:=Hi hb1;clear hb1;go_wp2_with fail;go_fit (Qbu a cap 20000000 fs w1 (HG.out.below HB1.out) (HF.out.below HB1.out) HS.out.len HS.out.wt0 (by decide) (fun f hf=>Nat.le_trans (HS.out.sz f hf) (by decide)));rintro e w2 ⟨x,y,t,s1,s2,s3,s4,s5,hsum,h1,h2,h3,h4,h5,rfl,hb2⟩
 have HB2:=Hi (HB1.out.trans (hb2.mono HB1.out.size));have HC2:=Hi (HC1.out.trans (hb2.mono HC1.out.size));have hkk:=HK.out x y t hsum;obtain⟨kd,hkd⟩:∃kd,kindOf x y t=kd:=⟨_,rfl⟩;rw[hkd] at hkk ⊢;have HSUM:=Hi hsum;clear hb2 h1 h2 h3 h4 h5 hkd hsum HK;go_wp2_with fail;obtain⟨wB,hwB⟩:∃wB,w2.alloc (.cells #[.int .i64 kd,.string s1,.string s2,.string s3,.string s4,.string s5] 34)=wB:=⟨_,rfl⟩;have HB3:Hid (Below w.heap.size w wB):=Hi (by rw[←hwB];exact HB2.out.alloc HB2.out.size _);have HC3:Hid (Below wA.heap.size wA wB):=Hi (by rw[←hwB];exact HC2.out.alloc HC2.out.size _);rw[hwB];clear hwB;go_fit (Qcl a b cap cap2 20000000 20000000 fs gs wB (HG.out.below HB3.out) (HF.out.below HB3.out) (HF2.out.below HB3.out) HS.out.len HS2.out.len HS.out.wt0 (by decide) HS2.out.wt0 (by decide) (fun f hf=>Nat.le_trans (HS.out.sz f hf) (by decide)) (fun f hf=>Nat.le_trans (HS2.out.sz f hf) (by decide)))
 rintro e w3 ⟨x0,y0,t0,x1,y1,t1,hsa,hsb,rfl,hb4⟩;have HB4:=Hi (HB3.out.trans (hb4.mono HB3.out.size));have HC4:=Hi (HC3.out.trans (hb4.mono HC3.out.size));clear hb4;by_cases hal:x0=x1∧y0=y1∧t0=t1
 ·
  rw[decide_eq_true hal];obtain⟨rfl,rfl,rfl⟩:=hal;obtain⟨ox,hox⟩:=QOf.ex sx.data.toList;obtain⟨oy,hoy⟩:=QOf.ex sy.data.toList;have HMA:=Hi (hsa.move ox oy);have HMB:=Hi (hsb.move ox oy);have HOX:=Hi hox;have HOY:=Hi hoy;clear hsa hsb hox hoy;have hab:=HAB.out.below HC4.out HAB.out.lt;have k0:_=some (Value.string sx):=hab.cell 0;have k1:_=some (Value.string sy):=hab.cell 1;clear hab;go_wp2_with fail;go_fit (Qck a cap 1048576 600000000 fs sx sy ox oy w3 (HG.out.below HB4.out) (HF.out.below HB4.out) HS.out.len (by decide) HS.out.wtm (by decide) (fun f hf=>Nat.le_trans (HS.out.sz f hf) (by decide)) HSX.out HSY.out HOX.out HOY.out);rintro e w4 ⟨xa,ya,ta,v1,v2,v3,hsa,g1,g2,g3,rfl,hb5⟩;obtain⟨rfl,rfl,rfl⟩:=hsa.inj HMA.out;have HB5:=Hi (HB4.out.trans (hb5.mono HB4.out.size));have HC5:=Hi (HC4.out.trans (hb5.mono HC4.out.size));have G1:=Hi g1;have G2:=Hi g2;have G3:=Hi g3
  clear hb5 hsa g1 g2 g3 k0 k1;obtain⟨gV,hgV⟩:∃gV,w4.heap.size=gV:=⟨_,rfl⟩;obtain⟨wC,hwC⟩:∃wC,w4.alloc (.cells #[.string v1,.string v2] 25)=wC:=⟨_,rfl⟩;have HB6:Hid (Below w.heap.size w wC):=Hi (by rw[←hwC];exact HB5.out.alloc HB5.out.size _);have HC6:Hid (Below wA.heap.size wA wC):=Hi (by rw[←hwC];exact HC5.out.alloc HC5.out.size _);have HV:Hid (SB wC gV 25 #[.string v1,.string v2]):=Hi (by rw[←hwC,←hgV];exact SB.new w4 _ _);have hab:=HAB.out.below HC6.out HAB.out.lt;have k0:_=some (Value.string sx):=hab.cell 0;have k1:_=some (Value.string sy):=hab.cell 1;rw[←hwC] at k0 k1;clear hab;have HWC:=Hi hwC;have HGV:=Hi hgV;clear hwC hgV;go_wp2_with fail;rw[HWC.out,HGV.out];clear k0 k1
  go_fit (Qck b cap2 1048576 600000000 gs sx sy ox oy wC (HG.out.below HB6.out) (HF2.out.below HB6.out) HS2.out.len (by decide) HS2.out.wtm (by decide) (fun f hf=>Nat.le_trans (HS2.out.sz f hf) (by decide)) HSX.out HSY.out HOX.out HOY.out);rintro e w5 ⟨xb,yb,tb,u1,u2,u3,hsb,f1,f2,f3,rfl,hb7⟩;obtain⟨rfl,rfl,rfl⟩:=hsb.inj HMB.out;obtain rfl:u1=v1:=(Qaj (f1.inj G1.out)).trans (Qaj rfl).symm;obtain rfl:u2=v2:=(Qaj (f2.inj G2.out)).trans (Qaj rfl).symm;obtain rfl:u3=v3:=(Qaj (f3.inj G3.out)).trans (Qaj rfl).symm;have hv:=(HV.out.below hb7 HV.out.lt).alloc (.cells #[.string u1,.string u2] 25);have j0:_=some (Value.string u1):=hv.cell 0;have j1:_=some (Value.string u2):=hv.cell 1;have hne:w5.heap.size≠gV:=by
   have:=HV.out.lt;have:=hb7.size;omega
  have HB7:=Hi (HB6.out.trans (hb7.mono HB6.out.size));clear hsb f1 f2 f3 hb7 hv;go_wp2_with fail;go_ret;exact⟨by simp,HB7.out.alloc HB7.out.size _⟩
 ·
  rw[decide_eq_false hal];clear hsa hsb hal;go_wp2;go_ret;exact⟨rfl,HB4.out⟩
end Go.Proofs.YtbbkamnfjejceaaGreatDoor
