/- package math: Nextafter, Ldexp(1, 970). -/
import Derived.Test.YtodfmpjhcmapmaaGreatDoorN42NeaI
namespace Go.Proofs.YtodfmpjhcmapmaaGreatDoor
open Go.RowKit
set_option linter.unusedVariables false
set_option linter.unusedSimpArgs false
theorem Qhq(v k:Nat)(rs:List Nat):(zeros v++rs).getD (k+v) 0=rs.getD k 0:=by
 rw[List.getD_eq_getElem?_getD,List.getElem?_append_right (by rw[Qac];omega),Qac,Nat.add_sub_cancel,←List.getD_eq_getElem?_getD]
theorem Qhr(v k d:Nat)(rs:List Nat):(zeros v++rs).set (k+v) d=zeros v++rs.set k d:=by
 rw[List.set_append_right _ _ (by rw[Qac];omega),Qac,Nat.add_sub_cancel]
theorem Qod{v s x n:Nat}{rs:List Nat}(hn:n=32*v+s)(h:val 4294967296 rs=x*2 ^ s):val 4294967296 (zeros v++rs)=x*2 ^ n:=by
 rw[Qbw,Qb4,Qac,h,Nat.zero_add,show (4294967296:Nat)=2 ^ 32 from rfl,←Nat.pow_mul,hn,Nat.pow_add];generalize 2 ^ (32*v)=p;generalize 2 ^ s=q;rw[Nat.mul_left_comm]
set_option maxHeartbeats 1000000 in
theorem Qoe(a:Option Addr)(cap n v s:Nat)(l:List Nat)(x:Nat)(w:World)(h:U32 w a cap l x)(hn:n=32*v+s)(hs:s<32)(hv:v≤1000)(hl0:0<l.length)(hl:l.length<1000000000):
 Calls Tryz.prog 131 #[.slice a l.length cap,.int .u64 n] w fun e w'=>(∃a cap r,e=.returned (.slice a r.length cap)∧U32 w' a cap r (x*2 ^ n))∧Below w.heap.size w w':=by
 have q1:((l.length:Int) == 0)=false:=by rw[beq_eq_false_iff_ne];omega
 have q2:(n:Int) / 32=v:=by omega
 have q3:(n:Int) % 32=s:=by omega
 have hmk:∀w,(Instr.makeSlice 75 (.int .i64 ((l.length:Int)+v+1)) (.int .i64 ((l.length:Int)+v+1))).run Tryz.prog w=.ok (.slice (some ⟨w.heap.size,0,none⟩) (l.length+v+1) (l.length+v+1)) (w.alloc (.cells (wordCells .u32 (zeros (l.length+v+1))) 172)):=
  fun w=>Qa0 _ (l.length+v+1) (by omega) (by omega) w
 have HN:=Hi hn;clear hn;go_enter Tryz.func131,Tryz.ntmps131;go_wp2;clear hmk q2 q3;go_loopw [8] (fun i wr=>∃(k:Nat) (rs:List Nat),k≤l.length∧i=.int .i64 k∧Blk .u32 172 wr w.heap.size (zeros v++rs)∧rs.length=l.length+1∧Small 4294967296 rs∧rs.getD k 0<2 ^ s∧(∀j,k<j→rs.getD j 0=0)∧
  val 4294967296 (rs.take (k+1))=val 4294967296 (l.take k)*2 ^ s∧Below w.heap.size w wr) (fun i _=>l.length - (intOf i).toNat)
 case atStart=>exact⟨0,zeros (l.length+1),by omega,rfl,by rw[show zeros v++zeros (l.length+1)=zeros (l.length+v+1) from by unfold zeros;rw[List.replicate_append_replicate];congr 1;omega];exact Blk.new _ _ _ _,Qac _,Qah _ _ (by omega),by rw[Qaz];exact Nat.pow_pos (by omega),fun j _=>Qaz _ j,by rw[Qad,Qaz];simp[val],(Below.refl _ _).alloc (Nat.le_refl _) _⟩
 case round=>
  obtain⟨k,rs,hk,rfl,hB,hrl,hrs,hz1,hz2,hv1,hb⟩:=hrel;have HV:Hid (val 4294967296 (rs.take (k+1))=val 4294967296 (l.take k)*2 ^ s):=hv1;have HRL:Hid (rs.length=l.length+1):=hrl;have HB:Hid (Blk .u32 172 wr w.heap.size (zeros v++rs)):=hB;have HRS:Hid (Small 4294967296 rs):=hrs;have hal:(zeros v++rs).length=v+(l.length+1):=by rw[List.length_append,Qac,hrl]
  clear hv1 hrs;by_cases hlt:k<l.length
  ·
   obtain⟨b,off,rfl,hb1,hc1⟩:=h.row.cell k hlt;obtain⟨d,hd⟩:∃d,l.getD k 0=d:=⟨_,rfl⟩;have hdb:d<4294967296:=by rw[←hd];exact h.num.small.getD (by omega) k
   rw[hd] at hc1;have hc1':=(hb.cell (p:=⟨b,off+k,none⟩) hb1).trans hc1;have g1:=hB.free (k+v);have g2:=hB.cell (k+v) (by omega);have g3:=hB.free (k+v+1);have g4:=hB.cell (k+v+1) (by omega);rw[Qhq] at g2;rw[show (zeros v++rs).getD (k+v+1) 0=0 by rw[show k+v+1=(k+1)+v by omega,Qhq];exact hz2 (k+1) (by omega)] at g4;obtain⟨z,hz⟩:∃z,rs.getD k 0=z:=⟨_,rfl⟩;rw[hz] at g2 hz1;have LW:=Qfp d s z hs hdb hz1;have LS:=Qfq k d s z rs l (by omega) hd hz HV.out;have HZ:Hid (∀j,k<j→rs.getD j 0=0):=hz2;have HL:Hid (bits .or .u32 (z:Int) (IntKind.u64.wrap ((d:Int)*2 ^ (s % 32)) % 4294967296)=((d*2 ^ s % 4294967296+z:Nat):Int)∧
    bits .or .u32 0 (IntKind.u64.wrap ((d:Int)*2 ^ (s % 32)) / 4294967296 % 4294967296)=((d*2 ^ s / 4294967296:Nat):Int)∧
    d*2 ^ s % 4294967296+z<4294967296∧d*2 ^ s / 4294967296<2 ^ s):=LW
   have HS:Hid (val 4294967296 (((rs.set k (d*2 ^ s % 4294967296+z)).set (k+1) (d*2 ^ s / 4294967296)).take (k+1+1))=val 4294967296 (l.take (k+1))*2 ^ s):=LS;clear hd hc1 hz hB hrl hz1 hz2 LW LS hal;go_wp2;go_roundw
   case rel=>
    obtain⟨l1,l2,l3,l4⟩:=HL.out;rw[show s % 32=n % 32 by have:=HN.out;omega] at l1 l2;rw[l1,l2];have hp:=Qc2 hs;have hset:=(HB.out.set (k+v) (d*2 ^ s % 4294967296+z)).set (k+v+1) (d*2 ^ s / 4294967296);rw[Qhr,show k+v+1=(k+1)+v by omega,Qhr] at hset;refine⟨k+1,(rs.set k (d*2 ^ s % 4294967296+z)).set (k+1) (d*2 ^ s / 4294967296),by omega,by go_num,?_,by rw[List.length_set,List.length_set];exact HRL.out,(HRS.out.set k l3).set (k+1) (by omega),?_,fun j hj=>?_,HS.out,(hb.setCell (Nat.le_refl _) _).setCell (Nat.le_refl _) _⟩
    · rw[show k+v+1=k+1+v by omega];exact hset
    · rw[Qa4 _ _ _ (by rw[List.length_set,HRL.out];omega)];exact l4
    · rw[Qae _ _ _ _ (by omega),Qae _ _ _ _ (by omega)];exact HZ.out j (by omega)
   case measure=>simp[intOf];omega
  ·
   have hvv:val 4294967296 rs=x*2 ^ s:=by
    have e1:k=l.length:=by omega
    have e2:=HV.out;rw[e1,List.take_length,List.take_of_length_le (by omega),h.num.eq] at e2;exact e2
   have HQ:Hid (val 4294967296 (zeros v++rs)=x*2 ^ n):=Hi (Qod HN.out hvv);have HSM:Hid (Small 4294967296 (zeros v++rs)):=Hi (fun d hd=>by
    rcases List.mem_append.1 hd with h1|h1
    · exact Qah _ v (by omega) d h1
    · exact HRS.out d h1)
   have HAL:Hid ((zeros v++rs).length=l.length+v+1):=Hi (by omega);clear hrl hB hvv hz1 hz2 hal;go_wp2_with fail;refine(Qap w.heap.size (l.length+v+1) (l.length+v+1) (x*2 ^ n) (zeros v++rs) _ HB.out HAL.out HSM.out (Nat.le_refl _) (by omega) HQ.out).mono ?_;rintro e w1 ⟨⟨a,cap,r,rfl,hu⟩,rfl⟩;go_wp2;go_ret;exact⟨⟨a,cap,r,rfl,hu⟩,hb⟩
theorem Qof(a:Option Addr)(cap n:Nat)(l:List Nat)(x:Nat)(w:World)(h:U32 w a cap l x)(hn:n≤30000)(hl:l.length<1000000000):
 Calls Tryz.prog 131 #[.slice a l.length cap,.int .u64 n] w fun e w'=>(∃a cap r,e=.returned (.slice a r.length cap)∧U32 w' a cap r (x*2 ^ n))∧Below w.heap.size w w':=by
 by_cases h0:0<l.length
 · exact Qoe a cap n (n / 32) (n % 32) l x w h (by omega) (by omega) (by omega) h0 hl
 ·
  obtain rfl:l= []:=List.eq_nil_of_length_eq_zero (by omega);have hx:x=0:=by have:=h.num.eq;simpa [val] using this.symm
  subst hx;rw[Nat.zero_mul];have hu:U32 w none 0 [] 0:=⟨Row.nil _ _,h.num,h.short⟩;have HU:=Hi hu;clear h hu;go_enter Tryz.func131,Tryz.ntmps131;go_wp2;go_ret;exact⟨⟨none,0,[],rfl,HU.out⟩,Below.refl _ _⟩
end Go.Proofs.YtodfmpjhcmapmaaGreatDoor
namespace Go.Proofs.YtodfmpjhcmapmaaGreatDoor
open Go.RowKit
set_option linter.unusedVariables false
def flo(r N:Nat):Rat:=mkRat (Nea.U r:Nat) (2 ^ N)
theorem Qor{R:Nat}(hR:R<9218868437227405312):∃ee mm:Nat,(R:Int) / 4503599627370496=(ee:Int)∧bits .and .u64 (ee:Int) 2047=(ee:Int)∧bits .and .u64 (R:Int) 4503599627370495=(mm:Int)∧bits .or .u64 (mm:Int) 4503599627370496=((4503599627370496+mm:Nat):Int)∧(R:Int) / 9223372036854775808=0∧ee≤2046∧mm<4503599627370496∧R=ee*4503599627370496+mm:=by
 refine⟨R / 4503599627370496,R % 4503599627370496,by omega,?_,?_,?_,by omega,by omega,by omega,by omega⟩
 ·
  have h:R / 4503599627370496<2048:=by omega
  generalize R / 4503599627370496=L at h;have:=u64_and_nat L 2047 (by omega) (by decide);rw[show (2047:Nat)=2 ^ 11 - 1 by decide,Nat.and_two_pow_sub_one_eq_mod,Nat.mod_eq_of_lt (by simpa using h)] at this;exact this
 ·
  have:=u64_and_nat R 4503599627370495 (by omega) (by decide);rw[show (4503599627370495:Nat)=2 ^ 52 - 1 by decide,Nat.and_two_pow_sub_one_eq_mod] at this;exact this
 ·
  have h:R % 4503599627370496<4503599627370496:=by omega
  generalize R % 4503599627370496=f at h;have:=or64' ((1*4503599627370496:Nat):Int) (f:Int) 1 f 52 (by decide) rfl h (by omega);exact this
theorem Qos{mm N:Nat}(h:mm<4503599627370496):mkRat (mm:Int) (2 ^ N)=flo mm N:=by
 unfold flo Nea.U;rw[if_pos h]
theorem Qot{ee mm N D:Nat}(h:mm<4503599627370496)(h0:0<ee)(hD:N+1=D+ee):mkRat ((4503599627370496+mm:Nat):Int) (2 ^ D)=flo (ee*4503599627370496+mm) N:=by
 unfold flo Nea.U;rw[if_neg (by omega),show (ee*4503599627370496+mm) % 4503599627370496=mm by omega,show (ee*4503599627370496+mm) / 4503599627370496 - 1=ee - 1 by omega,show N=D+(ee - 1) by omega,Nat.pow_add,Int.natCast_mul];exact(Rat.mkRat_mul_right (Nat.ne_of_gt (Nat.two_pow_pos _))).symm
theorem Qou{ee mm N D:Nat}(h:mm<4503599627370496)(h0:0<ee)(hD:N+1+D=ee):mkRat (((4503599627370496+mm:Nat):Int)*((2 ^ D:Nat):Int)) 1=flo (ee*4503599627370496+mm) N:=by
 unfold flo Nea.U;rw[if_neg (by omega),show (ee*4503599627370496+mm) % 4503599627370496=mm by omega,show (ee*4503599627370496+mm) / 4503599627370496 - 1=D+N by omega,Nat.pow_add,←Nat.mul_assoc,Int.natCast_mul,Int.natCast_mul];have:=(Rat.mkRat_mul_right (n:=((4503599627370496+mm:Nat):Int)*((2 ^ D:Nat):Int)) (d:=1) (a:=2 ^ N) (Nat.ne_of_gt (Nat.two_pow_pos _))).symm;rw[Nat.one_mul] at this;exact this
theorem Qov{R M K:Nat}(hR:R≤9218868437227405312)(hM:M=2047)(hK:K=2200):Nea.U R<2 ^ K:=by
 obtain⟨E,k,h1,h2,h3⟩:=Nea.rung_form R;rw[h1,Nea.U_of h2];have hE:E≤M:=by omega
 have h4:2 ^ E≤2 ^ M:=Nat.pow_le_pow_right (by decide) hE;have h5:k*2 ^ E<2 ^ 53*2 ^ M:=Nat.lt_of_le_of_lt (Nat.mul_le_mul_left k h4) (Nat.mul_lt_mul_of_pos_right (by simpa using h3) (Nat.two_pow_pos _));rw[←Nat.pow_add] at h5;exact Nat.lt_of_lt_of_le h5 (Nat.pow_le_pow_right (by decide) (by omega))
theorem Qow{R N K:Nat}(hR:R≤9218868437227405312)(hN:N=1074)(hK:K=2200):Fits (flo R N) K:=Fits.mk (by rw[Int.natAbs_natCast];exact Qov hR rfl hK) (Nat.pow_lt_pow_right (by decide) (by omega)) (by omega)
theorem Qcr(r N:Nat):flo r N*((2 ^ N:Nat):Rat)=((Nea.U r:Nat):Rat):=by
 have h0:((2 ^ N:Nat):Rat)≠0:=fun e=>by
  have h1:(2 ^ N:Nat)=0:=by exact_mod_cast e
  exact absurd h1 (Nat.ne_of_gt (Nat.two_pow_pos _))
 have h1:flo r N=((Nea.U r:Nat):Rat) / ((2 ^ N:Nat):Rat):=by
  unfold flo;rw[Rat.mkRat_eq_div];rfl
 rw[h1];grind
def midF(a b N:Nat):Rat:=(flo a N+flo b N) / 2
theorem Qez(a b N:Nat):midF a b N*midF a b N*(4*((4 ^ N:Nat):Rat))=(((Nea.U a+Nea.U b)*(Nea.U a+Nea.U b):Nat):Rat):=by
 have e:((4 ^ N:Nat):Rat)=((2 ^ N:Nat):Rat)*((2 ^ N:Nat):Rat):=by
  rw[←Rat.natCast_mul,←Nat.mul_pow]
 have h1:=Qcr a N;have h2:=Qcr b N;rw[Rat.natCast_mul,Rat.natCast_add,←h1,←h2,e];unfold midF;grind
theorem Qe0(N:Nat):(0:Rat)<4*((4 ^ N:Nat):Rat):=by
 have h1:(0:Rat)<((4 ^ N:Nat):Rat):=by
  have:=Nea.nlt (Nat.pow_pos (n:=N) (show 0<4 by decide))
  simpa using this
 grind
theorem Qox{a b N:Nat}{q:Rat}(h:(((Nea.U a+Nea.U b)*(Nea.U a+Nea.U b):Nat):Rat)<4*(q*((4 ^ N:Nat):Rat))):midF a b N*midF a b N<q:=by
 apply Classical.byContradiction;intro hc;have h1:q≤midF a b N*midF a b N:=Rat.not_lt.1 hc;have h2:=Rat.mul_le_mul_of_nonneg_right h1 (Rat.le_of_lt (Qe0 N));rw[Qez] at h2;grind
theorem Qoy{a b N:Nat}{q:Rat}(h:4*(q*((4 ^ N:Nat):Rat))<(((Nea.U a+Nea.U b)*(Nea.U a+Nea.U b):Nat):Rat)):q<midF a b N*midF a b N:=by
 apply Classical.byContradiction;intro hc;have h1:midF a b N*midF a b N≤q:=Rat.not_lt.1 hc;have h2:=Rat.mul_le_mul_of_nonneg_right h1 (Rat.le_of_lt (Qe0 N));rw[Qez] at h2;grind
theorem Qhu{a b N:Nat}{q:Rat}(h:(((Nea.U a+Nea.U b)*(Nea.U a+Nea.U b):Nat):Rat)=4*(q*((4 ^ N:Nat):Rat))):midF a b N*midF a b N=q:=by
 have h0:=Qe0 N;have h2:=Qez a b N;rw[h] at h2;generalize midF a b N*midF a b N=y at*;generalize ((4 ^ N:Nat):Rat)=p at*;have h3:(y - q)*(4*p)=0:=by grind
 rcases Rat.mul_eq_zero.1 h3 with h4|h4
 · grind
 · grind
theorem top_U{e:Nat}(he:e=1992):2*(Nea.U 9218868437227405311+Nea.U 8975674057349398528)=Nea.U 9218868437227405311+Nea.U 9218868437227405312:=by
 have u1:Nea.U 9218868437227405311=9007199254740991*2 ^ (53+e):=by
  rw[←Nea.U_of (E:=53+e) (k:=9007199254740991) ⟨Or.inr (by decide),by decide⟩,he]
 have u2:Nea.U 8975674057349398528=4503599627370496*2 ^ e:=by
  rw[←Nea.U_of (E:=e) (k:=4503599627370496) ⟨Or.inr (by decide),by decide⟩,he]
 have u3:Nea.U 9218868437227405312=4503599627370496*2 ^ (54+e):=by
  rw[←Nea.U_of (E:=54+e) (k:=4503599627370496) ⟨Or.inr (by decide),by decide⟩,he]
 rw[u1,u2,u3,Nat.pow_add,Nat.pow_add];generalize 2 ^ e=T;omega
theorem Qhv(N:Nat):flo 9218868437227405311 N+flo 8975674057349398528 N=midF 9218868437227405311 9218868437227405312 N:=by
 have h1:=Qcr 9218868437227405311 N;have h2:=Qcr 8975674057349398528 N;have h3:=Qcr 9218868437227405312 N;have hU:=congrArg (fun n:Nat=>(n:Rat)) (top_U rfl);simp only[Rat.natCast_mul,Rat.natCast_add] at hU;rw[←h1,←h2,←h3] at hU;have h0:((2 ^ N:Nat):Rat)≠0:=fun e=>by
  have h1:(2 ^ N:Nat)=0:=by exact_mod_cast e
  exact absurd h1 (Nat.ne_of_gt (Nat.two_pow_pos _))
 unfold midF;generalize flo 9218868437227405311 N=x at*;generalize flo 8975674057349398528 N=y at*;generalize flo 9218868437227405312 N=z at*;generalize ((2 ^ N:Nat):Rat)=p at*;have h4:(2*(x+y) - (x+z))*p=0:=by
  have:((2:Nat):Rat)=2:=rfl;grind
 rcases Rat.mul_eq_zero.1 h4 with h5|h5
 · grind
 · exact absurd h5 h0
set_option linter.unusedSimpArgs false
theorem Qom(X:Int)(p:Nat):X*(p:Int)=if decide (X<0)=true then -((X.natAbs*p:Nat):Int) else ((X.natAbs*p:Nat):Int):=by
 rw[Int.natCast_mul];by_cases h:X<0
 ·
  rw[if_pos (by simpa using h),←Int.neg_mul]
  congr 1
  omega
 ·
  rw[if_neg (by simpa using h)]
  congr 1
  omega
set_option maxHeartbeats 1000000 in
theorem Qew(bz oz:Nat)(t:TypeId)(C:Array Value)(X:Int)(a:Option Addr)(cap n:Nat)(l:List Nat)(w:World)(hs:SB w bz t C)(hn:NoInt C)(ho:oz+1<C.size)(hx:IntAt w bz oz X a cap l)(hb:n≤30000)(hl:l.length<1000000000):
 Calls Tryz.prog 83 #[.pointer (some ⟨bz,oz,none⟩),.pointer (some ⟨bz,oz,none⟩),.int .u64 n] w (LaidOk w bz oz t C (X*((2 ^ n:Nat):Int))):=by
 have k0:=hx.neg;have k1:=hx.abs;have hlt:=hx.lt;have HS:=Hi hs;have HN:=Hi hn;have HX:=Hi hx.num;have HB:=Hi hb;have HLL:=Hi hl;clear hs hn hx hb hl;go_enter Tryz.func83,Tryz.ntmps83;go_wp2;go_region_with (first
  |(go_at_call 131;refine(Qof a cap n l X.natAbs _ ?_ HB.out HLL.out).mono ?_;exact HX.out.drew;rintro e w1 ⟨⟨a1,cap1,r1,rfl,hu1⟩,hb1⟩;have c0:=(hb1.cell (p:=⟨bz,oz,none⟩) hlt).trans k0;have c1:=(hb1.cell (p:=⟨bz,oz+1,none⟩) hlt).trans k1;have HU1:=Hi hu1;have HB1:=Hi ((Below.refl w.heap.size w).drew.trans hb1);clear hu1 hb1)
  |(go_at_call 100;refine(Qa7 bz oz t C _ a1 cap1 r1 (X.natAbs*2 ^ n) (X*((2 ^ n:Nat):Int)) _ ?_ HN.out ho HU1.out ?_).mono ?_;exact HS.out.below HB1.out HS.out.lt;exact Qom X (2 ^ n);rintro e w2 ⟨rfl,hl⟩;have HL:=Hi hl;clear hl))
 all_goals
  go_wp2;go_ret;exact LaidOk.of (Only.of_below HB1.out) ⟨rfl,_,_,_,HL.out⟩
set_option maxHeartbeats 400000 in
theorem Qex(b o:Nat)(t:TypeId)(C:Array Value)(n:Nat)(w:World)(hs:SB w b t C)(hn:NoInt C)(ho:o+1<C.size)(h1:n<18446744073709551616):
 Calls Tryz.prog 81 #[.pointer (some ⟨b,o,none⟩),.int .u64 n] w (LaidOk w b o t C n):=by
 have HS:=Hi hs;have HN:=Hi hn;clear hs hn;go_enter Tryz.func81,Tryz.ntmps81;go_wp2_with fail;refine(Qbe (n:Int) _ (by omega) (by omega)).mono ?_;rintro e w1 ⟨⟨a,cap,l,rfl,hu,_⟩,hb⟩;rw[Int.toNat_natCast] at hu;go_wp2_with fail;refine(Qa7 b o t C false a cap l n n w1 (HS.out.below hb HS.out.lt) HN.out ho hu (by simp)).mono ?_;rintro e w2 ⟨rfl,hl⟩;go_wp2;go_ret;exact LaidOk.of (Only.of_below hb) ⟨rfl,_,_,_,hl⟩
theorem Qdl(n:Bool)(a:Option Addr)(m c:Nat):NoInt #[Value.bool n,Value.slice a m c]:=by
 intro i k x
 match i with
 |0=>simp
 |1=>simp
 |i+2=>simp
theorem Qey{w w1 w2 w3:World}{bz b2:Nat}{C:Array Value}(hs:SB w bz 79 C)(hb1:Below w.heap.size w w1)(hb2:Below w1.heap.size w1 w2)(ho:Only b2 w2 w3)(hne:bz≠b2):SB w3 bz 79 C:=
 ((hs.below hb1 hs.lt).below hb2 (Nat.lt_of_lt_of_le hs.lt hb1.size)).only ho hne
set_option maxRecDepth 100000 in
set_option maxHeartbeats 2000000 in
theorem Qon(bz R N:Nat)(w:World)(hz:(Thing.room bz).holds w)(hR:R<9218868437227405312)(hN:N=1074):
 Calls Tryz.prog 42 #[.pointer (some ⟨bz,0,none⟩),.float .f64 R] w (RatOk w bz (flo R N)):=by
 obtain⟨s0,s1,s2,s3,hs,hn⟩:=hz;obtain⟨ee,mm,f1,f2,f3,f4,f5,f6,f7,f8⟩:=Qor hR;have HS:=Hi hs;have HNI:=Hi hn;have HLT:=Hi hs.lt;have HR:=Hi f8;have HM:=Hi f7;have HN:=Hi hN;have fb:=Qa9 R;clear hs hn f8 f7 hR hN;have t1:wrap64 (ee:Int)=(ee:Int):=by unfold wrap64;omega
 have t2:((ee:Int) == 2047)=false:=by rw[beq_eq_false_iff_ne];omega
 have t3:((ee:Int) == 0)=decide (ee=0):=by rw[Bool.eq_iff_iff];simp
 by_cases h0:ee=0
 ·
  rw[decide_eq_true h0] at t3;have HE0:=Hi h0;clear h0;obtain⟨mq,hmq⟩:∃mq:Nat,mq=mm:=⟨_,rfl⟩;have HMQ:Hid (mq<18446744073709551616):=Hi (by have:=HM.out;omega);rw[←hmq] at f3;have HE:=Hi hmq;clear hmq f4;go_enter Tryz.func42,Tryz.ntmps42;go_wp2_with fail;have hal:Below w.heap.size w (w.alloc (.cells #[.bool false,.slice none 0 0] 77)):=(Below.refl _ _).alloc (Nat.le_refl _) _;refine(Qex w.heap.size 0 77 _ mq _ (SB.new w 77 _) Tryz.int_zero (by simp) HMQ.out).mono ?_;rintro e w1 ⟨rfl,a1,c1,l1,hl1⟩;have hb1:Below w.heap.size w w1:=Only.fresh hal hl1.only (Nat.le_refl _);have HLT1:Hid (w.heap.size<w1.heap.size):=Hi (by have:=hl1.only.size;simp at this;omega);have HB1:=Hi hb1;have HI1:=Hi (hl1.at (by simp));have HL1:=Hi hl1.sb;clear hl1 hb1 hal;go_wp2_with fail;refine(Qay 1 w1 (by decide) (by decide)).mono ?_;rintro e w2 ⟨⟨b2,a2,c2,l2,rfl,hge,hs2,hu2⟩,hb2⟩;have HB2:=Hi hb2;have HGE:=Hi hge
  have HL2:Hid (SB w2 b2 77 #[.bool false,.slice a2 l2.length c2]):=hs2;have HI2:Hid (IntAt w2 b2 0 1 a2 c2 l2):=Hi ⟨by rw[hs2.cell];rfl,by rw[hs2.cell];rfl,hu2,hs2.lt⟩;have HSL1:Hid (l1.length≤64):=Hi (HI1.out.num.len_bits (by have:=HMQ.out;rw[Int.natAbs_natCast];simpa using this));have HSL2:Hid (l2.length≤1):=Hi (hu2.len_bits (by decide));clear hb2 hge hs2 hu2;go_wp2_with fail;rw[show (1074:Int)=(N:Int) by have:=HN.out;omega];refine(Qew b2 0 77 _ 1 a2 c2 N l2 _ HL2.out (Qdl _ _ _ _) (by simp) HI2.out (by have:=HN.out;omega) (by have:=HSL2.out;omega)).mono ?_;rintro e w3 ⟨rfl,a3,c3,l3,hl3⟩;have HO3:=Hi hl3.only;have HI3:=Hi (hl3.at (by simp));have HSL3:Hid (l3.length≤N+1):=Hi (hl3.num.len_bits (by rw[Int.one_mul,Int.natAbs_natCast];exact Nat.pow_lt_pow_right (by decide) (by omega)));clear hl3;go_wp2_with fail;have hne:w.heap.size≠b2:=by have:=HGE.out;have:=HLT1.out;omega
  refine(Qbb bz s0 s1 s2 s3 w.heap.size 0 mq a1 c1 l1 b2 0 _ a3 c3 l3 w3 (Qey HS.out HB1.out HB2.out HO3.out (by have:=HGE.out;have:=HLT1.out;have:=HLT.out;omega)) HNI.out ((HI1.out.below HB2.out).only HO3.out HL2.out (Qdl _ _ _ _) hne) HI3.out (by rw[Int.one_mul];exact Int.natCast_pos.2 (Nat.two_pow_pos _)) (by have:=HSL1.out;omega) (by have:=HSL3.out;have:=HN.out;omega)).mono ?_;rintro e w4 hok;have HOK:=Hi hok;obtain⟨rfl,_,_⟩:=hok;go_wp2;go_ret;rw[show flo R N=mkRat (mq:Int) ((1:Int)*((2 ^ N:Nat):Int)).natAbs by
   rw[Int.one_mul,Int.natAbs_natCast,HE.out,Qos HM.out]
   congr 1
   have:=HR.out;rw[HE0.out] at this
   omega]
  exact RatOk.of (Only.of_below (Only.fresh (HB1.out.trans (HB2.out.mono HB1.out.size)) HO3.out (by have:=HGE.out;have:=HLT1.out;omega))) HOK.out
 ·
  rw[decide_eq_false h0] at t3;obtain⟨mq,hmq⟩:∃mq:Nat,4503599627370496+mm=mq:=⟨_,rfl⟩;have HMQ:Hid (mq<18446744073709551616):=Hi (by have:=HM.out;omega);rw[hmq] at f4;have HE:=Hi hmq;have HE0:=Hi (Nat.pos_of_ne_zero h0);clear hmq h0;by_cases h1:1075≤ee
  ·
   obtain⟨D,hD⟩:∃D:Nat,ee=D+1075:=⟨ee - 1075,by omega⟩;have t4:(ee:Int) - 1075=(D:Int):=by omega
   have t5:wrap64 ((ee:Int) - 1075)=(D:Int):=by unfold wrap64;omega
   have t6:decide (1075≤(ee:Int))=true:=by simp;omega
   have t7:IntKind.u64.wrap (D:Int)=(D:Int):=by simp[IntKind.wrap,IntKind.bits,IntKind.signed];omega
   have HD:=Hi (And.intro hD (show D≤1000 by omega));clear hD h1 f6;go_enter Tryz.func42,Tryz.ntmps42;go_wp2_with fail;have hal:Below w.heap.size w (w.alloc (.cells #[.bool false,.slice none 0 0] 77)):=(Below.refl _ _).alloc (Nat.le_refl _) _;refine(Qex w.heap.size 0 77 _ mq _ (SB.new w 77 _) Tryz.int_zero (by simp) HMQ.out).mono ?_;rintro e w1 ⟨rfl,a1,c1,l1,hl1⟩;have hb1:Below w.heap.size w w1:=Only.fresh hal hl1.only (Nat.le_refl _);have HLT1:Hid (w.heap.size<w1.heap.size):=Hi (by have:=hl1.only.size;simp at this;omega);have HB1:=Hi hb1;have HI1:=Hi (hl1.at (by simp));have HL1:=Hi hl1.sb;clear hl1 hb1 hal;go_wp2_with fail;refine(Qay 1 w1 (by decide) (by decide)).mono ?_;rintro e w2 ⟨⟨b2,a2,c2,l2,rfl,hge,hs2,hu2⟩,hb2⟩;have HB2:=Hi hb2;have HGE:=Hi hge;have HL2:Hid (SB w2 b2 77 #[.bool false,.slice a2 l2.length c2]):=hs2
   have HI2:Hid (IntAt w2 b2 0 1 a2 c2 l2):=Hi ⟨by rw[hs2.cell];rfl,by rw[hs2.cell];rfl,hu2,hs2.lt⟩;have HSL1:Hid (l1.length≤64):=Hi (HI1.out.num.len_bits (by have:=HMQ.out;rw[Int.natAbs_natCast];simpa using this));have HSL2:Hid (l2.length≤1):=Hi (hu2.len_bits (by decide));clear hb2 hge hs2 hu2;go_wp2_with fail;have hne:w.heap.size≠b2:=by have:=HGE.out;have:=HLT1.out;omega
   have HL1':=Hi (HL1.out.below HB2.out HL1.out.lt);refine(Qew w.heap.size 0 77 _ mq a1 c1 D l1 _ HL1'.out (Tryz.int_zero.put _ _ _ _ _) (by rw[Qgg];simp) (HI1.out.below HB2.out) (by have:=HD.out.2;omega) (by have:=HSL1.out;omega)).mono ?_;rintro e w3 ⟨rfl,a3,c3,l3,hl3⟩;have HO3:=Hi hl3.only;have HI3:=Hi (hl3.at (by rw[Qgg];simp));have HSL3:Hid (l3.length≤D+64):=Hi (hl3.num.len_bits (by
    rw[Int.natAbs_mul,Int.natAbs_natCast,Int.natAbs_natCast,Nat.pow_add,Nat.mul_comm]
    exact Nat.mul_lt_mul_of_pos_left HMQ.out (Nat.two_pow_pos _)))
   clear hl3;go_wp2_with fail;refine(Qbb bz s0 s1 s2 s3 w.heap.size 0 _ a3 c3 l3 b2 0 1 a2 c2 l2 w3 (Qey HS.out HB1.out HB2.out HO3.out (by have:=HLT.out;omega)) HNI.out HI3.out (HI2.out.only HO3.out HL1'.out (Tryz.int_zero.put _ _ _ _ _) (Ne.symm hne)) (by decide) (by have:=HSL3.out;have:=HD.out.2;omega) (by have:=HSL2.out;omega)).mono ?_;rintro e w4 hok;have HOK:=Hi hok;obtain⟨rfl,_,_⟩:=hok;go_wp2;go_ret;rw[show flo R N=mkRat ((mq:Int)*((2 ^ D:Nat):Int)) (1:Int).natAbs by
    rw[←HE.out,HR.out]
    exact(Qou HM.out HE0.out (by have:=HN.out;have:=HD.out.1;omega)).symm]
   exact RatOk.of (Only.of_below (Only.fresh (HB1.out.trans (HB2.out.mono HB1.out.size)) HO3.out (Nat.le_refl _))) HOK.out
  ·
   obtain⟨D,hD⟩:∃D:Nat,ee+D=1075:=⟨1075 - ee,by omega⟩;have t4:1075 - (ee:Int)=(D:Int):=by omega
   have t5:wrap64 (1075 - (ee:Int))=(D:Int):=by unfold wrap64;omega
   have t6:decide (1075≤(ee:Int))=false:=by simp;omega
   have t7:IntKind.u64.wrap (D:Int)=(D:Int):=by simp[IntKind.wrap,IntKind.bits,IntKind.signed];omega
   have HD:=Hi hD;clear hD h1 f6;go_enter Tryz.func42,Tryz.ntmps42;go_wp2_with fail;have hal:Below w.heap.size w (w.alloc (.cells #[.bool false,.slice none 0 0] 77)):=(Below.refl _ _).alloc (Nat.le_refl _) _;refine(Qex w.heap.size 0 77 _ mq _ (SB.new w 77 _) Tryz.int_zero (by simp) HMQ.out).mono ?_;rintro e w1 ⟨rfl,a1,c1,l1,hl1⟩;have hb1:Below w.heap.size w w1:=Only.fresh hal hl1.only (Nat.le_refl _);have HLT1:Hid (w.heap.size<w1.heap.size):=Hi (by have:=hl1.only.size;simp at this;omega);have HB1:=Hi hb1;have HI1:=Hi (hl1.at (by simp));have HL1:=Hi hl1.sb;clear hl1 hb1 hal;go_wp2_with fail;refine(Qay 1 w1 (by decide) (by decide)).mono ?_;rintro e w2 ⟨⟨b2,a2,c2,l2,rfl,hge,hs2,hu2⟩,hb2⟩;have HB2:=Hi hb2;have HGE:=Hi hge;have HL2:Hid (SB w2 b2 77 #[.bool false,.slice a2 l2.length c2]):=hs2;have HI2:Hid (IntAt w2 b2 0 1 a2 c2 l2):=Hi ⟨by rw[hs2.cell];rfl,by rw[hs2.cell];rfl,hu2,hs2.lt⟩
   have HSL1:Hid (l1.length≤64):=Hi (HI1.out.num.len_bits (by have:=HMQ.out;rw[Int.natAbs_natCast];simpa using this));have HSL2:Hid (l2.length≤1):=Hi (hu2.len_bits (by decide));clear hb2 hge hs2 hu2;go_wp2_with fail;refine(Qew b2 0 77 _ 1 a2 c2 D l2 _ HL2.out (Qdl _ _ _ _) (by simp) HI2.out (by have:=HD.out;omega) (by have:=HSL2.out;omega)).mono ?_;rintro e w3 ⟨rfl,a3,c3,l3,hl3⟩;have HO3:=Hi hl3.only;have HI3:=Hi (hl3.at (by simp));have HSL3:Hid (l3.length≤D+1):=Hi (hl3.num.len_bits (by rw[Int.one_mul,Int.natAbs_natCast];exact Nat.pow_lt_pow_right (by decide) (by omega)));clear hl3;go_wp2_with fail;have hne:w.heap.size≠b2:=by have:=HGE.out;have:=HLT1.out;omega
   refine(Qbb bz s0 s1 s2 s3 w.heap.size 0 mq a1 c1 l1 b2 0 _ a3 c3 l3 w3 (Qey HS.out HB1.out HB2.out HO3.out (by have:=HGE.out;have:=HLT1.out;have:=HLT.out;omega)) HNI.out ((HI1.out.below HB2.out).only HO3.out HL2.out (Qdl _ _ _ _) hne) HI3.out (by rw[Int.one_mul];exact Int.natCast_pos.2 (Nat.two_pow_pos _)) (by have:=HSL1.out;omega) (by have:=HSL3.out;have:=HD.out;omega)).mono ?_;rintro e w4 hok;have HOK:=Hi hok;obtain⟨rfl,_,_⟩:=hok;go_wp2;go_ret;rw[show flo R N=mkRat (mq:Int) ((1:Int)*((2 ^ D:Nat):Int)).natAbs by
    rw[Int.one_mul,Int.natAbs_natCast,←HE.out,HR.out]
    exact(Qot HM.out HE0.out (by have:=HN.out;have:=HD.out;omega)).symm]
   exact RatOk.of (Only.of_below (Only.fresh (HB1.out.trans (HB2.out.mono HB1.out.size)) HO3.out (by have:=HGE.out;have:=HLT1.out;omega))) HOK.out
set_option maxRecDepth 100000 in
set_option maxHeartbeats 1000000 in
theorem Qoo{x R:Nat}{e:Int}(w:World)(hx:x=4607182418800017408)(hR:R=8975674057349398528)(he:e=970):
 Calls Tryz.prog 85 #[.float .f64 x,.int .i64 e] w fun en w'=>en=.returned (.float .f64 R)∧w'=w:=by
 have HZ:=Hi (o_eq (a:=x) (b:=0) (by rw[hx];decide) (by decide));rw[decide_eq_false (by rw[hx];decide)] at HZ;have HI:=Hi (Qhk x w (by rw[hx];decide));have HN:=Hi (Qb5 x w (by rw[hx];decide));have HNO:=Hi (Qhm x w (by rw[hx];decide) (by rw[hx];decide));obtain⟨f,hf⟩:∃f:Nat,f=0:=⟨_,rfl⟩;have s3:bits .andNot .u64 (x:Int) 9218868437227405312=(f:Int):=by rw[hx,hf];decide
 have s1:(x:Int) / 4503599627370496=((1023:Nat):Int):=by rw[hx];decide
 obtain⟨B,hB⟩:∃B,B=1023:=⟨_,rfl⟩;rw[←hB] at s1;have s2:=Nea.and_exp (L:=B) (by omega);have s7:wrap64 (B:Int)=(B:Int):=by unfold wrap64;omega
 obtain⟨L,hL⟩:∃L:Nat,L=0:=⟨_,rfl⟩;obtain⟨g,hg⟩:∃g,e+(L:Int)=g:=⟨_,rfl⟩;have s4:wrap64 e=e:=by unfold wrap64;omega
 have s5:wrap64 ((B:Int) - 1023)=(L:Int):=by unfold wrap64;omega
 have s6:wrap64 (e+(L:Int))=g:=by unfold wrap64;omega
 have q1:decide (g< -1075)=false:=by simp;omega
 have q2:decide (1023<g)=false:=by simp;omega
 have q3:decide (g< -1022)=false:=by simp;omega
 obtain⟨E,hE⟩:∃E:Nat,E=1993:=⟨_,rfl⟩;have q4:wrap64 (g+1023)=(E:Int):=by unfold wrap64;omega
 have q6:bits .or .u64 (f:Int) ((E:Int)*4503599627370496)=(R:Int):=by rw[hf,hE,hR];decide
 have q7:=Qba R;have q8:FloatKind.f64.format.mul 4607182418800017408 R=some R:=by
  have h1:=Nea.mul_one' (F:=1992) (M:=4503599627370496) ⟨Or.inr (Nat.le_refl _),by decide⟩ (by decide) (by decide) (by decide);rw[hR];exact h1
 have q9:∀w,(binOp .mul 41 (.float .f64 4607182418800017408) (.float .f64 R)).run Tryz.prog w=.ok (.float .f64 R) w:=fun w=>run_float_arith w .mul _ .f64 _ _ R q8
 have hE2:E<2048:=by omega
 have hb:=Qa9 x;have z1:=HZ.out;clear hx hR hf hB hL hg hE he q8 HZ;go_enter Tryz.func85,Tryz.ntmps85;go_wp2_with fail;refine HI.out.mono ?_;rintro e1 w1 ⟨rfl,rfl⟩;go_wp2_with fail;refine HN.out.mono ?_;rintro e1 w2 ⟨rfl,rfl⟩;go_wp2_with fail;refine HNO.out.mono ?_;rintro e1 w3 ⟨rfl,rfl⟩;clear HI HN HNO z1;go_wp2;go_ret;exact⟨rfl,rfl⟩
set_option maxRecDepth 100000 in
set_option maxHeartbeats 400000 in
theorem Qhs(w:World):Calls Tryz.prog 43 #[.float .f64 4607182418800017408,.int .i64 970] w fun en w'=>en=.returned (.float .f64 8975674057349398528)∧w'=w:=by
 have HL:=Hi (Qoo (x:=4607182418800017408) (R:=8975674057349398528) (e:=970) w rfl rfl rfl);go_enter Tryz.func43,Tryz.ntmps43;go_wp2_with fail;refine HL.out.mono ?_;rintro e1 w1 ⟨rfl,rfl⟩;go_wp2;go_ret;exact⟨rfl,rfl⟩
set_option maxRecDepth 100000 in
set_option maxHeartbeats 1000000 in
theorem Qop{x y:Nat}(w:World)(h0:0<x)(hx:x≤9218868437227405312)(hy:x=y+1):Calls Tryz.prog 40 #[.float .f64 x,.float .f64 0] w fun en w'=>en=.returned (.float .f64 y)∧w'=w:=by
 have HN1:=Hi (Qb5 x w hx);have HN2:=Hi (Qb5 0 w (by decide));have z1:=o_eq (a:=x) (b:=0) hx (by decide);rw[decide_eq_false (by omega)] at z1;have z2:=o_gt (a:=0) (b:=x) (by decide) hx;rw[decide_eq_false (by omega)] at z2;have z3:=o_gt (a:=x) (b:=0) hx (by decide);rw[decide_eq_true h0] at z3;have z4:IntKind.u64.wrap ((x:Int) - 1)=(y:Int):=by simp[IntKind.wrap,IntKind.bits,IntKind.signed];omega
 have z5:(x:Int) - 1=(y:Int):=by omega
 have z6:=Qa9 x;have z7:=Qba y;clear h0;have hY:y<9218868437227405312:=by omega
 clear hx hy;go_enter Tryz.func40,Tryz.ntmps40;go_wp2_with fail;refine HN1.out.mono ?_;rintro e1 w1 ⟨rfl,rfl⟩;go_wp2_with fail;refine HN2.out.mono ?_;rintro e1 w2 ⟨rfl,rfl⟩;go_wp2;go_ret;exact⟨rfl,rfl⟩
set_option maxRecDepth 100000 in
set_option maxHeartbeats 1000000 in
theorem Qoq(w:World):Calls Tryz.prog 78 #[.float .f64 1,.float .f64 9218868437227405312] w fun en w'=>en=.returned (.float .f64 1)∧w'=w:=by
 have z6:∀w,(callFunc 38 #[.float .f64 1]).run Tryz.prog w=.ok (.value (.int .u64 1)) w:=Qa9 1;have z7:∀w,(callFunc 79 #[.int .u64 1]).run Tryz.prog w=.ok (.value (.float .f64 1)) w:=Qba 1;have z8:∀w,(callFunc 38 #[.float .f64 9218868437227405312]).run Tryz.prog w=.ok (.value (.int .u64 9218868437227405312)) w:=Qa9 9218868437227405312;have b1:bits .andNot .u64 1 9223372036854775808=1:=by decide
 have b2:bits .and .u64 9218868437227405312 9223372036854775808=0:=by decide
 have b3:bits .or .u64 1 0=1:=by decide
 go_enter Tryz.func78,Tryz.ntmps78;go_wp2;go_ret;exact⟨rfl,rfl⟩
set_option maxRecDepth 100000 in
set_option maxHeartbeats 1000000 in
theorem Qht{x y:Nat}(w:World)(hx:x<9218868437227405312)(hy:x+1=y):Calls Tryz.prog 40 #[.float .f64 x,.float .f64 9218868437227405312] w fun en w'=>en=.returned (.float .f64 y)∧w'=w:=by
 have HN1:=Hi (Qb5 x w (by omega));have HN2:=Hi (Qb5 9218868437227405312 w (by decide));have z1:=o_eq (a:=x) (b:=9218868437227405312) (by omega) (by decide);rw[decide_eq_false (by omega)] at z1;have z2:=o_gt (a:=9218868437227405312) (b:=x) (by decide) (by omega);rw[decide_eq_true (by omega)] at z2;have z3:=o_gt (a:=x) (b:=0) (by omega) (by decide);have z4:=o_eq (a:=x) (b:=0) (by omega) (by decide);have z6:=Qa9 x;have z7:=Qba y;by_cases h0:x=0
 ·
  rw[decide_eq_true h0] at z4;have hy1:y=1:=by omega
  subst h0 hy1;have HC:=Hi (Qoq w);have z9:∀w,(callFunc 79 #[.int .u64 1]).run Tryz.prog w=.ok (.value (.float .f64 1)) w:=Qba 1;clear hx hy z3;go_enter Tryz.func40,Tryz.ntmps40;go_wp2_with fail;refine HN1.out.mono ?_;rintro e1 w1 ⟨rfl,rfl⟩;go_wp2_with fail;refine HN2.out.mono ?_;rintro e1 w2 ⟨rfl,rfl⟩;go_wp2_with fail;refine HC.out.mono ?_;rintro e1 w3 ⟨rfl,rfl⟩;go_wp2;go_ret;exact⟨rfl,rfl⟩
 ·
  rw[decide_eq_false h0] at z4;rw[decide_eq_true (by omega)] at z3;have z5:(x:Int)+1=(y:Int):=by omega
  have z9:IntKind.u64.wrap ((x:Int)+1)=(y:Int):=by simp[IntKind.wrap,IntKind.bits,IntKind.signed];omega
  have hY:y≤9218868437227405312:=by omega
  clear hx hy h0;go_enter Tryz.func40,Tryz.ntmps40;go_wp2_with fail;refine HN1.out.mono ?_;rintro e1 w1 ⟨rfl,rfl⟩;go_wp2_with fail;refine HN2.out.mono ?_;rintro e1 w2 ⟨rfl,rfl⟩;go_wp2;go_ret;exact⟨rfl,rfl⟩
end Go.Proofs.YtodfmpjhcmapmaaGreatDoor
