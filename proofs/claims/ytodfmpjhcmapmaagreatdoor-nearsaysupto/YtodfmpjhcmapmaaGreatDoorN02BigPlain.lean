/- rafterbig's plain, small, length. -/
import Derived.Laws.BitsAllLaws
import Derived.Test.YtodfmpjhcmapmaaGreatDoorN01BigWords
namespace Go.Proofs.YtodfmpjhcmapmaaGreatDoor
set_option linter.unusedVariables false
theorem or64(x y:Int)(a b i:Nat)(hx:x=((2 ^ i*a:Nat):Int))(hy:y=(b:Int))(hb:b<2 ^ i)(hs:2 ^ i*a+b<18446744073709551616):bits .or .u64 x y=((2 ^ i*a+b:Nat):Int):=by
 subst hx;subst hy;rw[u64_or_nat _ _ (by omega) (by omega),Nat.two_pow_add_eq_or_of_lt hb]
theorem or64'(x y:Int)(a b i:Nat)(hx:x=((2 ^ i*a:Nat):Int))(hy:y=(b:Int))(hb:b<2 ^ i)(hs:2 ^ i*a+b<18446744073709551616):bits .or .u64 y x=((2 ^ i*a+b:Nat):Int):=by
 subst hx;subst hy;rw[u64_or_nat _ _ (by omega) (by omega),Nat.or_comm,Nat.two_pow_add_eq_or_of_lt hb]
theorem or32'(x y:Int)(a b i:Nat)(hx:x=((2 ^ i*a:Nat):Int))(hy:y=(b:Int))(hb:b<2 ^ i)(hs:2 ^ i*a+b<4294967296):bits .or .u32 y x=((2 ^ i*a+b:Nat):Int):=by
 subst hx;subst hy;rw[u32_or_nat _ _ (by omega) (by omega),Nat.or_comm,Nat.two_pow_add_eq_or_of_lt hb]
theorem Qfo(t:Nat)(h:0<t):nb (t / 2)+1=nb t:=by
 unfold nb;by_cases h1:t=1
 · subst h1;rfl
 ·
  rw[if_neg (by omega),if_neg (by omega)];have:t.log2=(t / 2).log2+1:=by
   rw[Nat.log2_def,if_pos (by omega)]
  omega
theorem Qj3(k low top:Nat)(h:low<2 ^ k)(ht:0<top):nb (low+2 ^ k*top)=k+nb top:=by
 have h1:=Qao top;have h2:nb (low+2 ^ k*top)≤k+nb top:=by
  apply nb_le;rw[Nat.pow_add];have:=Nat.mul_le_mul_left (2 ^ k) (show top+1≤2 ^ nb top by omega);rw[Nat.mul_add] at this;omega
 have h3:k+nb top≤nb (low+2 ^ k*top):=by
  have h4:2 ^ (nb top - 1)≤top:=Qbz (by have:=Qa3 ht;omega);have h5:2 ^ (k+(nb top - 1))≤low+2 ^ k*top:=by
   rw[Nat.pow_add];have:=Nat.mul_le_mul_left (2 ^ k) h4;omega
  apply Classical.byContradiction;intro hc;have h6:=Qao (low+2 ^ k*top);have h7:2 ^ nb (low+2 ^ k*top)≤2 ^ (k+(nb top - 1)):=Nat.pow_le_pow_right (by omega) (by omega);omega
 omega
theorem Num.nb_eq{q:Nat}{l:List Nat}{n:Nat}(h:Num (2 ^ q) l n)(hl:0<l.length):nb n=q*(l.length - 1)+nb (l.getD (l.length - 1) 0):=by
 have ht:0<l.getD (l.length - 1) 0:=by
  rcases h.trim with rfl|h1
  · simp at hl
  · omega
 have e:=Qai (2 ^ q) l (l.length - 1) (by omega);have e2:=Qal (2 ^ q) l (l.length - 1) (by omega);rw[show l.length - 1+1=l.length from by omega,List.drop_of_length_le (Nat.le_refl _)] at e2;simp only[val,Nat.mul_zero,Nat.add_zero] at e2;rw[h.eq,e2,←Nat.pow_mul] at e;have h3:=Qaa (Nat.pow_pos (by omega)) (h.small.take (l.length - 1));rw[List.length_take,Nat.min_eq_left (by omega),←Nat.pow_mul] at h3;rw[e,Qj3 _ _ _ h3 ht]
theorem Qj4(B j d e r:Nat)(rs l:List Nat)(hj:j<rs.length)(hl:j<l.length)(he:l.getD j 0=e)(h:val B (rs.drop (j+1))*d+r=val B (l.drop (j+1))):
 val B ((rs.set j ((B*r+e) / d)).drop j)*d+(B*r+e) % d=val B (l.drop j):=by
 rw[Qal B l j hl,he,←h,Qcd _ j (by simp;omega),Qbv,List.drop_set_of_lt (by omega),List.getD_eq_getElem?_getD,List.getElem?_set_self hj];have e1:=Nat.div_add_mod (B*r+e) d;simp only[Option.getD_some,Nat.add_mul];rw[Nat.mul_comm d] at e1;rw[Nat.mul_add,Nat.mul_assoc];omega
theorem Qc2{s:Nat}(hs:s<32):2 ^ s≤2147483648:=by
 have:=Nat.pow_le_pow_right (n:=2) (by omega) (show s≤31 by omega);exact this
theorem Qd0{s:Nat}(hs:s≤32):2 ^ s*2 ^ (32 - s)=4294967296:=by
 rw[←Nat.pow_add,show s+(32 - s)=32 from by omega]
theorem Qc3(d s:Nat)(hs:s≤32):d*2 ^ s % 4294967296=2 ^ s*(d % 2 ^ (32 - s)):=by
 rw[←Qd0 hs,Nat.mul_comm d,Nat.mul_mod_mul_left]
theorem Qj5(d s:Nat)(hs:s≤32):d*2 ^ s % 4294967296+2 ^ s≤4294967296:=by
 rw[Qc3 d s hs];have h1:d % 2 ^ (32 - s)+1≤2 ^ (32 - s):=Nat.mod_lt _ (Nat.pow_pos (by omega));have h2:=Nat.mul_le_mul_left (2 ^ s) h1;rw[Qd0 hs,Nat.mul_add] at h2;omega
theorem Qbu(n:Nat)(h:n<18446744073709551616):IntKind.u64.wrap (n:Int)=(n:Int):=by
 simp[IntKind.wrap,IntKind.signed,IntKind.bits];omega
theorem Qfp(d s z:Nat)(hs:s<32)(hd:d<4294967296)(hz:z<2 ^ s):
 bits .or .u32 (z:Int) (IntKind.u64.wrap ((d:Int)*2 ^ (s % 32)) % 4294967296)=((d*2 ^ s % 4294967296+z:Nat):Int)∧
 bits .or .u32 0 (IntKind.u64.wrap ((d:Int)*2 ^ (s % 32)) / 4294967296 % 4294967296)=((d*2 ^ s / 4294967296:Nat):Int)∧
 d*2 ^ s % 4294967296+z<4294967296∧d*2 ^ s / 4294967296<2 ^ s:=by
 have h1:=Qc2 hs;have h2:d*2 ^ s≤4294967295*2147483648:=Nat.mul_le_mul (by omega) h1;have h3:=Qj5 d s (by omega);have h4:d*2 ^ s / 4294967296<2 ^ s:=by
  rw[Nat.div_lt_iff_lt_mul (by omega),Nat.mul_comm (2 ^ s)];exact Nat.mul_lt_mul_of_pos_right hd (Nat.pow_pos (by omega))
 have e1:IntKind.u64.wrap ((d:Int)*2 ^ (s % 32))=((d*2 ^ s:Nat):Int):=by
  rw[Nat.mod_eq_of_lt hs];have:((d:Int)*2 ^ s)=((d*2 ^ s:Nat):Int):=by simp
  rw[this,Qbu _ (by omega)]
 rw[e1];refine⟨?_,?_,by omega,h4⟩
 · rw[or32' (((d*2 ^ s:Nat):Int) % 4294967296) (z:Int) (d % 2 ^ (32 - s)) z s (by rw[←Qc3 d s (by omega)];omega) rfl hz (by rw[←Qc3 d s (by omega)];omega),←Qc3 d s (by omega)]
 ·
  rw[show (((d*2 ^ s:Nat):Int) / 4294967296 % 4294967296)=((d*2 ^ s / 4294967296:Nat):Int) from by omega];have:=u32_or_nat 0 (d*2 ^ s / 4294967296) (by omega) (by omega);rw[Nat.zero_or] at this;exact this
theorem Qfq(k d s z:Nat)(rs l:List Nat)(hk:k+1<rs.length)(hd:l.getD k 0=d)(hz:rs.getD k 0=z)(h:val 4294967296 (rs.take (k+1))=val 4294967296 (l.take k)*2 ^ s):
 val 4294967296 (((rs.set k (d*2 ^ s % 4294967296+z)).set (k+1) (d*2 ^ s / 4294967296)).take (k+1+1))=val 4294967296 (l.take (k+1))*2 ^ s:=by
 rw[take_set _ _ _ (by simp;omega),Qak,List.length_take,Nat.min_eq_left (by simp;omega),take_set _ _ _ (by omega),Qak,List.length_take,Nat.min_eq_left (by omega)];rw[Qad,hz] at h;rw[Qad _ l,hd,Nat.add_mul,←h,Nat.pow_succ,Nat.mul_add,Nat.mul_assoc (4294967296 ^ k) d];have e:=Nat.mod_add_div (d*2 ^ s) 4294967296;have e2:4294967296 ^ k*(d*2 ^ s % 4294967296+4294967296*(d*2 ^ s / 4294967296))=4294967296 ^ k*(d*2 ^ s):=by rw[e]
 rw[Nat.mul_add,←Nat.mul_assoc] at e2;omega
theorem Qj6(d e s:Nat)(hs:s<32)(hd:d<4294967296):((4294967296*e+d) / 2 ^ s % 4294967296)*2 ^ s+d % 2 ^ s=d+4294967296*(e % 2 ^ s):=by
 have hp:0<2 ^ s:=Nat.pow_pos (by omega);have hpt:=Qd0 (s:=s) (by omega);generalize hP:2 ^ s=p at*;generalize hT:2 ^ (32 - s)=t at*;have e1:(4294967296*e+d) / p=t*e+d / p:=by
  rw[←hpt,Nat.mul_assoc,Nat.mul_add_div hp]
 have e2:=Nat.div_add_mod e p;have e3:t*e=4294967296*(e / p)+t*(e % p):=by
  conv=>lhs;rw[←e2]
  rw[Nat.mul_add,←Nat.mul_assoc,Nat.mul_comm t p,hpt]
 have h4:d / p<t:=by rw[Nat.div_lt_iff_lt_mul hp,Nat.mul_comm];omega
 have h5:e % p+1≤p:=Nat.mod_lt _ hp;have h6:=Nat.mul_le_mul_left t h5;rw[Nat.mul_add,Nat.mul_comm t p,hpt] at h6;rw[e1,e3,Nat.add_assoc,Nat.mul_add_mod,Nat.mod_eq_of_lt (by omega),Nat.add_mul];have e7:=Nat.div_add_mod d p;rw[Nat.mul_comm p] at e7;have e8:t*(e % p)*p=4294967296*(e % p):=by
  rw[Nat.mul_comm (t*(e % p)) p,←Nat.mul_assoc,hpt]
 omega
theorem Qfr(k d e s m0:Nat)(rs l:List Nat)(hs:s<32)(hdb:d<4294967296)(hk:k<rs.length)(hd:l.getD k 0=d)(he:l.getD (k+1) 0=e)
 (h:val 4294967296 (rs.take k)*2 ^ s+m0=val 4294967296 (l.take k)+4294967296 ^ k*(l.getD k 0 % 2 ^ s)):
 val 4294967296 ((rs.set k ((4294967296*e+d) / 2 ^ s % 4294967296)).take (k+1))*2 ^ s+m0=val 4294967296 (l.take (k+1))+4294967296 ^ (k+1)*(l.getD (k+1) 0 % 2 ^ s):=by
 have e1:=Qj6 d e s hs hdb;rw[take_set _ _ _ hk,Qak,List.length_take,Nat.min_eq_left (by omega),Qad _ l,hd,he,Nat.add_mul,Nat.pow_succ];rw[hd] at h;have e2:4294967296 ^ k*(((4294967296*e+d) / 2 ^ s % 4294967296)*2 ^ s+d % 2 ^ s)=4294967296 ^ k*(d+4294967296*(e % 2 ^ s)):=by rw[e1]
 rw[Nat.mul_add,Nat.mul_add,←Nat.mul_assoc,←Nat.mul_assoc] at e2;omega
theorem Qfs(v s:Nat)(hs:s<32):(v:Int) / 2 ^ (s % 32) % 4294967296=((v / 2 ^ s % 4294967296:Nat):Int):=by
 rw[Nat.mod_eq_of_lt hs];simp
open Go.RowKit
set_option maxHeartbeats 400000 in
theorem Qbt(a:Option Addr)(cap:Nat)(l:List Nat)(x:Nat)(w:World)(h:U32 w a cap l x)(hl:l.length≤2):
 Calls Tryz.prog 171 #[.slice a l.length cap] w fun e w'=>e=.returned (.int .u64 x)∧w'=w:=by
 have hx:=h.num.eq
 match l,hl,h,hx with
 | [],_,h,hx=>
   simp only[val] at hx;subst hx;go_enter Tryz.func171,Tryz.ntmps171;go_wp2;go_ret;exact⟨rfl,rfl⟩
 | [d],_,h,hx=>
   obtain⟨b,off,rfl,hb1,hc1⟩:=h.row.cell 0 (by simp);have hd:d<4294967296:=h.num.small d (by simp);simp[val] at hx hc1;subst hx;clear h;go_enter Tryz.func171,Tryz.ntmps171;go_wp2;go_ret;exact⟨rfl,rfl⟩
 | [d,e],_,h,hx=>
   obtain⟨b,off,rfl,hb1,hc1⟩:=h.row.cell 0 (by simp);obtain⟨b',off',e1,hb2,hc2⟩:=h.row.cell 1 (by simp);obtain⟨rfl,rfl⟩:b=b'∧off=off':=by simpa using e1
   have hd:d<4294967296:=h.num.small d (by simp);have he:e<4294967296:=h.num.small e (by simp);simp[val] at hx hc1 hc2;have HX:Hid (d+4294967296*e=x):=hx;have hor:bits .or .u64 (d:Int) ((e:Int)*4294967296)=(x:Int):=by
    rw[or64' ((e:Int)*4294967296) (d:Int) e d 32 (by omega) rfl hd (by omega)];omega
   clear h e1 hx;go_enter Tryz.func171,Tryz.ntmps171;go_wp2;go_ret;exact⟨rfl,rfl⟩
set_option maxHeartbeats 1000000 in
theorem Qjv(a:Option Addr)(cap d:Nat)(l:List Nat)(x:Nat)(w:World)(h:U32 w a cap l x)(hd0:0<d)(hd:d<4294967296):
 Calls Tryz.prog 172 #[.slice a l.length cap,.int .u32 d] w fun e w'=>(∃a cap r,e=.returned (.tuple #[.slice a r.length cap,.int .u32 (x % d:Nat)])∧U32 w' a cap r (x / d))∧Below w.heap.size w w':=by
 have s1:=h.short;have hmk:∀w,(Instr.makeSlice 75 (.int .i64 (l.length:Int)) (.int .i64 (l.length:Int))).run Tryz.prog w=.ok (.slice (some ⟨w.heap.size,0,none⟩) l.length l.length) (w.alloc (.cells (wordCells .u32 (zeros l.length)) 172)):=
  fun w=>Qa0 _ l.length rfl (by omega) w
 go_enter Tryz.func172,Tryz.ntmps172;go_wp2;clear hmk;go_loopw [7,8] (fun r i wr=>∃(k r':Nat) (rs:List Nat),k≤l.length∧r'<d∧r=.int .u64 r'∧i=.int .i64 ((k:Int) - 1)∧Blk .u32 172 wr w.heap.size rs∧rs.length=l.length∧Small 4294967296 rs∧
  val 4294967296 (rs.drop k)*d+r'=val 4294967296 (l.drop k)∧Below w.heap.size w wr) (fun _ i _=>(intOf i+1).toNat)
 case atStart=>exact⟨l.length,0,zeros l.length,Nat.le_refl _,hd0,rfl,rfl,Blk.new _ _ _ _,Qac _,Qah _ _ (by omega),by rw[List.drop_of_length_le (by rw[Qac];exact Nat.le_refl _),List.drop_of_length_le (Nat.le_refl _)];simp[val],(Below.refl _ _).alloc (Nat.le_refl _) _⟩
 case round=>
  obtain⟨k,r,rs,hk,hr,rfl,rfl,hB,hrl,hrs,hv,hb⟩:=hrel;have HV:Hid (val 4294967296 (rs.drop k)*d+r=val 4294967296 (l.drop k)):=hv;have HRL:Hid (rs.length=l.length):=hrl;have HB:Hid (Blk .u32 172 wr w.heap.size rs):=hB;have HRS:Hid (Small 4294967296 rs):=hrs;clear hv hrs;by_cases h0:k=0
  ·
   subst h0;have e2:=HV.out;simp only[List.drop_zero,h.num.eq] at e2;have hq:val 4294967296 rs=x / d:=by
    rw[←e2,Nat.mul_comm,Nat.mul_add_div hd0,Nat.div_eq_of_lt hr,Nat.add_zero]
   have hm:x % d=r:=by
    rw[←e2,Nat.mul_comm,Nat.mul_add_mod,Nat.mod_eq_of_lt hr]
   have HM:Hid (x % d=r):=hm;clear hrl hB e2 hm;have HQ:Hid (val 4294967296 rs=x / d):=hq;clear hq;go_wp2_with fail;refine(Qap w.heap.size l.length l.length (x / d) rs _ HB.out HRL.out HRS.out (Nat.le_refl _) (by omega) HQ.out).mono ?_;rintro e w1 ⟨⟨a,cap,r,rfl,hu⟩,rfl⟩;go_wp2;go_ret2;exact⟨⟨a,cap,r,by rw[HM.out];rfl,hu⟩,hb⟩
  ·
   obtain⟨j,rfl⟩:∃j,k=j+1:=⟨k - 1,by omega⟩;obtain⟨b,off,rfl,hb1,hc1⟩:=h.row.cell j (by omega);obtain⟨e,he⟩:∃e,l.getD j 0=e:=⟨_,rfl⟩;have heb:e<4294967296:=by rw[←he];exact h.num.small.getD (by omega) j
   rw[he] at hc1;have hc1':=(hb.cell (p:=⟨b,off+j,none⟩) hb1).trans hc1;have H1:Hid (l.getD j 0=e):=he;obtain⟨z,hz⟩:∃z,rs.getD j 0=z:=⟨_,rfl⟩;have g1:=hB.free j;have g2:=hB.cell j (by omega);rw[hz] at g2;clear he hc1 hz hB hrl;have ei:((j+1:Nat):Int) - 1=(j:Int):=by omega
   rw[ei];clear ei;have hne:((d:Int) == 0)=false:=by rw[beq_eq_false_iff_ne];omega
   obtain⟨s,hs⟩:∃s,4294967296*r+e=s:=⟨_,rfl⟩;have hor:bits .or .u64 ((r:Int)*4294967296) (e:Int)=(s:Int):=by
    rw[or64 ((r:Int)*4294967296) (e:Int) r e 32 (by omega) rfl heb (by omega)];omega
   obtain⟨q,hq⟩:∃q,s / d=q:=⟨_,rfl⟩;obtain⟨r',hr'⟩:∃r',s % d=r':=⟨_,rfl⟩;have hqb:q<4294967296:=by
    rw[←hq,Nat.div_lt_iff_lt_mul hd0];have:=Nat.mul_le_mul_left 4294967296 (show r+1≤d by omega);omega
   have hrb:r'<d:=by rw[←hr'];exact Nat.mod_lt _ hd0
   have hst:=Qj4 4294967296 j d e r rs l (by have:=HRL.out;omega) (by omega) H1.out HV.out;rw[hs,hq,hr'] at hst;have t1:(s:Int) / (d:Int)=(q:Int):=by rw[←hq];simp
   have t2:(s:Int) % (d:Int)=(r':Int):=by rw[←hr'];simp
   have hsb:s<18446744073709551616:=by omega
   have HST:Hid (val 4294967296 ((rs.set j q).drop j)*d+r'=val 4294967296 (l.drop j)):=hst;clear hq hr' hst hs;go_wp2;go_roundw
   case rel=>exact⟨j,r',rs.set j q,by omega,hrb,by rw[t2],rfl,HB.out.set j q,by rw[List.length_set];exact HRL.out,HRS.out.set j hqb,HST.out,hb.setCell (Nat.le_refl _) _⟩
   case measure=>simp[intOf]
set_option maxHeartbeats 400000 in
theorem Qjw(a:Option Addr)(cap:Nat)(l:List Nat)(x:Nat)(w:World)(h:U32 w a cap l x):
 Calls Tryz.prog 173 #[.slice a l.length cap] w fun e w'=>e=.returned (.int .i64 (nb x))∧w'=w:=by
 have s1:=h.short;by_cases h0:l.length=0
 ·
  have hx:x=0:=(h.num.len_zero (by omega)).2 h0;have q1:((l.length:Int) == 0)=true:=by simp[h0]
  subst hx;clear h0;go_enter Tryz.func173,Tryz.ntmps173;go_wp2;go_ret;exact⟨rfl,rfl⟩
 ·
  have q1:((l.length:Int) == 0)=false:=by rw[beq_eq_false_iff_ne];omega
  have hnb:=Num.nb_eq (q:=32) h.num (by omega);obtain⟨b,off,rfl,hb1,hc1⟩:=h.row.cell (l.length - 1) (by omega);obtain⟨t,ht⟩:∃t,l.getD (l.length - 1) 0=t:=⟨_,rfl⟩;have htb:t<4294967296:=by rw[←ht];exact h.num.small.getD (by omega) _
  have htn:nb t≤32:=nb_le (by omega);rw[ht] at hc1 hnb;have HN:Hid (nb x=32*(l.length - 1)+nb t):=hnb;clear ht hnb;obtain⟨j,hj⟩:∃j,l.length=j+1:=⟨l.length - 1,by omega⟩;rw[hj] at hc1 HN q1 s1 ⊢;clear hj h0;simp only[Nat.add_sub_cancel] at hc1 HN;go_enter Tryz.func173,Tryz.ntmps173;go_wp2;go_loop [3,4] (fun n v=>∃m u:Nat,nb u+m=nb t∧u<4294967296∧n=.int .i64 m∧v=.int .u32 u) (fun n v=>nb (intOf v).toNat)
  case atStart=>exact⟨0,t,rfl,htb,rfl,rfl⟩
  case round=>
   obtain⟨m,u,hmu,hub,rfl,rfl⟩:=hrel;have HM:Hid (nb u+m=nb t):=hmu;have hm32:m≤32:=by omega
   clear hmu;by_cases hu:u=0
   ·
    subst hu;have q2:(((0:Nat):Int) != 0)=false:=by simp
    go_wp2;go_ret;refine⟨?_,rfl⟩;have e1:=HM.out;have e2:=HN.out;rw[Qka] at e1;exact congrArg (fun n:Int=>Ending.returned (.int .i64 n)) (by omega)
   ·
    have q2:((u:Int) != 0)=true:=by rw[bne_iff_ne];omega
    go_wp2;go_round
    case rel=>exact⟨m+1,u / 2,by have:=Qfo u (by omega);have:=HM.out;omega,by omega,by go_num,congrArg (Value.int IntKind.u32) (by omega)⟩
    case measure=>
     have e1:=Qfo u (by omega)
     show nb (((u:Int) / 2).toNat)<nb ((u:Int).toNat)
     rw[show ((u:Int) / 2).toNat=u / 2 from by omega,Int.toNat_natCast];omega
end Go.Proofs.YtodfmpjhcmapmaaGreatDoor
