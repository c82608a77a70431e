/- rafterbig's words, twin, plain. -/
import Derived.Test.YtodfmpjhcmapmaaGreatDoorN00BigTrim
import Derived.Laws.AppendOwnNone
namespace Go.Proofs.YtodfmpjhcmapmaaGreatDoor
open Go.RowKit
set_option linter.unusedVariables false
set_option maxHeartbeats 1000000 in
theorem Qfj(a1 a2:Option Addr)(c1 c2:Nat)(l m:List Nat)(x y:Nat)(w:World)(h1:U32 w a1 c1 l x)(h2:U32 w a2 c2 m y)(hl:l.length<1099511627776)(hm:m.length<1099511627776):
 Calls Tryz.prog 97 #[.slice a1 l.length c1,.slice a2 m.length c2] w fun e w'=>(∃a cap r,e=.returned (.slice a r.length cap)∧U32 w' a cap r (x+y))∧Below w.heap.size w w':=by
 by_cases hsw:l.length<m.length
 ·
  have hmk:∀w,(Instr.makeSlice 75 (.int .i64 ((m.length:Int)+1)) (.int .i64 ((m.length:Int)+1))).run Tryz.prog w=.ok (.slice (some ⟨w.heap.size,0,none⟩) (m.length+1) (m.length+1)) (w.alloc (.cells (wordCells .u32 (zeros (m.length+1))) 172)):=
   fun w=>Qa0 _ (m.length+1) (by omega) (by omega) w
  go_enter Tryz.func97,Tryz.ntmps97;go_wp2;clear hmk;go_loopw [6,7] (fun c i wr=>∃(k c':Nat) (rs:List Nat),k≤m.length∧c'≤1∧c=.int .u64 c'∧i=.int .i64 k∧Blk .u32 172 wr w.heap.size rs∧rs.length=m.length+1∧Small 4294967296 rs∧
   val 4294967296 (rs.take k)+4294967296 ^ k*c'=val 4294967296 (m.take k)+val 4294967296 (l.take k)∧Below w.heap.size w wr) (fun _ i _=>m.length - (intOf i).toNat)
  case atStart=>exact⟨0,0,zeros (m.length+1),by omega,by omega,rfl,rfl,Blk.new _ _ _ _,Qac _,Qah _ _ (by omega),by simp[val],(Below.refl _ _).alloc (Nat.le_refl _) _⟩
  case round=>
   obtain⟨k,c,rs,hk,hc,rfl,rfl,hB,hrl,hrs,hv,hb⟩:=hrel;have HV:Hid (val 4294967296 (rs.take k)+4294967296 ^ k*c=val 4294967296 (m.take k)+val 4294967296 (l.take k)):=hv;have HRL:Hid (rs.length=m.length+1):=hrl;have HB:Hid (Blk .u32 172 wr w.heap.size rs):=hB;clear hv;by_cases hlt:k<m.length
   ·
    obtain⟨b,off,rfl,hb1,hc1⟩:=h2.row.cell k hlt;obtain⟨d,hd⟩:∃d,m.getD k 0=d:=⟨_,rfl⟩;have hdb:d<4294967296:=by rw[←hd];exact h2.num.small.getD (by omega) k
    rw[hd] at hc1;have hc1':=(hb.cell (p:=⟨b,off+k,none⟩) hb1).trans hc1;have H1:Hid (m.getD k 0=d):=hd;obtain⟨z,hz⟩:∃z,rs.getD k 0=z:=⟨_,rfl⟩;have g1:=hB.free k;have g2:=hB.cell k (by omega);rw[hz] at g2;clear hd hc1 hz hB hrl;by_cases hlm:k<l.length
    ·
     obtain⟨b',off',rfl,hb2,hc2⟩:=h1.row.cell k hlm;obtain⟨e,he⟩:∃e,l.getD k 0=e:=⟨_,rfl⟩;have heb:e<4294967296:=by rw[←he];exact h1.num.small.getD (by omega) k
     rw[he] at hc2;have hc2':=(hb.cell (p:=⟨b',off'+k,none⟩) hb2).trans hc2;have H2:Hid (l.getD k 0=e):=he;clear he hc2;have ev:Hid (((c:Int)+d+e) % 4294967296=(((c+(d+e)) % 4294967296:Nat):Int)):=by unfold Hid;omega
     have ec:Hid (((c:Int)+d+e) / 4294967296=(((c+(d+e)) / 4294967296:Nat):Int)):=by unfold Hid;omega
     go_wp2;go_roundw
     case rel=>
      rw[ev.out,ec.out];exact⟨k+1,(c+(d+e)) / 4294967296,rs.set k ((c+(d+e)) % 4294967296),by omega,by omega,rfl,by go_num,HB.out.set k _,by rw[List.length_set];exact HRL.out,hrs.set k (by omega),Qc8 k c d e rs m l (by have:=HRL.out;omega) H1.out H2.out HV.out,hb.setCell (Nat.le_refl _) _⟩
     case measure=>simp[intOf];omega
    ·
     have ev:Hid (((c:Int)+d) % 4294967296=(((c+(d+0)) % 4294967296:Nat):Int)):=by unfold Hid;omega
     have ec:Hid (((c:Int)+d) / 4294967296=(((c+(d+0)) / 4294967296:Nat):Int)):=by unfold Hid;omega
     go_wp2;go_roundw
     case rel=>
      rw[ev.out,ec.out];exact⟨k+1,(c+(d+0)) / 4294967296,rs.set k ((c+(d+0)) % 4294967296),by omega,by omega,rfl,by go_num,HB.out.set k _,by rw[List.length_set];exact HRL.out,hrs.set k (by omega),Qc8 k c d 0 rs m l (by have:=HRL.out;omega) H1.out (Qbm l k (by omega)) HV.out,hb.setCell (Nat.le_refl _) _⟩
     case measure=>simp[intOf];omega
   ·
    obtain⟨z,hz⟩:∃z,rs.getD m.length 0=z:=⟨_,rfl⟩;have g1:=hB.free m.length;have g2:=hB.cell m.length (by omega);rw[hz] at g2;clear hz hB hrl;go_wp2_with fail;have hl1:(rs.set m.length c).length=m.length+1:=by rw[List.length_set];exact HRL.out
    have hB2:Blk .u32 172 (wr.setCell ⟨w.heap.size,m.length,none⟩ (.int .u32 (c:Int))) w.heap.size (rs.set m.length c):=HB.out.set m.length c;have hvv:val 4294967296 (rs.set m.length c)=x+y:=by
     rw[Qd3 _ _ _ _ HRL.out];have e1:k=m.length:=by omega
     have e2:=HV.out;rw[e1,List.take_length,Qa2 _ l _ (by omega),h2.num.eq,h1.num.eq] at e2;omega
    refine(Qap w.heap.size (m.length+1) (m.length+1) (x+y) (rs.set m.length c) _ hB2 hl1 (hrs.set _ (by omega)) (Nat.le_refl _) (by omega) hvv).mono ?_;rintro e w1 ⟨⟨a,cap,r,rfl,hu⟩,rfl⟩;go_wp2;go_ret;exact⟨⟨a,cap,r,rfl,hu⟩,hb.setCell (Nat.le_refl _) _⟩
 ·
  have hmk:∀w,(Instr.makeSlice 75 (.int .i64 ((l.length:Int)+1)) (.int .i64 ((l.length:Int)+1))).run Tryz.prog w=.ok (.slice (some ⟨w.heap.size,0,none⟩) (l.length+1) (l.length+1)) (w.alloc (.cells (wordCells .u32 (zeros (l.length+1))) 172)):=
   fun w=>Qa0 _ (l.length+1) (by omega) (by omega) w
  go_enter Tryz.func97,Tryz.ntmps97;go_wp2;clear hmk;go_loopw [6,7] (fun c i wr=>∃(k c':Nat) (rs:List Nat),k≤l.length∧c'≤1∧c=.int .u64 c'∧i=.int .i64 k∧Blk .u32 172 wr w.heap.size rs∧rs.length=l.length+1∧Small 4294967296 rs∧
   val 4294967296 (rs.take k)+4294967296 ^ k*c'=val 4294967296 (l.take k)+val 4294967296 (m.take k)∧Below w.heap.size w wr) (fun _ i _=>l.length - (intOf i).toNat)
  case atStart=>exact⟨0,0,zeros (l.length+1),by omega,by omega,rfl,rfl,Blk.new _ _ _ _,Qac _,Qah _ _ (by omega),by simp[val],(Below.refl _ _).alloc (Nat.le_refl _) _⟩
  case round=>
   obtain⟨k,c,rs,hk,hc,rfl,rfl,hB,hrl,hrs,hv,hb⟩:=hrel;have HV:Hid (val 4294967296 (rs.take k)+4294967296 ^ k*c=val 4294967296 (l.take k)+val 4294967296 (m.take k)):=hv;have HRL:Hid (rs.length=l.length+1):=hrl;have HB:Hid (Blk .u32 172 wr w.heap.size rs):=hB;clear hv;by_cases hlt:k<l.length
   ·
    obtain⟨b,off,rfl,hb1,hc1⟩:=h1.row.cell k hlt;obtain⟨d,hd⟩:∃d,l.getD k 0=d:=⟨_,rfl⟩;have hdb:d<4294967296:=by rw[←hd];exact h1.num.small.getD (by omega) k
    rw[hd] at hc1;have hc1':=(hb.cell (p:=⟨b,off+k,none⟩) hb1).trans hc1;have H1:Hid (l.getD k 0=d):=hd;obtain⟨z,hz⟩:∃z,rs.getD k 0=z:=⟨_,rfl⟩;have g1:=hB.free k;have g2:=hB.cell k (by omega);rw[hz] at g2;clear hd hc1 hz hB hrl;by_cases hlm:k<m.length
    ·
     obtain⟨b',off',rfl,hb2,hc2⟩:=h2.row.cell k hlm;obtain⟨e,he⟩:∃e,m.getD k 0=e:=⟨_,rfl⟩;have heb:e<4294967296:=by rw[←he];exact h2.num.small.getD (by omega) k
     rw[he] at hc2;have hc2':=(hb.cell (p:=⟨b',off'+k,none⟩) hb2).trans hc2;have H2:Hid (m.getD k 0=e):=he;clear he hc2;have ev:Hid (((c:Int)+d+e) % 4294967296=(((c+(d+e)) % 4294967296:Nat):Int)):=by unfold Hid;omega
     have ec:Hid (((c:Int)+d+e) / 4294967296=(((c+(d+e)) / 4294967296:Nat):Int)):=by unfold Hid;omega
     go_wp2;go_roundw
     case rel=>
      rw[ev.out,ec.out];exact⟨k+1,(c+(d+e)) / 4294967296,rs.set k ((c+(d+e)) % 4294967296),by omega,by omega,rfl,by go_num,HB.out.set k _,by rw[List.length_set];exact HRL.out,hrs.set k (by omega),Qc8 k c d e rs l m (by have:=HRL.out;omega) H1.out H2.out HV.out,hb.setCell (Nat.le_refl _) _⟩
     case measure=>simp[intOf];omega
    ·
     have ev:Hid (((c:Int)+d) % 4294967296=(((c+(d+0)) % 4294967296:Nat):Int)):=by unfold Hid;omega
     have ec:Hid (((c:Int)+d) / 4294967296=(((c+(d+0)) / 4294967296:Nat):Int)):=by unfold Hid;omega
     go_wp2;go_roundw
     case rel=>
      rw[ev.out,ec.out];exact⟨k+1,(c+(d+0)) / 4294967296,rs.set k ((c+(d+0)) % 4294967296),by omega,by omega,rfl,by go_num,HB.out.set k _,by rw[List.length_set];exact HRL.out,hrs.set k (by omega),Qc8 k c d 0 rs l m (by have:=HRL.out;omega) H1.out (Qbm m k (by omega)) HV.out,hb.setCell (Nat.le_refl _) _⟩
     case measure=>simp[intOf];omega
   ·
    obtain⟨z,hz⟩:∃z,rs.getD l.length 0=z:=⟨_,rfl⟩;have g1:=hB.free l.length;have g2:=hB.cell l.length (by omega);rw[hz] at g2;clear hz hB hrl;go_wp2_with fail;have hl1:(rs.set l.length c).length=l.length+1:=by rw[List.length_set];exact HRL.out
    have hB2:Blk .u32 172 (wr.setCell ⟨w.heap.size,l.length,none⟩ (.int .u32 (c:Int))) w.heap.size (rs.set l.length c):=HB.out.set l.length c;have hvv:val 4294967296 (rs.set l.length c)=x+y:=by
     rw[Qd3 _ _ _ _ HRL.out];have e1:k=l.length:=by omega
     have e2:=HV.out;rw[e1,List.take_length,Qa2 _ m _ (by omega),h1.num.eq,h2.num.eq] at e2;omega
    refine(Qap w.heap.size (l.length+1) (l.length+1) (x+y) (rs.set l.length c) _ hB2 hl1 (hrs.set _ (by omega)) (Nat.le_refl _) (by omega) hvv).mono ?_;rintro e w1 ⟨⟨a,cap,r,rfl,hu⟩,rfl⟩;go_wp2;go_ret;exact⟨⟨a,cap,r,rfl,hu⟩,hb.setCell (Nat.le_refl _) _⟩
set_option maxHeartbeats 1000000 in
theorem Qfn(a1 a2:Option Addr)(c1 c2:Nat)(l m:List Nat)(x y:Nat)(w:World)(h1:U32 w a1 c1 l x)(h2:U32 w a2 c2 m y)(hyx:y≤x):
 Calls Tryz.prog 165 #[.slice a1 l.length c1,.slice a2 m.length c2] w fun e w'=>(∃a cap r,e=.returned (.slice a r.length cap)∧U32 w' a cap r (x - y))∧Below w.heap.size w w':=by
 have hml:m.length≤l.length:=by
  apply Classical.byContradiction;intro hc;have:=Qaq (B:=4294967296) (by omega) h1.num.small h2.num.trim (by omega);rw[h1.num.eq,h2.num.eq] at this;omega
 have s1:=h1.short;have hmk:∀w,(Instr.makeSlice 75 (.int .i64 (l.length:Int)) (.int .i64 (l.length:Int))).run Tryz.prog w=.ok (.slice (some ⟨w.heap.size,0,none⟩) l.length l.length) (w.alloc (.cells (wordCells .u32 (zeros l.length)) 172)):=
  fun w=>Qa0 _ l.length rfl (by omega) w
 go_enter Tryz.func165,Tryz.ntmps165;go_wp2;clear hmk;go_loopw [6,7] (fun c i wr=>∃(k c':Nat) (rs:List Nat),k≤l.length∧c'≤1∧c=.int .u64 c'∧i=.int .i64 k∧Blk .u32 172 wr w.heap.size rs∧rs.length=l.length∧Small 4294967296 rs∧
  val 4294967296 (rs.take k)+val 4294967296 (m.take k)=val 4294967296 (l.take k)+4294967296 ^ k*c'∧Below w.heap.size w wr) (fun _ i _=>l.length - (intOf i).toNat)
 case atStart=>exact⟨0,0,zeros l.length,by omega,by omega,rfl,rfl,Blk.new _ _ _ _,Qac _,Qah _ _ (by omega),by simp[val],(Below.refl _ _).alloc (Nat.le_refl _) _⟩
 case round=>
  obtain⟨k,c,rs,hk,hc,rfl,rfl,hB,hrl,hrs,hv,hb⟩:=hrel;have HV:Hid (val 4294967296 (rs.take k)+val 4294967296 (m.take k)=val 4294967296 (l.take k)+4294967296 ^ k*c):=hv;have HRL:Hid (rs.length=l.length):=hrl;have HB:Hid (Blk .u32 172 wr w.heap.size rs):=hB;clear hv;by_cases hlt:k<l.length
  ·
   obtain⟨b,off,rfl,hb1,hc1⟩:=h1.row.cell k hlt;obtain⟨d,hd⟩:∃d,l.getD k 0=d:=⟨_,rfl⟩;have hdb:d<4294967296:=by rw[←hd];exact h1.num.small.getD (by omega) k
   rw[hd] at hc1;have hc1':=(hb.cell (p:=⟨b,off+k,none⟩) hb1).trans hc1;have H1:Hid (l.getD k 0=d):=hd;obtain⟨z,hz⟩:∃z,rs.getD k 0=z:=⟨_,rfl⟩;have g1:=hB.free k;have g2:=hB.cell k (by omega);rw[hz] at g2;clear hd hc1 hz hB hrl;by_cases hlm:k<m.length
   ·
    obtain⟨b',off',rfl,hb2,hc2⟩:=h2.row.cell k hlm;obtain⟨e,he⟩:∃e,m.getD k 0=e:=⟨_,rfl⟩;have heb:e<4294967296:=by rw[←he];exact h2.num.small.getD (by omega) k
    rw[he] at hc2;have hc2':=(hb.cell (p:=⟨b',off'+k,none⟩) hb2).trans hc2;have H2:Hid (m.getD k 0=e):=he;clear he hc2;obtain⟨r,c',hr1,hr2,hr3,hr4,hr5⟩:=Qf1 d c e hdb heb hc;have R3:Hid (r+c+e=d+4294967296*c'):=hr3;have R4:Hid (((((d:Int) - c) % 18446744073709551616 - e) % 18446744073709551616) % 4294967296=(r:Int)):=hr4;have R5:Hid (((((d:Int) - c) % 18446744073709551616 - e) % 18446744073709551616) / 9223372036854775808=(c':Int)):=hr5;clear hr3 hr4 hr5;go_wp2;go_roundw
    case rel=>
     simp only[Qam,R4.out,R5.out];exact⟨k+1,c',rs.set k r,by omega,hr2,rfl,by go_num,HB.out.set k _,by rw[List.length_set];exact HRL.out,hrs.set k hr1,Qd4 _ k c d e r c' rs l m (by have:=HRL.out;omega) H1.out H2.out R3.out HV.out,hb.setCell (Nat.le_refl _) _⟩
    case measure=>simp[intOf];omega
   ·
    obtain⟨r,c',hr1,hr2,hr3,hr4,hr5⟩:=Qf1 d c 0 hdb (by omega) hc;have R3:Hid (r+c+0=d+4294967296*c'):=hr3;have R4:Hid ((((d:Int) - c) % 18446744073709551616) % 4294967296=(r:Int)):=by unfold Hid;omega
    have R5:Hid ((((d:Int) - c) % 18446744073709551616) / 9223372036854775808=(c':Int)):=by unfold Hid;omega
    clear hr3 hr4 hr5;go_wp2;go_roundw
    case rel=>
     simp only[Qam,R4.out,R5.out];exact⟨k+1,c',rs.set k r,by omega,hr2,rfl,by go_num,HB.out.set k _,by rw[List.length_set];exact HRL.out,hrs.set k hr1,Qd4 _ k c d 0 r c' rs l m (by have:=HRL.out;omega) H1.out (Qbm m k (by omega)) R3.out HV.out,hb.setCell (Nat.le_refl _) _⟩
    case measure=>simp[intOf];omega
  ·
   have hvv:val 4294967296 rs=x - y:=by
    have e1:k=l.length:=by omega
    have e2:=HV.out;rw[e1,List.take_length,Qa2 _ m _ (by omega),List.take_of_length_le (by omega),h1.num.eq,h2.num.eq] at e2;have e3:=Qaa (B:=4294967296) (by omega) hrs;rw[hrl] at e3;have e4:c=0:=by
     apply Classical.byContradiction;intro hc0;have:c=1:=by omega
     subst this;omega
    subst e4;omega
   clear hrl hB;go_wp2_with fail;refine(Qap w.heap.size l.length l.length (x - y) rs _ HB.out HRL.out hrs (Nat.le_refl _) (by omega) hvv).mono ?_;rintro e w1 ⟨⟨a,cap,r,rfl,hu⟩,rfl⟩;go_wp2;go_ret;exact⟨⟨a,cap,r,rfl,hu⟩,hb⟩
set_option maxHeartbeats 2000000 in
theorem Qfl(a1 a2:Option Addr)(c1 c2:Nat)(l m:List Nat)(x y:Nat)(w:World)(h1:U32 w a1 c1 l x)(h2:U32 w a2 c2 m y)(hlm:l.length+m.length≤1099511627776):
 Calls Tryz.prog 98 #[.slice a1 l.length c1,.slice a2 m.length c2] w fun e w'=>(∃a cap r,e=.returned (.slice a r.length cap)∧U32 w' a cap r (x*y))∧Below w.heap.size w w':=by
 by_cases hx0:l.length=0
 ·
  have hx:x=0:=(h1.num.len_zero (by omega)).2 hx0;have q1:((l.length:Int) == 0)=true:=by simp[hx0]
  have HX:Hid (x=0):=hx;clear hx0 hx;go_enter Tryz.func98,Tryz.ntmps98;go_wp2;go_ret;exact⟨⟨none,0,[],rfl,by rw[HX.out,Nat.zero_mul];exact⟨Row.nil _ _,Num.zero _,by simp⟩⟩,Below.refl _ _⟩
 by_cases hy0:m.length=0
 ·
  have hy:y=0:=(h2.num.len_zero (by omega)).2 hy0;have q1:((l.length:Int) == 0)=false:=by rw[beq_eq_false_iff_ne];omega
  have q2:((m.length:Int) == 0)=true:=by simp[hy0]
  have HX:Hid (y=0):=hy;clear hy0 hy;go_enter Tryz.func98,Tryz.ntmps98;go_wp2;go_ret;exact⟨⟨none,0,[],rfl,by rw[HX.out,Nat.mul_zero];exact⟨Row.nil _ _,Num.zero _,by simp⟩⟩,Below.refl _ _⟩
 have q1:((l.length:Int) == 0)=false:=by rw[beq_eq_false_iff_ne];omega
 have q2:((m.length:Int) == 0)=false:=by rw[beq_eq_false_iff_ne];omega
 have hmk:∀w,(Instr.makeSlice 75 (.int .i64 ((l.length:Int)+(m.length:Int))) (.int .i64 ((l.length:Int)+(m.length:Int)))).run Tryz.prog w=.ok (.slice (some ⟨w.heap.size,0,none⟩) (l.length+m.length) (l.length+m.length)) (w.alloc (.cells (wordCells .u32 (zeros (l.length+m.length))) 172)):=
  fun w=>Qa0 _ (l.length+m.length) (by omega) (by omega) w
 go_enter Tryz.func98,Tryz.ntmps98;go_wp2;clear hmk;go_loopw [6] (fun i wr=>∃(k:Nat) (rs:List Nat),k≤l.length∧i=.int .i64 k∧Blk .u32 172 wr w.heap.size rs∧rs.length=l.length+m.length∧Small 4294967296 rs∧
  val 4294967296 (rs.take (k+m.length))=val 4294967296 (l.take k)*y∧Below w.heap.size w wr) (fun i _=>l.length - (intOf i).toNat)
 case atStart=>exact⟨0,zeros (l.length+m.length),by omega,rfl,Blk.new _ _ _ _,Qac _,Qah _ _ (by omega),by rw[show (zeros (l.length+m.length)).take (0+m.length)=zeros m.length from by unfold zeros;simp,Qb4];simp[val],(Below.refl _ _).alloc (Nat.le_refl _) _⟩
 case round=>
  obtain⟨k,rs,hk,rfl,hB,hrl,hrs,hv,hb⟩:=hrel;have HV:Hid (val 4294967296 (rs.take (k+m.length))=val 4294967296 (l.take k)*y):=hv;have HRL:Hid (rs.length=l.length+m.length):=hrl;have HB:Hid (Blk .u32 172 wr w.heap.size rs):=hB;have HRS:Hid (Small 4294967296 rs):=hrs;clear hv hrs;by_cases hlt:k<l.length
  ·
   obtain⟨b,off,rfl,hb1,hc1⟩:=h1.row.cell k hlt;obtain⟨d,hd⟩:∃d,l.getD k 0=d:=⟨_,rfl⟩;have hdb:d<4294967296:=by rw[←hd];exact h1.num.small.getD (by omega) k
   rw[hd] at hc1;have H1:Hid (l.getD k 0=d):=hd;clear hd hrl hB;go_wp2;have HBL:Hid (Below w.heap.size w wr):=hb;clear hb;go_loopw [7,8] (fun c j wr=>∃(i c':Nat) (rs:List Nat),i≤m.length∧c'<4294967296∧c=.int .u64 c'∧j=.int .i64 i∧Blk .u32 172 wr w.heap.size rs∧rs.length=l.length+m.length∧Small 4294967296 rs∧
    val 4294967296 (rs.take (k+m.length))+4294967296 ^ (k+i)*c'=val 4294967296 (l.take k)*y+4294967296 ^ k*(d*val 4294967296 (m.take i))∧Below w.heap.size w wr) (fun _ j _=>m.length - (intOf j).toNat)
   case atStart=>exact⟨0,0,rs,by omega,by omega,rfl,rfl,HB.out,HRL.out,HRS.out,by rw[HV.out];simp[val],HBL.out⟩
   case round=>
    clear HB HRL HRS HV HBL;obtain⟨i,c,rs,hi,hc,rfl,rfl,hB,hrl,hrs,hv,hb⟩:=hrel;have HV:Hid (val 4294967296 (rs.take (k+m.length))+4294967296 ^ (k+i)*c=val 4294967296 (l.take k)*y+4294967296 ^ k*(d*val 4294967296 (m.take i))):=hv;have HRL:Hid (rs.length=l.length+m.length):=hrl;have HB:Hid (Blk .u32 172 wr w.heap.size rs):=hB;have HRS:Hid (Small 4294967296 rs):=hrs;clear hv;by_cases hlti:i<m.length
    ·
     obtain⟨b',off',rfl,hb2,hc2⟩:=h2.row.cell i hlti;obtain⟨e,he⟩:∃e,m.getD i 0=e:=⟨_,rfl⟩;have heb:e<4294967296:=by rw[←he];exact h2.num.small.getD (by omega) i
     rw[he] at hc2;have hc1':=(hb.cell (p:=⟨b,off+k,none⟩) hb1).trans hc1;have hc2':=(hb.cell (p:=⟨b',off'+i,none⟩) hb2).trans hc2;have H2:Hid (m.getD i 0=e):=he;obtain⟨z,hz⟩:∃z,rs.getD (k+i) 0=z:=⟨_,rfl⟩;have hzb:z<4294967296:=by rw[←hz];exact hrs.getD (by omega) _
     have g1:=hB.free (k+i);have g2:=hB.cell (k+i) (by omega);rw[hz] at g2;have HZ:Hid (rs.getD (k+i) 0=z):=hz;clear he hc2 hz hB hrl hrs;have hp:=Qc9 hdb heb;obtain⟨t,ht⟩:∃t:Nat,t=d*e:=⟨_,rfl⟩;have ht1:(d:Int)*(e:Int)=(t:Int):=by rw[ht];simp
     have ht2:t≤18446744065119617025:=by rw[ht];exact hp
     have HT:Hid (t=d*e):=ht;clear ht hp;have ev:Hid (((c:Int)+(t+z)) % 4294967296=(((c+(t+z)) % 4294967296:Nat):Int)):=by unfold Hid;omega
     have ec:Hid (((c:Int)+(t+z)) / 4294967296=(((c+(t+z)) / 4294967296:Nat):Int)):=by unfold Hid;omega
     go_wp2;go_region
     all_goals
      go_wp2;go_roundw
      case rel=>
       rw[ev.out,ec.out];exact⟨i+1,(c+(t+z)) / 4294967296,rs.set (k+i) ((c+(t+z)) % 4294967296),by omega,by omega,rfl,by go_num,(HB.out.set (k+i) _).drew,by rw[List.length_set];exact HRL.out,HRS.out.set _ (by omega),Qkd _ k i d e t _ c z _ rs m HT.out H2.out (by have:=HRL.out;omega) (by omega) HZ.out HV.out,(hb.setCell (Nat.le_refl _) _).drew⟩
      case measure=>simp[intOf];omega
    ·
     obtain⟨z,hz⟩:∃z,rs.getD (k+m.length) 0=z:=⟨_,rfl⟩;have g1:=hB.free (k+m.length);have g2:=hB.cell (k+m.length) (by omega);rw[hz] at g2;clear hz hB hrl hrs;have hv2:val 4294967296 ((rs.set (k+m.length) c).take (k+1+m.length))=val 4294967296 (l.take (k+1))*y:=by
      have e1:i=m.length:=by omega
      have e2:=HV.out;rw[e1,List.take_length,h2.num.eq] at e2;exact Qke _ k d c y m.length rs l H1.out (by have:=HRL.out;omega) e2
     have HV2:Hid (val 4294967296 ((rs.set (k+m.length) c).take (k+1+m.length))=val 4294967296 (l.take (k+1))*y):=hv2;clear hv2;go_wp2;go_roundw
     case rel=>exact⟨k+1,rs.set (k+m.length) c,by omega,by go_num,HB.out.set (k+m.length) c,by rw[List.length_set];exact HRL.out,HRS.out.set _ hc,HV2.out,hb.setCell (Nat.le_refl _) _⟩
     case measure=>simp[intOf];omega
  ·
   have hvv:val 4294967296 rs=x*y:=by
    have e1:k=l.length:=by omega
    have e2:=HV.out;rw[e1,List.take_length,List.take_of_length_le (by omega),h1.num.eq] at e2;exact e2
   clear hrl hB;go_wp2_with fail;refine(Qap w.heap.size (l.length+m.length) (l.length+m.length) (x*y) rs _ HB.out HRL.out HRS.out (Nat.le_refl _) hlm hvv).mono ?_;rintro e w1 ⟨⟨a,cap,r,rfl,hu⟩,rfl⟩;go_wp2;go_ret;exact⟨⟨a,cap,r,rfl,hu⟩,hb⟩
theorem Qj1{k:IntKind}{w:World}{base:Nat}{e:TypeId}{v:Value}{l:List Nat}(h:w.ownsRow base e 1 v l.length (l.map (fun n:Nat=>Value.int k n))):
 ∃a cap,v=.slice a l.length cap∧Row k w a cap l:=by
 obtain⟨h1,h2⟩:=h;rcases h2 with ⟨rfl,h3⟩|⟨g,cap,cur,rfl,hg,hh,hc1,hc2,hc3,hc4⟩
 ·
  have:l= []:=List.length_eq_zero_iff.1 h3;subst this;exact⟨none,0,rfl,Row.nil k w⟩
 ·
  have hlt:g<w.heap.size:=by
   apply Classical.byContradiction;intro hc;rw[Array.getElem?_eq_none (by omega)] at hh;cases hh
  refine⟨_,cap,rfl,hc1,.inr ⟨g,0,rfl,hlt⟩,fun i hi=>⟨g,0,rfl,hlt,?_⟩⟩;have e1:cur[i]?=some (.int k ((l.getD i 0:Nat):Int)):=by
   have e2:(cur.toList.take (l.length*1))[i]?=(l.map (fun n:Nat=>Value.int k n))[i]?:=by rw[hc4]
   rw[List.getElem?_take_of_lt (by omega),Array.getElem?_toList] at e2;rw[e2];simp[hi]
  simp[World.cell?,hh,e1]
theorem Qdy(b off j:Nat):(⟨b,off,none⟩:Addr).add j=⟨b,off+j,none⟩:=by
 unfold Addr.add
 split
 · rename_i h;subst h;rfl
 · rfl
theorem Qj2(x:Nat):val 4294967296 [x % 4294967296,x / 4294967296]=x:=by
 simp only[val];omega
theorem Qbe(X:Int)(w:World)(h0:0≤X)(h1:X<18446744073709551616):
 Calls Tryz.prog 99 #[.int .u64 X] w fun e w'=>(∃a cap r,e=.returned (.slice a r.length cap)∧U32 w' a cap r X.toNat∧r.length≤2)∧Below w.heap.size w w':=by
 obtain⟨x,rfl⟩:=Int.eq_ofNat_of_zero_le h0;rw[Int.toNat_natCast];go_enter Tryz.func99,Tryz.ntmps99;go_wp2_with fail;have e1:(x:Int) % 4294967296=((x % 4294967296:Nat):Int):=by omega
 have e2:(x:Int) / 4294967296=((x / 4294967296:Nat):Int):=by omega
 have hB:Blk .u32 172 (w.alloc (Obj.cells #[Value.int IntKind.u32 ((x:Int) % 4294967296),Value.int IntKind.u32 ((x:Int) / 4294967296)] 172)) w.heap.size [x % 4294967296,x / 4294967296]:=by
  rw[e1,e2];exact Blk.new .u32 172 w [x % 4294967296,x / 4294967296]
 clear e1 e2;refine(Qap w.heap.size 2 2 x [x % 4294967296,x / 4294967296] _ hB rfl ?_ (Nat.le_refl _) (by omega) (Qj2 x)).mono ?_
 ·
  intro d hd;simp at hd;omega
 rintro e w1 ⟨⟨a,cap,r,rfl,hu⟩,rfl⟩;go_wp2;go_ret;exact⟨⟨a,cap,r,rfl,hu,hu.num.length_le_of_lt (by omega) (by omega)⟩,(Below.refl _ _).alloc (Nat.le_refl _) _⟩
theorem Qdz(a:Option Addr)(cap:Nat)(l:List Nat)(x:Nat)(w:World)(h:U32 w a cap l x):
 Calls Tryz.prog 130 #[.slice a l.length cap] w fun e w'=>(∃a cap,e=.returned (.slice a l.length cap)∧U32 w' a cap l x)∧Below w.heap.size w w':=by
 obtain⟨i0,hi,hz0,hz1,hz2⟩:=info_parts Tryz.info32;have hs:=h.short;rcases h.row.shape with ⟨rfl,rfl⟩|⟨b,off,rfl,hb⟩
 ·
  have hl:=h.row.fit;have:l= []:=List.length_eq_zero_iff.1 (by omega);subst this;go_enter Tryz.func130,Tryz.ntmps130;go_wp2_with (at_builtin;refine wpList_append_own_none rfl _ _ 75 rfl w.heap.size 172 i0 1 Tryz.underlying75 hi _ 0 [] rfl (World.ownsRow_nil _ _ _ _) rfl ?_);go_ret;exact⟨⟨none,0,rfl,h⟩,Below.refl _ _⟩
 ·
  go_enter Tryz.func130,Tryz.ntmps130;go_wp2_with (at_builtin;refine wpList_append_own _ rfl _ _ 75 rfl w.heap.size 172 i0 (.int .u32 0) 1 4 Tryz.underlying75 hi hz0 hz1 hz2 rfl (by decide) _ 0 [] rfl (World.ownsRow_nil _ _ _ _) ⟨b,off,none⟩ l.length cap (l.map (fun n:Nat=>Value.int .u32 n)) rfl (by simp) ?c1 ?c2 ?c3 ?c4 (Nat.le_refl _) ?_)
  case c1=>
   intro j u hj;obtain⟨hlt,hu⟩:=List.getElem?_eq_some_iff.1 hj;have hlt':j<l.length:=by simpa using hlt
   obtain⟨b',off',e1,_,hc⟩:=h.row.cell j hlt';obtain⟨rfl,rfl⟩:b=b'∧off=off':=by simpa using e1
   rw[Qdy,hc,←hu];simp[hlt']
  case c2=>intro u hu;obtain⟨n,_,rfl⟩:=List.mem_map.1 hu;rfl
  case c3=>unfold maxLen;omega
  case c4=>omega
  ·
   intro v' w1 hown hgrow _;obtain⟨a',cap',rfl,hrow⟩:=Qj1 hown;clear hown;go_wp2;go_ret;exact⟨⟨a',cap',rfl,hrow,h.num,hs⟩,(Below.refl _ _).grown hgrow (Nat.le_refl _) (fun k hk=>by simp[Value.ownBlock] at hk)⟩
end Go.Proofs.YtodfmpjhcmapmaaGreatDoor
