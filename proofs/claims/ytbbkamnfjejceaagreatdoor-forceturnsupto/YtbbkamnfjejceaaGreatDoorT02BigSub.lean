/- rafterbig's sub: the one number less the other, which isn't greater, in new memory. -/
import Derived.Test.YtbbkamnfjejceaaGreatDoorT01BigTrim
namespace Go.Proofs.YtbbkamnfjejceaaGreatDoor
open Go.RowKit
set_option linter.unusedVariables false
set_option maxHeartbeats 1000000 in
theorem Qd9(a1 a2:Option Addr)(c1 c2:Nat)(l m:List Nat)(x y:Nat)(w:World)(h1:U32 w a1 c1 l x)(h2:U32 w a2 c2 m y)(hl:l.length<1099511627776)(hm:m.length<1099511627776):
 Calls Tryz.prog 112 #[.slice a1 l.length c1,.slice a2 m.length c2] w fun e w'=>(∃a cap r,e=.returned (.slice a r.length cap)∧U32 w' a cap r (x+y))∧Below w.heap.size w w':=by
 by_cases hsw:l.length<m.length
 ·
  have hmk:∀w,(Instr.makeSlice 94 (.int .i64 ((m.length:Int)+1)) (.int .i64 ((m.length:Int)+1))).run Tryz.prog w=.ok (.slice (some ⟨w.heap.size,0,none⟩) (m.length+1) (m.length+1)) (w.alloc (.cells (wordCells .u32 (zeros (m.length+1))) 216)):=
   fun w=>Qaz _ (m.length+1) (by omega) (by omega) w
  go_enter Tryz.func112,Tryz.ntmps112;go_wp2;clear hmk;go_loopw [6,7] (fun c i wr=>∃(k c':Nat) (rs:List Nat),k≤m.length∧c'≤1∧c=.int .u64 c'∧i=.int .i64 k∧Blk .u32 216 wr w.heap.size rs∧rs.length=m.length+1∧Small 4294967296 rs∧
   val 4294967296 (rs.take k)+4294967296 ^ k*c'=val 4294967296 (m.take k)+val 4294967296 (l.take k)∧Below w.heap.size w wr) (fun _ i _=>m.length - (intOf i).toNat)
  case atStart=>exact⟨0,0,zeros (m.length+1),by omega,by omega,rfl,rfl,Blk.new _ _ _ _,Qag _,Qam _ _ (by omega),by simp[val],(Below.refl _ _).alloc (Nat.le_refl _) _⟩
  case round=>
   obtain⟨k,c,rs,hk,hc,rfl,rfl,hB,hrl,hrs,hv,hb⟩:=hrel;have HV:Hid (val 4294967296 (rs.take k)+4294967296 ^ k*c=val 4294967296 (m.take k)+val 4294967296 (l.take k)):=hv;have HRL:Hid (rs.length=m.length+1):=hrl;have HB:Hid (Blk .u32 216 wr w.heap.size rs):=hB;clear hv;by_cases hlt:k<m.length
   ·
    obtain⟨b,off,rfl,hb1,hc1⟩:=h2.row.cell k hlt;obtain⟨d,hd⟩:∃d,m.getD k 0=d:=⟨_,rfl⟩;have hdb:d<4294967296:=by rw[←hd];exact h2.num.small.getD (by omega) k
    rw[hd] at hc1;have hc1':=(hb.cell (p:=⟨b,off+k,none⟩) hb1).trans hc1;have H1:Hid (m.getD k 0=d):=hd;obtain⟨z,hz⟩:∃z,rs.getD k 0=z:=⟨_,rfl⟩;have g1:=hB.free k;have g2:=hB.cell k (by omega);rw[hz] at g2;clear hd hc1 hz hB hrl;by_cases hlm:k<l.length
    ·
     obtain⟨b',off',rfl,hb2,hc2⟩:=h1.row.cell k hlm;obtain⟨e,he⟩:∃e,l.getD k 0=e:=⟨_,rfl⟩;have heb:e<4294967296:=by rw[←he];exact h1.num.small.getD (by omega) k
     rw[he] at hc2;have hc2':=(hb.cell (p:=⟨b',off'+k,none⟩) hb2).trans hc2;have H2:Hid (l.getD k 0=e):=he;clear he hc2;have ev:Hid (((c:Int)+d+e) % 4294967296=(((c+(d+e)) % 4294967296:Nat):Int)):=by unfold Hid;omega
     have ec:Hid (((c:Int)+d+e) / 4294967296=(((c+(d+e)) / 4294967296:Nat):Int)):=by unfold Hid;omega
     go_wp2;go_roundw
     case rel=>
      rw[ev.out,ec.out];exact⟨k+1,(c+(d+e)) / 4294967296,rs.set k ((c+(d+e)) % 4294967296),by omega,by omega,rfl,by go_num,HB.out.set k _,by rw[List.length_set];exact HRL.out,hrs.set k (by omega),Qcf k c d e rs m l (by have:=HRL.out;omega) H1.out H2.out HV.out,hb.setCell (Nat.le_refl _) _⟩
     case measure=>simp[intOf];omega
    ·
     have ev:Hid (((c:Int)+d) % 4294967296=(((c+(d+0)) % 4294967296:Nat):Int)):=by unfold Hid;omega
     have ec:Hid (((c:Int)+d) / 4294967296=(((c+(d+0)) / 4294967296:Nat):Int)):=by unfold Hid;omega
     go_wp2;go_roundw
     case rel=>
      rw[ev.out,ec.out];exact⟨k+1,(c+(d+0)) / 4294967296,rs.set k ((c+(d+0)) % 4294967296),by omega,by omega,rfl,by go_num,HB.out.set k _,by rw[List.length_set];exact HRL.out,hrs.set k (by omega),Qcf k c d 0 rs m l (by have:=HRL.out;omega) H1.out (Qa8 l k (by omega)) HV.out,hb.setCell (Nat.le_refl _) _⟩
     case measure=>simp[intOf];omega
   ·
    obtain⟨z,hz⟩:∃z,rs.getD m.length 0=z:=⟨_,rfl⟩;have g1:=hB.free m.length;have g2:=hB.cell m.length (by omega);rw[hz] at g2;clear hz hB hrl;go_wp2_with fail;have hl1:(rs.set m.length c).length=m.length+1:=by rw[List.length_set];exact HRL.out
    have hB2:Blk .u32 216 (wr.setCell ⟨w.heap.size,m.length,none⟩ (.int .u32 (c:Int))) w.heap.size (rs.set m.length c):=HB.out.set m.length c;have hvv:val 4294967296 (rs.set m.length c)=x+y:=by
     rw[Qda _ _ _ _ HRL.out];have e1:k=m.length:=by omega
     have e2:=HV.out;rw[e1,List.take_length,Qax _ l _ (by omega),h2.num.eq,h1.num.eq] at e2;omega
    refine(Qat w.heap.size (m.length+1) (m.length+1) (x+y) (rs.set m.length c) _ hB2 hl1 (hrs.set _ (by omega)) (Nat.le_refl _) (by omega) hvv).mono ?_;rintro e w1 ⟨⟨a,cap,r,rfl,hu⟩,rfl⟩;go_wp2;go_ret;exact⟨⟨a,cap,r,rfl,hu⟩,hb.setCell (Nat.le_refl _) _⟩
 ·
  have hmk:∀w,(Instr.makeSlice 94 (.int .i64 ((l.length:Int)+1)) (.int .i64 ((l.length:Int)+1))).run Tryz.prog w=.ok (.slice (some ⟨w.heap.size,0,none⟩) (l.length+1) (l.length+1)) (w.alloc (.cells (wordCells .u32 (zeros (l.length+1))) 216)):=
   fun w=>Qaz _ (l.length+1) (by omega) (by omega) w
  go_enter Tryz.func112,Tryz.ntmps112;go_wp2;clear hmk;go_loopw [6,7] (fun c i wr=>∃(k c':Nat) (rs:List Nat),k≤l.length∧c'≤1∧c=.int .u64 c'∧i=.int .i64 k∧Blk .u32 216 wr w.heap.size rs∧rs.length=l.length+1∧Small 4294967296 rs∧
   val 4294967296 (rs.take k)+4294967296 ^ k*c'=val 4294967296 (l.take k)+val 4294967296 (m.take k)∧Below w.heap.size w wr) (fun _ i _=>l.length - (intOf i).toNat)
  case atStart=>exact⟨0,0,zeros (l.length+1),by omega,by omega,rfl,rfl,Blk.new _ _ _ _,Qag _,Qam _ _ (by omega),by simp[val],(Below.refl _ _).alloc (Nat.le_refl _) _⟩
  case round=>
   obtain⟨k,c,rs,hk,hc,rfl,rfl,hB,hrl,hrs,hv,hb⟩:=hrel;have HV:Hid (val 4294967296 (rs.take k)+4294967296 ^ k*c=val 4294967296 (l.take k)+val 4294967296 (m.take k)):=hv;have HRL:Hid (rs.length=l.length+1):=hrl;have HB:Hid (Blk .u32 216 wr w.heap.size rs):=hB;clear hv;by_cases hlt:k<l.length
   ·
    obtain⟨b,off,rfl,hb1,hc1⟩:=h1.row.cell k hlt;obtain⟨d,hd⟩:∃d,l.getD k 0=d:=⟨_,rfl⟩;have hdb:d<4294967296:=by rw[←hd];exact h1.num.small.getD (by omega) k
    rw[hd] at hc1;have hc1':=(hb.cell (p:=⟨b,off+k,none⟩) hb1).trans hc1;have H1:Hid (l.getD k 0=d):=hd;obtain⟨z,hz⟩:∃z,rs.getD k 0=z:=⟨_,rfl⟩;have g1:=hB.free k;have g2:=hB.cell k (by omega);rw[hz] at g2;clear hd hc1 hz hB hrl;by_cases hlm:k<m.length
    ·
     obtain⟨b',off',rfl,hb2,hc2⟩:=h2.row.cell k hlm;obtain⟨e,he⟩:∃e,m.getD k 0=e:=⟨_,rfl⟩;have heb:e<4294967296:=by rw[←he];exact h2.num.small.getD (by omega) k
     rw[he] at hc2;have hc2':=(hb.cell (p:=⟨b',off'+k,none⟩) hb2).trans hc2;have H2:Hid (m.getD k 0=e):=he;clear he hc2;have ev:Hid (((c:Int)+d+e) % 4294967296=(((c+(d+e)) % 4294967296:Nat):Int)):=by unfold Hid;omega
     have ec:Hid (((c:Int)+d+e) / 4294967296=(((c+(d+e)) / 4294967296:Nat):Int)):=by unfold Hid;omega
     go_wp2;go_roundw
     case rel=>
      rw[ev.out,ec.out];exact⟨k+1,(c+(d+e)) / 4294967296,rs.set k ((c+(d+e)) % 4294967296),by omega,by omega,rfl,by go_num,HB.out.set k _,by rw[List.length_set];exact HRL.out,hrs.set k (by omega),Qcf k c d e rs l m (by have:=HRL.out;omega) H1.out H2.out HV.out,hb.setCell (Nat.le_refl _) _⟩
     case measure=>simp[intOf];omega
    ·
     have ev:Hid (((c:Int)+d) % 4294967296=(((c+(d+0)) % 4294967296:Nat):Int)):=by unfold Hid;omega
     have ec:Hid (((c:Int)+d) / 4294967296=(((c+(d+0)) / 4294967296:Nat):Int)):=by unfold Hid;omega
     go_wp2;go_roundw
     case rel=>
      rw[ev.out,ec.out];exact⟨k+1,(c+(d+0)) / 4294967296,rs.set k ((c+(d+0)) % 4294967296),by omega,by omega,rfl,by go_num,HB.out.set k _,by rw[List.length_set];exact HRL.out,hrs.set k (by omega),Qcf k c d 0 rs l m (by have:=HRL.out;omega) H1.out (Qa8 m k (by omega)) HV.out,hb.setCell (Nat.le_refl _) _⟩
     case measure=>simp[intOf];omega
   ·
    obtain⟨z,hz⟩:∃z,rs.getD l.length 0=z:=⟨_,rfl⟩;have g1:=hB.free l.length;have g2:=hB.cell l.length (by omega);rw[hz] at g2;clear hz hB hrl;go_wp2_with fail;have hl1:(rs.set l.length c).length=l.length+1:=by rw[List.length_set];exact HRL.out
    have hB2:Blk .u32 216 (wr.setCell ⟨w.heap.size,l.length,none⟩ (.int .u32 (c:Int))) w.heap.size (rs.set l.length c):=HB.out.set l.length c;have hvv:val 4294967296 (rs.set l.length c)=x+y:=by
     rw[Qda _ _ _ _ HRL.out];have e1:k=l.length:=by omega
     have e2:=HV.out;rw[e1,List.take_length,Qax _ m _ (by omega),h1.num.eq,h2.num.eq] at e2;omega
    refine(Qat w.heap.size (l.length+1) (l.length+1) (x+y) (rs.set l.length c) _ hB2 hl1 (hrs.set _ (by omega)) (Nat.le_refl _) (by omega) hvv).mono ?_;rintro e w1 ⟨⟨a,cap,r,rfl,hu⟩,rfl⟩;go_wp2;go_ret;exact⟨⟨a,cap,r,rfl,hu⟩,hb.setCell (Nat.le_refl _) _⟩
set_option maxHeartbeats 1000000 in
theorem Qee(a1 a2:Option Addr)(c1 c2:Nat)(l m:List Nat)(x y:Nat)(w:World)(h1:U32 w a1 c1 l x)(h2:U32 w a2 c2 m y)(hyx:y≤x):
 Calls Tryz.prog 202 #[.slice a1 l.length c1,.slice a2 m.length c2] w fun e w'=>(∃a cap r,e=.returned (.slice a r.length cap)∧U32 w' a cap r (x - y))∧Below w.heap.size w w':=by
 have hml:m.length≤l.length:=by
  apply Classical.byContradiction;intro hc;have:=Qao (B:=4294967296) (by omega) h1.num.small h2.num.trim (by omega);rw[h1.num.eq,h2.num.eq] at this;omega
 have s1:=h1.short;have hmk:∀w,(Instr.makeSlice 94 (.int .i64 (l.length:Int)) (.int .i64 (l.length:Int))).run Tryz.prog w=.ok (.slice (some ⟨w.heap.size,0,none⟩) l.length l.length) (w.alloc (.cells (wordCells .u32 (zeros l.length)) 216)):=
  fun w=>Qaz _ l.length rfl (by omega) w
 go_enter Tryz.func202,Tryz.ntmps202;go_wp2;clear hmk;go_loopw [6,7] (fun c i wr=>∃(k c':Nat) (rs:List Nat),k≤l.length∧c'≤1∧c=.int .u64 c'∧i=.int .i64 k∧Blk .u32 216 wr w.heap.size rs∧rs.length=l.length∧Small 4294967296 rs∧
  val 4294967296 (rs.take k)+val 4294967296 (m.take k)=val 4294967296 (l.take k)+4294967296 ^ k*c'∧Below w.heap.size w wr) (fun _ i _=>l.length - (intOf i).toNat)
 case atStart=>exact⟨0,0,zeros l.length,by omega,by omega,rfl,rfl,Blk.new _ _ _ _,Qag _,Qam _ _ (by omega),by simp[val],(Below.refl _ _).alloc (Nat.le_refl _) _⟩
 case round=>
  obtain⟨k,c,rs,hk,hc,rfl,rfl,hB,hrl,hrs,hv,hb⟩:=hrel;have HV:Hid (val 4294967296 (rs.take k)+val 4294967296 (m.take k)=val 4294967296 (l.take k)+4294967296 ^ k*c):=hv;have HRL:Hid (rs.length=l.length):=hrl;have HB:Hid (Blk .u32 216 wr w.heap.size rs):=hB;clear hv;by_cases hlt:k<l.length
  ·
   obtain⟨b,off,rfl,hb1,hc1⟩:=h1.row.cell k hlt;obtain⟨d,hd⟩:∃d,l.getD k 0=d:=⟨_,rfl⟩;have hdb:d<4294967296:=by rw[←hd];exact h1.num.small.getD (by omega) k
   rw[hd] at hc1;have hc1':=(hb.cell (p:=⟨b,off+k,none⟩) hb1).trans hc1;have H1:Hid (l.getD k 0=d):=hd;obtain⟨z,hz⟩:∃z,rs.getD k 0=z:=⟨_,rfl⟩;have g1:=hB.free k;have g2:=hB.cell k (by omega);rw[hz] at g2;clear hd hc1 hz hB hrl;by_cases hlm:k<m.length
   ·
    obtain⟨b',off',rfl,hb2,hc2⟩:=h2.row.cell k hlm;obtain⟨e,he⟩:∃e,m.getD k 0=e:=⟨_,rfl⟩;have heb:e<4294967296:=by rw[←he];exact h2.num.small.getD (by omega) k
    rw[he] at hc2;have hc2':=(hb.cell (p:=⟨b',off'+k,none⟩) hb2).trans hc2;have H2:Hid (m.getD k 0=e):=he;clear he hc2;obtain⟨r,c',hr1,hr2,hr3,hr4,hr5⟩:=Qep d c e hdb heb hc;have R3:Hid (r+c+e=d+4294967296*c'):=hr3;have R4:Hid (((((d:Int) - c) % 18446744073709551616 - e) % 18446744073709551616) % 4294967296=(r:Int)):=hr4;have R5:Hid (((((d:Int) - c) % 18446744073709551616 - e) % 18446744073709551616) / 9223372036854775808=(c':Int)):=hr5;clear hr3 hr4 hr5;go_wp2;go_roundw
    case rel=>
     simp only[Qan,R4.out,R5.out];exact⟨k+1,c',rs.set k r,by omega,hr2,rfl,by go_num,HB.out.set k _,by rw[List.length_set];exact HRL.out,hrs.set k hr1,Qdb _ k c d e r c' rs l m (by have:=HRL.out;omega) H1.out H2.out R3.out HV.out,hb.setCell (Nat.le_refl _) _⟩
    case measure=>simp[intOf];omega
   ·
    obtain⟨r,c',hr1,hr2,hr3,hr4,hr5⟩:=Qep d c 0 hdb (by omega) hc;have R3:Hid (r+c+0=d+4294967296*c'):=hr3;have R4:Hid ((((d:Int) - c) % 18446744073709551616) % 4294967296=(r:Int)):=by unfold Hid;omega
    have R5:Hid ((((d:Int) - c) % 18446744073709551616) / 9223372036854775808=(c':Int)):=by unfold Hid;omega
    clear hr3 hr4 hr5;go_wp2;go_roundw
    case rel=>
     simp only[Qan,R4.out,R5.out];exact⟨k+1,c',rs.set k r,by omega,hr2,rfl,by go_num,HB.out.set k _,by rw[List.length_set];exact HRL.out,hrs.set k hr1,Qdb _ k c d 0 r c' rs l m (by have:=HRL.out;omega) H1.out (Qa8 m k (by omega)) R3.out HV.out,hb.setCell (Nat.le_refl _) _⟩
    case measure=>simp[intOf];omega
  ·
   have hvv:val 4294967296 rs=x - y:=by
    have e1:k=l.length:=by omega
    have e2:=HV.out;rw[e1,List.take_length,Qax _ m _ (by omega),List.take_of_length_le (by omega),h1.num.eq,h2.num.eq] at e2;have e3:=Qab (B:=4294967296) (by omega) hrs;rw[hrl] at e3;have e4:c=0:=by
     apply Classical.byContradiction;intro hc0;have:c=1:=by omega
     subst this;omega
    subst e4;omega
   clear hrl hB;go_wp2_with fail;refine(Qat w.heap.size l.length l.length (x - y) rs _ HB.out HRL.out hrs (Nat.le_refl _) (by omega) hvv).mono ?_;rintro e w1 ⟨⟨a,cap,r,rfl,hu⟩,rfl⟩;go_wp2;go_ret;exact⟨⟨a,cap,r,rfl,hu⟩,hb⟩
end Go.Proofs.YtbbkamnfjejceaaGreatDoor
