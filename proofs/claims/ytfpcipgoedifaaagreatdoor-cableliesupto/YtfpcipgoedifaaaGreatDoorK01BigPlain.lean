/- rafterbig's plain, small, length. -/
import Derived.Test.YtfpcipgoedifaaaGreatDoorK00BigTrim
import Derived.Laws.AppendOwnNone
import Derived.Laws.BitsAllLaws
namespace Go.Proofs.YtfpcipgoedifaaaGreatDoor
open Go.RowKit
set_option linter.unusedVariables false
set_option maxHeartbeats 1000000 in
theorem Qgi(a1 a2:Option Addr)(c1 c2:Nat)(l m:List Nat)(x y:Nat)(w:World)(h1:U32 w a1 c1 l x)(h2:U32 w a2 c2 m y)(hl:l.length<1099511627776)(hm:m.length<1099511627776):
 Calls Tryz.prog 66 #[.slice a1 l.length c1,.slice a2 m.length c2] w fun e w'=>(∃a cap r,e=.returned (.slice a r.length cap)/\U32 w' a cap r (x+y))/\Below w.heap.size w w':=by
 by_cases hsw:l.length<m.length
 ·
  have hmk:∀w,(Instr.makeSlice 51 (.int .i64 ((m.length:Int)+1)) (.int .i64 ((m.length:Int)+1))).run Tryz.prog w=.ok (.slice (some ⟨w.heap.size,0,none⟩) (m.length+1) (m.length+1)) (w.alloc (.cells (wordCells .u32 (zeros (m.length+1))) 155)):=
   fun w=>Qa4 _ (m.length+1) (by omega) (by omega) w
  go_enter Tryz.func66,Tryz.ntmps66;go_wp2;clear hmk;go_loopw [6,7] (fun c i wr=>∃(k c':Nat) (rs:List Nat),k<=m.length/\c'<=1/\c=.int .u64 c'/\i=.int .i64 k/\Blk .u32 155 wr w.heap.size rs/\rs.length=m.length+1/\Small 4294967296 rs/\
   val 4294967296 (rs.take k)+4294967296 ^ k*c'=val 4294967296 (m.take k)+val 4294967296 (l.take k)/\Below w.heap.size w wr) (fun _ i _=>m.length - (intOf i).toNat)
  case atStart=>exact⟨0,0,zeros (m.length+1),by omega,by omega,rfl,rfl,Blk.new _ _ _ _,Qai _,Qap _ _ (by omega),by simp[val],bR.alloc lZ _⟩
  case round=>
   obtain⟨k,c,rs,hk,hc,rfl,rfl,hB,hrl,hrs,hv,hb⟩:=hrel;have HV:Hid (val 4294967296 (rs.take k)+4294967296 ^ k*c=val 4294967296 (m.take k)+val 4294967296 (l.take k)):=hv;have HRL:Hid (rs.length=m.length+1):=hrl;have HB:Hid (Blk .u32 155 wr w.heap.size rs):=hB;clear hv;by_cases hlt:k<m.length
   ·
    obtain⟨b,off,rfl,hb1,hc1⟩:=h2.row.cell k hlt;obtain⟨d,hd⟩:=nm (m.getD k 0);have hdb:d<4294967296:=by rw[<-hd];exact h2.num.small.getD (by omega) k
    rw[hd] at hc1;have hc1':=ce hb hb1 hc1;have H1:Hid (m.getD k 0=d):=hd;obtain⟨z,hz⟩:=nm (rs.getD k 0);have g1:=hB.free k;have g2:=hB.cell k (by omega);rw[hz] at g2;clear hd hc1 hz hB hrl;by_cases hlm:k<l.length
    ·
     obtain⟨b',off',rfl,hb2,hc2⟩:=h1.row.cell k hlm;obtain⟨e,he⟩:=nm (l.getD k 0);have heb:e<4294967296:=by rw[<-he];exact h1.num.small.getD (by omega) k
     rw[he] at hc2;have hc2':=ce hb hb2 hc2;have H2:Hid (l.getD k 0=e):=he;clear he hc2;have ev:Hid (((c:Int)+d+e) % 4294967296=(((c+(d+e)) % 4294967296:Nat):Int)):=by unfold Hid;omega
     have ec:Hid (((c:Int)+d+e) / 4294967296=(((c+(d+e)) / 4294967296:Nat):Int)):=by unfold Hid;omega
     go_wp2;go_roundw
     case rel=>
      rw[ev.out,ec.out];exact⟨k+1,(c+(d+e)) / 4294967296,rs.set k ((c+(d+e)) % 4294967296),by omega,by omega,rfl,by go_num,HB.out.set k _,by rw[List.length_set];exact HRL.out,hrs.set k (by omega),Qdg k c d e rs m l (by have:=HRL.out;omega) H1.out H2.out HV.out,hb.setCell lZ _⟩
     case measure=>simp[intOf];omega
    ·
     have ev:Hid (((c:Int)+d) % 4294967296=(((c+(d+0)) % 4294967296:Nat):Int)):=by unfold Hid;omega
     have ec:Hid (((c:Int)+d) / 4294967296=(((c+(d+0)) / 4294967296:Nat):Int)):=by unfold Hid;omega
     go_wp2;go_roundw
     case rel=>
      rw[ev.out,ec.out];exact⟨k+1,(c+(d+0)) / 4294967296,rs.set k ((c+(d+0)) % 4294967296),by omega,by omega,rfl,by go_num,HB.out.set k _,by rw[List.length_set];exact HRL.out,hrs.set k (by omega),Qdg k c d 0 rs m l (by have:=HRL.out;omega) H1.out (Qbk l k (by omega)) HV.out,hb.setCell lZ _⟩
     case measure=>simp[intOf];omega
   ·
    obtain⟨z,hz⟩:=nm (rs.getD m.length 0);have g1:=hB.free m.length;have g2:=hB.cell m.length (by omega);rw[hz] at g2;clear hz hB hrl;go_wp2_with fail;have hl1:(rs.set m.length c).length=m.length+1:=by rw[List.length_set];exact HRL.out
    have hB2:Blk .u32 155 (wr.setCell ⟨w.heap.size,m.length,none⟩ (.int .u32 (c:Int))) w.heap.size (rs.set m.length c):=HB.out.set m.length c;have hvv:val 4294967296 (rs.set m.length c)=x+y:=by
     rw[Qe5 _ _ _ _ HRL.out];have e1:k=m.length:=by omega
     have e2:=HV.out;rw[e1,List.take_length,Qa2 _ l _ (by omega),h2.num.eq,h1.num.eq] at e2;omega
    refine(Qax w.heap.size (m.length+1) (m.length+1) (x+y) (rs.set m.length c) _ hB2 hl1 (hrs.set _ (by omega)) lZ (by omega) hvv).mono ?_;rintro e w1 ⟨⟨a,cap,r,rfl,hu⟩,rfl⟩;go_wp2;go_ret;exact⟨⟨a,cap,r,rfl,hu⟩,hb.setCell lZ _⟩
 ·
  have hmk:∀w,(Instr.makeSlice 51 (.int .i64 ((l.length:Int)+1)) (.int .i64 ((l.length:Int)+1))).run Tryz.prog w=.ok (.slice (some ⟨w.heap.size,0,none⟩) (l.length+1) (l.length+1)) (w.alloc (.cells (wordCells .u32 (zeros (l.length+1))) 155)):=
   fun w=>Qa4 _ (l.length+1) (by omega) (by omega) w
  go_enter Tryz.func66,Tryz.ntmps66;go_wp2;clear hmk;go_loopw [6,7] (fun c i wr=>∃(k c':Nat) (rs:List Nat),k<=l.length/\c'<=1/\c=.int .u64 c'/\i=.int .i64 k/\Blk .u32 155 wr w.heap.size rs/\rs.length=l.length+1/\Small 4294967296 rs/\
   val 4294967296 (rs.take k)+4294967296 ^ k*c'=val 4294967296 (l.take k)+val 4294967296 (m.take k)/\Below w.heap.size w wr) (fun _ i _=>l.length - (intOf i).toNat)
  case atStart=>exact⟨0,0,zeros (l.length+1),by omega,by omega,rfl,rfl,Blk.new _ _ _ _,Qai _,Qap _ _ (by omega),by simp[val],bR.alloc lZ _⟩
  case round=>
   obtain⟨k,c,rs,hk,hc,rfl,rfl,hB,hrl,hrs,hv,hb⟩:=hrel;have HV:Hid (val 4294967296 (rs.take k)+4294967296 ^ k*c=val 4294967296 (l.take k)+val 4294967296 (m.take k)):=hv;have HRL:Hid (rs.length=l.length+1):=hrl;have HB:Hid (Blk .u32 155 wr w.heap.size rs):=hB;clear hv;by_cases hlt:k<l.length
   ·
    obtain⟨b,off,rfl,hb1,hc1⟩:=h1.row.cell k hlt;obtain⟨d,hd⟩:=nm (l.getD k 0);have hdb:d<4294967296:=by rw[<-hd];exact h1.num.small.getD (by omega) k
    rw[hd] at hc1;have hc1':=ce hb hb1 hc1;have H1:Hid (l.getD k 0=d):=hd;obtain⟨z,hz⟩:=nm (rs.getD k 0);have g1:=hB.free k;have g2:=hB.cell k (by omega);rw[hz] at g2;clear hd hc1 hz hB hrl;by_cases hlm:k<m.length
    ·
     obtain⟨b',off',rfl,hb2,hc2⟩:=h2.row.cell k hlm;obtain⟨e,he⟩:=nm (m.getD k 0);have heb:e<4294967296:=by rw[<-he];exact h2.num.small.getD (by omega) k
     rw[he] at hc2;have hc2':=ce hb hb2 hc2;have H2:Hid (m.getD k 0=e):=he;clear he hc2;have ev:Hid (((c:Int)+d+e) % 4294967296=(((c+(d+e)) % 4294967296:Nat):Int)):=by unfold Hid;omega
     have ec:Hid (((c:Int)+d+e) / 4294967296=(((c+(d+e)) / 4294967296:Nat):Int)):=by unfold Hid;omega
     go_wp2;go_roundw
     case rel=>
      rw[ev.out,ec.out];exact⟨k+1,(c+(d+e)) / 4294967296,rs.set k ((c+(d+e)) % 4294967296),by omega,by omega,rfl,by go_num,HB.out.set k _,by rw[List.length_set];exact HRL.out,hrs.set k (by omega),Qdg k c d e rs l m (by have:=HRL.out;omega) H1.out H2.out HV.out,hb.setCell lZ _⟩
     case measure=>simp[intOf];omega
    ·
     have ev:Hid (((c:Int)+d) % 4294967296=(((c+(d+0)) % 4294967296:Nat):Int)):=by unfold Hid;omega
     have ec:Hid (((c:Int)+d) / 4294967296=(((c+(d+0)) / 4294967296:Nat):Int)):=by unfold Hid;omega
     go_wp2;go_roundw
     case rel=>
      rw[ev.out,ec.out];exact⟨k+1,(c+(d+0)) / 4294967296,rs.set k ((c+(d+0)) % 4294967296),by omega,by omega,rfl,by go_num,HB.out.set k _,by rw[List.length_set];exact HRL.out,hrs.set k (by omega),Qdg k c d 0 rs l m (by have:=HRL.out;omega) H1.out (Qbk m k (by omega)) HV.out,hb.setCell lZ _⟩
     case measure=>simp[intOf];omega
   ·
    obtain⟨z,hz⟩:=nm (rs.getD l.length 0);have g1:=hB.free l.length;have g2:=hB.cell l.length (by omega);rw[hz] at g2;clear hz hB hrl;go_wp2_with fail;have hl1:(rs.set l.length c).length=l.length+1:=by rw[List.length_set];exact HRL.out
    have hB2:Blk .u32 155 (wr.setCell ⟨w.heap.size,l.length,none⟩ (.int .u32 (c:Int))) w.heap.size (rs.set l.length c):=HB.out.set l.length c;have hvv:val 4294967296 (rs.set l.length c)=x+y:=by
     rw[Qe5 _ _ _ _ HRL.out];have e1:k=l.length:=by omega
     have e2:=HV.out;rw[e1,List.take_length,Qa2 _ m _ (by omega),h1.num.eq,h2.num.eq] at e2;omega
    refine(Qax w.heap.size (l.length+1) (l.length+1) (x+y) (rs.set l.length c) _ hB2 hl1 (hrs.set _ (by omega)) lZ (by omega) hvv).mono ?_;rintro e w1 ⟨⟨a,cap,r,rfl,hu⟩,rfl⟩;go_wp2;go_ret;exact⟨⟨a,cap,r,rfl,hu⟩,hb.setCell lZ _⟩
set_option maxHeartbeats 1000000 in
theorem Qgn(a1 a2:Option Addr)(c1 c2:Nat)(l m:List Nat)(x y:Nat)(w:World)(h1:U32 w a1 c1 l x)(h2:U32 w a2 c2 m y)(hyx:y<=x):
 Calls Tryz.prog 116 #[.slice a1 l.length c1,.slice a2 m.length c2] w fun e w'=>(∃a cap r,e=.returned (.slice a r.length cap)/\U32 w' a cap r (x - y))/\Below w.heap.size w w':=by
 have hml:m.length<=l.length:=by
  apply bC;intro hc;have:=Qas (B:=4294967296) (by omega) h1.num.small h2.num.trim (by omega);rw[h1.num.eq,h2.num.eq] at this;omega
 have s1:=h1.short;have hmk:∀w,(Instr.makeSlice 51 (.int .i64 (l.length:Int)) (.int .i64 (l.length:Int))).run Tryz.prog w=.ok (.slice (some ⟨w.heap.size,0,none⟩) l.length l.length) (w.alloc (.cells (wordCells .u32 (zeros l.length)) 155)):=
  fun w=>Qa4 _ l.length rfl (by omega) w
 go_enter Tryz.func116,Tryz.ntmps116;go_wp2;clear hmk;go_loopw [6,7] (fun c i wr=>∃(k c':Nat) (rs:List Nat),k<=l.length/\c'<=1/\c=.int .u64 c'/\i=.int .i64 k/\Blk .u32 155 wr w.heap.size rs/\rs.length=l.length/\Small 4294967296 rs/\
  val 4294967296 (rs.take k)+val 4294967296 (m.take k)=val 4294967296 (l.take k)+4294967296 ^ k*c'/\Below w.heap.size w wr) (fun _ i _=>l.length - (intOf i).toNat)
 case atStart=>exact⟨0,0,zeros l.length,by omega,by omega,rfl,rfl,Blk.new _ _ _ _,Qai _,Qap _ _ (by omega),by simp[val],bR.alloc lZ _⟩
 case round=>
  obtain⟨k,c,rs,hk,hc,rfl,rfl,hB,hrl,hrs,hv,hb⟩:=hrel;have HV:Hid (val 4294967296 (rs.take k)+val 4294967296 (m.take k)=val 4294967296 (l.take k)+4294967296 ^ k*c):=hv;have HRL:Hid (rs.length=l.length):=hrl;have HB:Hid (Blk .u32 155 wr w.heap.size rs):=hB;clear hv;by_cases hlt:k<l.length
  ·
   obtain⟨b,off,rfl,hb1,hc1⟩:=h1.row.cell k hlt;obtain⟨d,hd⟩:=nm (l.getD k 0);have hdb:d<4294967296:=by rw[<-hd];exact h1.num.small.getD (by omega) k
   rw[hd] at hc1;have hc1':=ce hb hb1 hc1;have H1:Hid (l.getD k 0=d):=hd;obtain⟨z,hz⟩:=nm (rs.getD k 0);have g1:=hB.free k;have g2:=hB.cell k (by omega);rw[hz] at g2;clear hd hc1 hz hB hrl;by_cases hlm:k<m.length
   ·
    obtain⟨b',off',rfl,hb2,hc2⟩:=h2.row.cell k hlm;obtain⟨e,he⟩:=nm (m.getD k 0);have heb:e<4294967296:=by rw[<-he];exact h2.num.small.getD (by omega) k
    rw[he] at hc2;have hc2':=ce hb hb2 hc2;have H2:Hid (m.getD k 0=e):=he;clear he hc2;obtain⟨r,c',hr1,hr2,hr3,hr4,hr5⟩:=Qhy d c e hdb heb hc;have R3:Hid (r+c+e=d+4294967296*c'):=hr3;have R4:Hid (((((d:Int) - c) % 18446744073709551616 - e) % 18446744073709551616) % 4294967296=(r:Int)):=hr4;have R5:Hid (((((d:Int) - c) % 18446744073709551616 - e) % 18446744073709551616) / 9223372036854775808=(c':Int)):=hr5;clear hr3 hr4 hr5;go_wp2;go_roundw
    case rel=>
     simp only[Qaq,R4.out,R5.out];exact⟨k+1,c',rs.set k r,by omega,hr2,rfl,by go_num,HB.out.set k _,by rw[List.length_set];exact HRL.out,hrs.set k hr1,Qe6 _ k c d e r c' rs l m (by have:=HRL.out;omega) H1.out H2.out R3.out HV.out,hb.setCell lZ _⟩
    case measure=>simp[intOf];omega
   ·
    obtain⟨r,c',hr1,hr2,hr3,hr4,hr5⟩:=Qhy d c 0 hdb (by omega) hc;have R3:Hid (r+c+0=d+4294967296*c'):=hr3;have R4:Hid ((((d:Int) - c) % 18446744073709551616) % 4294967296=(r:Int)):=by unfold Hid;omega
    have R5:Hid ((((d:Int) - c) % 18446744073709551616) / 9223372036854775808=(c':Int)):=by unfold Hid;omega
    clear hr3 hr4 hr5;go_wp2;go_roundw
    case rel=>
     simp only[Qaq,R4.out,R5.out];exact⟨k+1,c',rs.set k r,by omega,hr2,rfl,by go_num,HB.out.set k _,by rw[List.length_set];exact HRL.out,hrs.set k hr1,Qe6 _ k c d 0 r c' rs l m (by have:=HRL.out;omega) H1.out (Qbk m k (by omega)) R3.out HV.out,hb.setCell lZ _⟩
    case measure=>simp[intOf];omega
  ·
   have hvv:val 4294967296 rs=x - y:=by
    have e1:k=l.length:=by omega
    have e2:=HV.out;rw[e1,List.take_length,Qa2 _ m _ (by omega),List.take_of_length_le (by omega),h1.num.eq,h2.num.eq] at e2;have e3:=Qab (B:=4294967296) (by omega) hrs;rw[hrl] at e3;have e4:c=0:=by
     apply bC;intro hc0;have:c=1:=by omega
     subst this;omega
    subst e4;omega
   clear hrl hB;go_wp2_with fail;refine(Qax w.heap.size l.length l.length (x - y) rs _ HB.out HRL.out hrs lZ (by omega) hvv).mono ?_;rintro e w1 ⟨⟨a,cap,r,rfl,hu⟩,rfl⟩;go_wp2;go_ret;exact⟨⟨a,cap,r,rfl,hu⟩,hb⟩
set_option maxHeartbeats 2000000 in
theorem Qgl(a1 a2:Option Addr)(c1 c2:Nat)(l m:List Nat)(x y:Nat)(w:World)(h1:U32 w a1 c1 l x)(h2:U32 w a2 c2 m y)(hlm:l.length+m.length<=1099511627776):
 Calls Tryz.prog 67 #[.slice a1 l.length c1,.slice a2 m.length c2] w fun e w'=>(∃a cap r,e=.returned (.slice a r.length cap)/\U32 w' a cap r (x*y))/\Below w.heap.size w w':=by
 by_cases hx0:l.length=0
 ·
  have hx:x=0:=(h1.num.len_zero (by omega)).2 hx0;have q1:((l.length:Int) == 0)=true:=by simp[hx0]
  have HX:Hid (x=0):=hx;clear hx0 hx;go_enter Tryz.func67,Tryz.ntmps67;go_wp2;go_ret;exact⟨⟨none,0,[],rfl,by rw[HX.out,Nat.zero_mul];exact⟨Row.nil _ _,Num.zero _,by simp⟩⟩,Below.refl _ _⟩
 by_cases hy0:m.length=0
 ·
  have hy:y=0:=(h2.num.len_zero (by omega)).2 hy0;have q1:((l.length:Int) == 0)=false:=by rw[beq_eq_false_iff_ne];omega
  have q2:((m.length:Int) == 0)=true:=by simp[hy0]
  have HX:Hid (y=0):=hy;clear hy0 hy;go_enter Tryz.func67,Tryz.ntmps67;go_wp2;go_ret;exact⟨⟨none,0,[],rfl,by rw[HX.out,Nat.mul_zero];exact⟨Row.nil _ _,Num.zero _,by simp⟩⟩,Below.refl _ _⟩
 have q1:((l.length:Int) == 0)=false:=by rw[beq_eq_false_iff_ne];omega
 have q2:((m.length:Int) == 0)=false:=by rw[beq_eq_false_iff_ne];omega
 have hmk:∀w,(Instr.makeSlice 51 (.int .i64 ((l.length:Int)+(m.length:Int))) (.int .i64 ((l.length:Int)+(m.length:Int)))).run Tryz.prog w=.ok (.slice (some ⟨w.heap.size,0,none⟩) (l.length+m.length) (l.length+m.length)) (w.alloc (.cells (wordCells .u32 (zeros (l.length+m.length))) 155)):=
  fun w=>Qa4 _ (l.length+m.length) (by omega) (by omega) w
 go_enter Tryz.func67,Tryz.ntmps67;go_wp2;clear hmk;go_loopw [6] (fun i wr=>∃(k:Nat) (rs:List Nat),k<=l.length/\i=.int .i64 k/\Blk .u32 155 wr w.heap.size rs/\rs.length=l.length+m.length/\Small 4294967296 rs/\
  val 4294967296 (rs.take (k+m.length))=val 4294967296 (l.take k)*y/\Below w.heap.size w wr) (fun i _=>l.length - (intOf i).toNat)
 case atStart=>exact⟨0,zeros (l.length+m.length),by omega,rfl,Blk.new _ _ _ _,Qai _,Qap _ _ (by omega),by rw[show (zeros (l.length+m.length)).take (0+m.length)=zeros m.length from by unfold zeros;simp,Qdv];simp[val],bR.alloc lZ _⟩
 case round=>
  obtain⟨k,rs,hk,rfl,hB,hrl,hrs,hv,hb⟩:=hrel;have HV:Hid (val 4294967296 (rs.take (k+m.length))=val 4294967296 (l.take k)*y):=hv;have HRL:Hid (rs.length=l.length+m.length):=hrl;have HB:Hid (Blk .u32 155 wr w.heap.size rs):=hB;have HRS:Hid (Small 4294967296 rs):=hrs;clear hv hrs;by_cases hlt:k<l.length
  ·
   obtain⟨b,off,rfl,hb1,hc1⟩:=h1.row.cell k hlt;obtain⟨d,hd⟩:=nm (l.getD k 0);have hdb:d<4294967296:=by rw[<-hd];exact h1.num.small.getD (by omega) k
   rw[hd] at hc1;have H1:Hid (l.getD k 0=d):=hd;clear hd hrl hB;go_wp2;have HBL:Hid (Below w.heap.size w wr):=hb;clear hb;go_loopw [7,8] (fun c j wr=>∃(i c':Nat) (rs:List Nat),i<=m.length/\c'<4294967296/\c=.int .u64 c'/\j=.int .i64 i/\Blk .u32 155 wr w.heap.size rs/\rs.length=l.length+m.length/\Small 4294967296 rs/\
    val 4294967296 (rs.take (k+m.length))+4294967296 ^ (k+i)*c'=val 4294967296 (l.take k)*y+4294967296 ^ k*(d*val 4294967296 (m.take i))/\Below w.heap.size w wr) (fun _ j _=>m.length - (intOf j).toNat)
   case atStart=>exact⟨0,0,rs,by omega,by omega,rfl,rfl,HB.out,HRL.out,HRS.out,by rw[HV.out];simp[val],HBL.out⟩
   case round=>
    clear HB HRL HRS HV HBL;obtain⟨i,c,rs,hi,hc,rfl,rfl,hB,hrl,hrs,hv,hb⟩:=hrel;have HV:Hid (val 4294967296 (rs.take (k+m.length))+4294967296 ^ (k+i)*c=val 4294967296 (l.take k)*y+4294967296 ^ k*(d*val 4294967296 (m.take i))):=hv;have HRL:Hid (rs.length=l.length+m.length):=hrl;have HB:Hid (Blk .u32 155 wr w.heap.size rs):=hB;have HRS:Hid (Small 4294967296 rs):=hrs;clear hv;by_cases hlti:i<m.length
    ·
     obtain⟨b',off',rfl,hb2,hc2⟩:=h2.row.cell i hlti;obtain⟨e,he⟩:=nm (m.getD i 0);have heb:e<4294967296:=by rw[<-he];exact h2.num.small.getD (by omega) i
     rw[he] at hc2;have hc1':=ce hb hb1 hc1;have hc2':=ce hb hb2 hc2;have H2:Hid (m.getD i 0=e):=he;obtain⟨z,hz⟩:=nm (rs.getD (k+i) 0);have hzb:z<4294967296:=by rw[<-hz];exact hrs.getD (by omega) _
     have g1:=hB.free (k+i);have g2:=hB.cell (k+i) (by omega);rw[hz] at g2;have HZ:Hid (rs.getD (k+i) 0=z):=hz;clear he hc2 hz hB hrl hrs;have hp:=Qdh hdb heb;obtain⟨t,ht⟩:∃t:Nat,t=d*e:=⟨_,rfl⟩;have ht1:(d:Int)*(e:Int)=(t:Int):=by rw[ht];simp
     have ht2:t<=18446744065119617025:=by rw[ht];exact hp
     have HT:Hid (t=d*e):=ht;clear ht hp;have ev:Hid (((c:Int)+(t+z)) % 4294967296=(((c+(t+z)) % 4294967296:Nat):Int)):=by unfold Hid;omega
     have ec:Hid (((c:Int)+(t+z)) / 4294967296=(((c+(t+z)) / 4294967296:Nat):Int)):=by unfold Hid;omega
     go_wp2;go_region
     all_goals
      go_wp2;go_roundw
      case rel=>
       rw[ev.out,ec.out];exact⟨i+1,(c+(t+z)) / 4294967296,rs.set (k+i) ((c+(t+z)) % 4294967296),by omega,by omega,rfl,by go_num,(HB.out.set (k+i) _).drew,by rw[List.length_set];exact HRL.out,HRS.out.set _ (by omega),Qob _ k i d e t _ c z _ rs m HT.out H2.out (by have:=HRL.out;omega) (by omega) HZ.out HV.out,(hb.setCell lZ _).drew⟩
      case measure=>simp[intOf];omega
    ·
     obtain⟨z,hz⟩:=nm (rs.getD (k+m.length) 0);have g1:=hB.free (k+m.length);have g2:=hB.cell (k+m.length) (by omega);rw[hz] at g2;clear hz hB hrl hrs;have hv2:val 4294967296 ((rs.set (k+m.length) c).take (k+1+m.length))=val 4294967296 (l.take (k+1))*y:=by
      have e1:i=m.length:=by omega
      have e2:=HV.out;rw[e1,List.take_length,h2.num.eq] at e2;exact Qoc _ k d c y m.length rs l H1.out (by have:=HRL.out;omega) e2
     have HV2:Hid (val 4294967296 ((rs.set (k+m.length) c).take (k+1+m.length))=val 4294967296 (l.take (k+1))*y):=hv2;clear hv2;go_wp2;go_roundw
     case rel=>exact⟨k+1,rs.set (k+m.length) c,by omega,by go_num,HB.out.set (k+m.length) c,by rw[List.length_set];exact HRL.out,HRS.out.set _ hc,HV2.out,hb.setCell lZ _⟩
     case measure=>simp[intOf];omega
  ·
   have hvv:val 4294967296 rs=x*y:=by
    have e1:k=l.length:=by omega
    have e2:=HV.out;rw[e1,List.take_length,List.take_of_length_le (by omega),h1.num.eq] at e2;exact e2
   clear hrl hB;go_wp2_with fail;refine(Qax w.heap.size (l.length+m.length) (l.length+m.length) (x*y) rs _ HB.out HRL.out HRS.out lZ hlm hvv).mono ?_;rintro e w1 ⟨⟨a,cap,r,rfl,hu⟩,rfl⟩;go_wp2;go_ret;exact⟨⟨a,cap,r,rfl,hu⟩,hb⟩
theorem Qma{k:IntKind}{w:World}{base:Nat}{e:TypeId}{v:Value}{l:List Nat}(h:w.ownsRow base e 1 v l.length (l.map (fun n:Nat=>Value.int k n))):
 ∃a cap,v=.slice a l.length cap/\Row k w a cap l:=by
 obtain⟨h1,h2⟩:=h;rcases h2 with ⟨rfl,h3⟩|⟨g,cap,cur,rfl,hg,hh,hc1,hc2,hc3,hc4⟩
 ·
  have:l= []:=List.length_eq_zero_iff.1 h3;subst this;exact⟨none,0,rfl,Row.nil k w⟩
 ·
  have hlt:g<w.heap.size:=by
   apply bC;intro hc;rw[Array.getElem?_eq_none (by omega)] at hh;cases hh
  refine⟨_,cap,rfl,hc1,.inr ⟨g,0,rfl,hlt⟩,fun i hi=>⟨g,0,rfl,hlt,?_⟩⟩;have e1:cur[i]?=some (.int k ((l.getD i 0:Nat):Int)):=by
   have e2:(cur.toList.take (l.length*1))[i]?=(l.map (fun n:Nat=>Value.int k n))[i]?:=by rw[hc4]
   rw[List.getElem?_take_of_lt (by omega),Array.getElem?_toList] at e2;rw[e2];simp[hi]
  simp[World.cell?,hh,e1]
theorem Qay(b off j:Nat):(⟨b,off,none⟩:Addr).add j=⟨b,off+j,none⟩:=by
 unfold Addr.add
 split
 · rename_i h;subst h;rfl
 · rfl
theorem Qmb(x:Nat):val 4294967296 [x % 4294967296,x / 4294967296]=x:=by
 simp only[val];omega
theorem Qbi(X:Int)(w:World)(h0:0<=X)(h1:X<18446744073709551616):
 Calls Tryz.prog 68 #[.int .u64 X] w fun e w'=>(∃a cap r,e=.returned (.slice a r.length cap)/\U32 w' a cap r X.toNat/\r.length<=2)/\Below w.heap.size w w':=by
 obtain⟨x,rfl⟩:=Int.eq_ofNat_of_zero_le h0;rw[Int.toNat_natCast];go_enter Tryz.func68,Tryz.ntmps68;go_wp2_with fail;have e1:(x:Int) % 4294967296=((x % 4294967296:Nat):Int):=by omega
 have e2:(x:Int) / 4294967296=((x / 4294967296:Nat):Int):=by omega
 have hB:Blk .u32 155 (w.alloc (Obj.cells #[Value.int IntKind.u32 ((x:Int) % 4294967296),Value.int IntKind.u32 ((x:Int) / 4294967296)] 155)) w.heap.size [x % 4294967296,x / 4294967296]:=by
  rw[e1,e2];exact Blk.new .u32 155 w [x % 4294967296,x / 4294967296]
 clear e1 e2;refine(Qax w.heap.size 2 2 x [x % 4294967296,x / 4294967296] _ hB rfl ?_ lZ (by omega) (Qmb x)).mono ?_
 ·
  intro d hd;simp at hd;omega
 rintro e w1 ⟨⟨a,cap,r,rfl,hu⟩,rfl⟩;go_wp2;go_ret;exact⟨⟨a,cap,r,rfl,hu,hu.num.length_le_of_lt (by omega) (by omega)⟩,bR.alloc lZ _⟩
theorem Qeo(a:Option Addr)(cap:Nat)(l:List Nat)(x:Nat)(w:World)(h:U32 w a cap l x):
 Calls Tryz.prog 110 #[.slice a l.length cap] w fun e w'=>(∃a cap,e=.returned (.slice a l.length cap)/\U32 w' a cap l x)/\Below w.heap.size w w':=by
 obtain⟨i0,hi,hz0,hz1,hz2⟩:=info_parts Tryz.info32;have hs:=h.short;rcases h.row.shape with ⟨rfl,rfl⟩|⟨b,off,rfl,hb⟩
 ·
  have hl:=h.row.fit;have:l= []:=List.length_eq_zero_iff.1 (by omega);subst this;go_enter Tryz.func110,Tryz.ntmps110;go_wp2_with (at_builtin;refine wpList_append_own_none rfl _ _ 51 rfl w.heap.size 155 i0 1 Tryz.underlying51 hi _ 0 [] rfl (World.ownsRow_nil _ _ _ _) rfl ?_);go_ret;exact⟨⟨none,0,rfl,h⟩,Below.refl _ _⟩
 ·
  go_enter Tryz.func110,Tryz.ntmps110;go_wp2_with (at_builtin;refine wpList_append_own _ rfl _ _ 51 rfl w.heap.size 155 i0 (.int .u32 0) 1 4 Tryz.underlying51 hi hz0 hz1 hz2 rfl (by decide) _ 0 [] rfl (World.ownsRow_nil _ _ _ _) ⟨b,off,none⟩ l.length cap (l.map (fun n:Nat=>Value.int .u32 n)) rfl (by simp) ?c1 ?c2 ?c3 ?c4 lZ ?_)
  case c1=>
   intro j u hj;obtain⟨hlt,hu⟩:=gZ hj;have hlt':j<l.length:=by simpa using hlt
   obtain⟨b',off',e1,_,hc⟩:=h.row.cell j hlt';obtain⟨rfl,rfl⟩:b=b'/\off=off':=by simpa using e1
   rw[Qay,hc,<-hu];simp[hlt']
  case c2=>intro u hu;obtain⟨n,_,rfl⟩:=List.mem_map.1 hu;rfl
  case c3=>unfold maxLen;omega
  case c4=>omega
  ·
   intro v' w1 hown hgrow _;obtain⟨a',cap',rfl,hrow⟩:=Qma hown;clear hown;go_wp2;go_ret;exact⟨⟨a',cap',rfl,hrow,h.num,hs⟩,bR.grown hgrow lZ (fun k hk=>by simp[Value.ownBlock] at hk)⟩
end Go.Proofs.YtfpcipgoedifaaaGreatDoor
namespace Go.Proofs.YtfpcipgoedifaaaGreatDoor
set_option linter.unusedVariables false
theorem or64(x y:Int)(a b i:Nat)(hx:x=((2 ^ i*a:Nat):Int))(hy:y=(b:Int))(hb:b<2 ^ i)(hs:2 ^ i*a+b<18446744073709551616):bits .or .u64 x y=((2 ^ i*a+b:Nat):Int):=by
 subst hx;subst hy;rw[u64_or_nat _ _ (by omega) (by omega),Nat.two_pow_add_eq_or_of_lt hb]
theorem or64'(x y:Int)(a b i:Nat)(hx:x=((2 ^ i*a:Nat):Int))(hy:y=(b:Int))(hb:b<2 ^ i)(hs:2 ^ i*a+b<18446744073709551616):bits .or .u64 y x=((2 ^ i*a+b:Nat):Int):=by
 subst hx;subst hy;rw[u64_or_nat _ _ (by omega) (by omega),Nat.or_comm,Nat.two_pow_add_eq_or_of_lt hb]
theorem or32'(x y:Int)(a b i:Nat)(hx:x=((2 ^ i*a:Nat):Int))(hy:y=(b:Int))(hb:b<2 ^ i)(hs:2 ^ i*a+b<4294967296):bits .or .u32 y x=((2 ^ i*a+b:Nat):Int):=by
 subst hx;subst hy;rw[u32_or_nat _ _ (by omega) (by omega),Nat.or_comm,Nat.two_pow_add_eq_or_of_lt hb]
theorem Qgo(t:Nat)(h:0<t):nb (t / 2)+1=nb t:=by
 unfold nb;by_cases h1:t=1
 · subst h1;rfl
 ·
  rw[if_neg (by omega),if_neg (by omega)];have:t.log2=(t / 2).log2+1:=by
   rw[Nat.log2_def,if_pos (by omega)]
  omega
theorem Qmc(k low top:Nat)(h:low<2 ^ k)(ht:0<top):nb (low+2 ^ k*top)=k+nb top:=by
 have h1:=Qe4 top;have h2:nb (low+2 ^ k*top)≤k+nb top:=by
  apply nb_le;rw[Nat.pow_add];have:=Nat.mul_le_mul_left (2 ^ k) (show top+1≤2 ^ nb top by omega);rw[Nat.mul_add] at this;omega
 have h3:k+nb top≤nb (low+2 ^ k*top):=by
  have h4:2 ^ (nb top - 1)≤top:=Qhv (by have:=Qdd ht;omega);have h5:2 ^ (k+(nb top - 1))≤low+2 ^ k*top:=by
   rw[Nat.pow_add];have:=Nat.mul_le_mul_left (2 ^ k) h4;omega
  apply Classical.byContradiction;intro hc;have h6:=Qe4 (low+2 ^ k*top);have h7:2 ^ nb (low+2 ^ k*top)≤2 ^ (k+(nb top - 1)):=Nat.pow_le_pow_right (by omega) (by omega);omega
 omega
theorem Num.nb_eq{q:Nat}{l:List Nat}{n:Nat}(h:Num (2 ^ q) l n)(hl:0<l.length):nb n=q*(l.length - 1)+nb (l.getD (l.length - 1) 0):=by
 have ht:0<l.getD (l.length - 1) 0:=by
  rcases h.trim with rfl|h1
  · simp at hl
  · omega
 have e:=Qaj (2 ^ q) l (l.length - 1) (by omega);have e2:=Qao (2 ^ q) l (l.length - 1) (by omega);rw[show l.length - 1+1=l.length from by omega,List.drop_of_length_le (Nat.le_refl _)] at e2;simp only[val,Nat.mul_zero,Nat.add_zero] at e2;rw[h.eq,e2,←Nat.pow_mul] at e;have h3:=Qab (Nat.pow_pos (by omega)) (h.small.take (l.length - 1));rw[List.length_take,Nat.min_eq_left (by omega),←Nat.pow_mul] at h3;rw[e,Qmc _ _ _ h3 ht]
theorem Qmd(B j d e r:Nat)(rs l:List Nat)(hj:j<rs.length)(hl:j<l.length)(he:l.getD j 0=e)(h:val B (rs.drop (j+1))*d+r=val B (l.drop (j+1))):
 val B ((rs.set j ((B*r+e) / d)).drop j)*d+(B*r+e) % d=val B (l.drop j):=by
 rw[Qao B l j hl,he,←h,Qce _ j (by simp;omega),Qbj,List.drop_set_of_lt (by omega),List.getD_eq_getElem?_getD,List.getElem?_set_self hj];have e1:=Nat.div_add_mod (B*r+e) d;simp only[Option.getD_some,Nat.add_mul];rw[Nat.mul_comm d] at e1;rw[Nat.mul_add,Nat.mul_assoc];omega
theorem Qep{s:Nat}(hs:s<32):2 ^ s≤2147483648:=by
 have:=Nat.pow_le_pow_right (n:=2) (by omega) (show s≤31 by omega);exact this
theorem Qeq{s:Nat}(hs:s≤32):2 ^ s*2 ^ (32 - s)=4294967296:=by
 rw[←Nat.pow_add,show s+(32 - s)=32 from by omega]
theorem Qc3(d s:Nat)(hs:s≤32):d*2 ^ s % 4294967296=2 ^ s*(d % 2 ^ (32 - s)):=by
 rw[←Qeq hs,Nat.mul_comm d,Nat.mul_mod_mul_left]
theorem Qme(d s:Nat)(hs:s≤32):d*2 ^ s % 4294967296+2 ^ s≤4294967296:=by
 rw[Qc3 d s hs];have h1:d % 2 ^ (32 - s)+1≤2 ^ (32 - s):=Nat.mod_lt _ (Nat.pow_pos (by omega));have h2:=Nat.mul_le_mul_left (2 ^ s) h1;rw[Qeq hs,Nat.mul_add] at h2;omega
theorem Qbx(n:Nat)(h:n<18446744073709551616):IntKind.u64.wrap (n:Int)=(n:Int):=by
 simp[IntKind.wrap,IntKind.signed,IntKind.bits];omega
theorem Qmf(d s z:Nat)(hs:s<32)(hd:d<4294967296)(hz:z<2 ^ s):
 bits .or .u32 (z:Int) (IntKind.u64.wrap ((d:Int)*2 ^ (s % 32)) % 4294967296)=((d*2 ^ s % 4294967296+z:Nat):Int)∧
 bits .or .u32 0 (IntKind.u64.wrap ((d:Int)*2 ^ (s % 32)) / 4294967296 % 4294967296)=((d*2 ^ s / 4294967296:Nat):Int)∧
 d*2 ^ s % 4294967296+z<4294967296∧d*2 ^ s / 4294967296<2 ^ s:=by
 have h1:=Qep hs;have h2:d*2 ^ s≤4294967295*2147483648:=Nat.mul_le_mul (by omega) h1;have h3:=Qme d s (by omega);have h4:d*2 ^ s / 4294967296<2 ^ s:=by
  rw[Nat.div_lt_iff_lt_mul (by omega),Nat.mul_comm (2 ^ s)];exact Nat.mul_lt_mul_of_pos_right hd (Nat.pow_pos (by omega))
 have e1:IntKind.u64.wrap ((d:Int)*2 ^ (s % 32))=((d*2 ^ s:Nat):Int):=by
  rw[Nat.mod_eq_of_lt hs];have:((d:Int)*2 ^ s)=((d*2 ^ s:Nat):Int):=by simp
  rw[this,Qbx _ (by omega)]
 rw[e1];refine⟨?_,?_,by omega,h4⟩
 · rw[or32' (((d*2 ^ s:Nat):Int) % 4294967296) (z:Int) (d % 2 ^ (32 - s)) z s (by rw[←Qc3 d s (by omega)];omega) rfl hz (by rw[←Qc3 d s (by omega)];omega),←Qc3 d s (by omega)]
 ·
  rw[show (((d*2 ^ s:Nat):Int) / 4294967296 % 4294967296)=((d*2 ^ s / 4294967296:Nat):Int) from by omega];have:=u32_or_nat 0 (d*2 ^ s / 4294967296) (by omega) (by omega);rw[Nat.zero_or] at this;exact this
theorem Qmg(k d s z:Nat)(rs l:List Nat)(hk:k+1<rs.length)(hd:l.getD k 0=d)(hz:rs.getD k 0=z)(h:val 4294967296 (rs.take (k+1))=val 4294967296 (l.take k)*2 ^ s):
 val 4294967296 (((rs.set k (d*2 ^ s % 4294967296+z)).set (k+1) (d*2 ^ s / 4294967296)).take (k+1+1))=val 4294967296 (l.take (k+1))*2 ^ s:=by
 rw[take_set _ _ _ (by simp;omega),Qal,List.length_take,Nat.min_eq_left (by simp;omega),take_set _ _ _ (by omega),Qal,List.length_take,Nat.min_eq_left (by omega)];rw[Qad,hz] at h;rw[Qad _ l,hd,Nat.add_mul,←h,Nat.pow_succ,Nat.mul_add,Nat.mul_assoc (4294967296 ^ k) d];have e:=Nat.mod_add_div (d*2 ^ s) 4294967296;have e2:4294967296 ^ k*(d*2 ^ s % 4294967296+4294967296*(d*2 ^ s / 4294967296))=4294967296 ^ k*(d*2 ^ s):=by rw[e]
 rw[Nat.mul_add,←Nat.mul_assoc] at e2;omega
theorem Qmh(d e s:Nat)(hs:s<32)(hd:d<4294967296):((4294967296*e+d) / 2 ^ s % 4294967296)*2 ^ s+d % 2 ^ s=d+4294967296*(e % 2 ^ s):=by
 have hp:0<2 ^ s:=Nat.pow_pos (by omega);have hpt:=Qeq (s:=s) (by omega);generalize hP:2 ^ s=p at*;generalize hT:2 ^ (32 - s)=t at*;have e1:(4294967296*e+d) / p=t*e+d / p:=by
  rw[←hpt,Nat.mul_assoc,Nat.mul_add_div hp]
 have e2:=Nat.div_add_mod e p;have e3:t*e=4294967296*(e / p)+t*(e % p):=by
  conv=>lhs;rw[←e2]
  rw[Nat.mul_add,←Nat.mul_assoc,Nat.mul_comm t p,hpt]
 have h4:d / p<t:=by rw[Nat.div_lt_iff_lt_mul hp,Nat.mul_comm];omega
 have h5:e % p+1≤p:=Nat.mod_lt _ hp;have h6:=Nat.mul_le_mul_left t h5;rw[Nat.mul_add,Nat.mul_comm t p,hpt] at h6;rw[e1,e3,Nat.add_assoc,Nat.mul_add_mod,Nat.mod_eq_of_lt (by omega),Nat.add_mul];have e7:=Nat.div_add_mod d p;rw[Nat.mul_comm p] at e7;have e8:t*(e % p)*p=4294967296*(e % p):=by
  rw[Nat.mul_comm (t*(e % p)) p,←Nat.mul_assoc,hpt]
 omega
theorem Qgp(k d e s m0:Nat)(rs l:List Nat)(hs:s<32)(hdb:d<4294967296)(hk:k<rs.length)(hd:l.getD k 0=d)(he:l.getD (k+1) 0=e)
 (h:val 4294967296 (rs.take k)*2 ^ s+m0=val 4294967296 (l.take k)+4294967296 ^ k*(l.getD k 0 % 2 ^ s)):
 val 4294967296 ((rs.set k ((4294967296*e+d) / 2 ^ s % 4294967296)).take (k+1))*2 ^ s+m0=val 4294967296 (l.take (k+1))+4294967296 ^ (k+1)*(l.getD (k+1) 0 % 2 ^ s):=by
 have e1:=Qmh d e s hs hdb;rw[take_set _ _ _ hk,Qal,List.length_take,Nat.min_eq_left (by omega),Qad _ l,hd,he,Nat.add_mul,Nat.pow_succ];rw[hd] at h;have e2:4294967296 ^ k*(((4294967296*e+d) / 2 ^ s % 4294967296)*2 ^ s+d % 2 ^ s)=4294967296 ^ k*(d+4294967296*(e % 2 ^ s)):=by rw[e1]
 rw[Nat.mul_add,Nat.mul_add,←Nat.mul_assoc,←Nat.mul_assoc] at e2;omega
theorem Qgq(v s:Nat)(hs:s<32):(v:Int) / 2 ^ (s % 32) % 4294967296=((v / 2 ^ s % 4294967296:Nat):Int):=by
 rw[Nat.mod_eq_of_lt hs];simp
open Go.RowKit
set_option maxHeartbeats 400000 in
theorem Qbw(a:Option Addr)(cap:Nat)(l:List Nat)(x:Nat)(w:World)(h:U32 w a cap l x)(hl:l.length<=2):
 Calls Tryz.prog 150 #[.slice a l.length cap] w fun e w'=>e=.returned (.int .u64 x)/\w'=w:=by
 have hx:=h.num.eq
 match l,hl,h,hx with
 | [],_,h,hx=>
   simp only[val] at hx;subst hx;go_enter Tryz.func150,Tryz.ntmps150;go_wp2;go_ret;exact⟨rfl,rfl⟩
 | [d],_,h,hx=>
   obtain⟨b,off,rfl,hb1,hc1⟩:=h.row.cell 0 (by simp);have hd:d<4294967296:=h.num.small d (by simp);simp[val] at hx hc1;subst hx;clear h;go_enter Tryz.func150,Tryz.ntmps150;go_wp2;go_ret;exact⟨rfl,rfl⟩
 | [d,e],_,h,hx=>
   obtain⟨b,off,rfl,hb1,hc1⟩:=h.row.cell 0 (by simp);obtain⟨b',off',e1,hb2,hc2⟩:=h.row.cell 1 (by simp);obtain⟨rfl,rfl⟩:b=b'/\off=off':=by simpa using e1
   have hd:d<4294967296:=h.num.small d (by simp);have he:e<4294967296:=h.num.small e (by simp);simp[val] at hx hc1 hc2;have HX:Hid (d+4294967296*e=x):=hx;have hor:bits .or .u64 (d:Int) ((e:Int)*4294967296)=(x:Int):=by
    rw[or64' ((e:Int)*4294967296) (d:Int) e d 32 (by omega) rfl hd (by omega)];omega
   clear h e1 hx;go_enter Tryz.func150,Tryz.ntmps150;go_wp2;go_ret;exact⟨rfl,rfl⟩
set_option maxHeartbeats 1000000 in
theorem Ql4(a:Option Addr)(cap d:Nat)(l:List Nat)(x:Nat)(w:World)(h:U32 w a cap l x)(hd0:0<d)(hd:d<4294967296):
 Calls Tryz.prog 151 #[.slice a l.length cap,.int .u32 d] w fun e w'=>(∃a cap r,e=.returned (.tuple #[.slice a r.length cap,.int .u32 (x % d:Nat)])/\U32 w' a cap r (x / d))/\Below w.heap.size w w':=by
 have s1:=h.short;have hmk:∀w,(Instr.makeSlice 51 (.int .i64 (l.length:Int)) (.int .i64 (l.length:Int))).run Tryz.prog w=.ok (.slice (some ⟨w.heap.size,0,none⟩) l.length l.length) (w.alloc (.cells (wordCells .u32 (zeros l.length)) 155)):=
  fun w=>Qa4 _ l.length rfl (by omega) w
 go_enter Tryz.func151,Tryz.ntmps151;go_wp2;clear hmk;go_loopw [7,8] (fun r i wr=>∃(k r':Nat) (rs:List Nat),k<=l.length/\r'<d/\r=.int .u64 r'/\i=.int .i64 ((k:Int) - 1)/\Blk .u32 155 wr w.heap.size rs/\rs.length=l.length/\Small 4294967296 rs/\
  val 4294967296 (rs.drop k)*d+r'=val 4294967296 (l.drop k)/\Below w.heap.size w wr) (fun _ i _=>(intOf i+1).toNat)
 case atStart=>exact⟨l.length,0,zeros l.length,Nat.le_refl _,hd0,rfl,rfl,Blk.new _ _ _ _,Qai _,Qap _ _ (by omega),by rw[List.drop_of_length_le (by rw[Qai];exact Nat.le_refl _),List.drop_of_length_le lZ];simp[val],bR.alloc lZ _⟩
 case round=>
  obtain⟨k,r,rs,hk,hr,rfl,rfl,hB,hrl,hrs,hv,hb⟩:=hrel;have HV:Hid (val 4294967296 (rs.drop k)*d+r=val 4294967296 (l.drop k)):=hv;have HRL:Hid (rs.length=l.length):=hrl;have HB:Hid (Blk .u32 155 wr w.heap.size rs):=hB;have HRS:Hid (Small 4294967296 rs):=hrs;clear hv hrs;by_cases h0:k=0
  ·
   subst h0;have e2:=HV.out;simp only[List.drop_zero,h.num.eq] at e2;have hq:val 4294967296 rs=x / d:=by
    rw[<-e2,Nat.mul_comm,Nat.mul_add_div hd0,Nat.div_eq_of_lt hr,Nat.add_zero]
   have hm:x % d=r:=by
    rw[<-e2,Nat.mul_comm,Nat.mul_add_mod,Nat.mod_eq_of_lt hr]
   have HM:Hid (x % d=r):=hm;clear hrl hB e2 hm;have HQ:Hid (val 4294967296 rs=x / d):=hq;clear hq;go_wp2_with fail;refine(Qax w.heap.size l.length l.length (x / d) rs _ HB.out HRL.out HRS.out lZ (by omega) HQ.out).mono ?_;rintro e w1 ⟨⟨a,cap,r,rfl,hu⟩,rfl⟩;go_wp2;go_ret2;exact⟨⟨a,cap,r,by rw[HM.out];rfl,hu⟩,hb⟩
  ·
   obtain⟨j,rfl⟩:∃j,k=j+1:=⟨k - 1,by omega⟩;obtain⟨b,off,rfl,hb1,hc1⟩:=h.row.cell j (by omega);obtain⟨e,he⟩:=nm (l.getD j 0);have heb:e<4294967296:=by rw[<-he];exact h.num.small.getD (by omega) j
   rw[he] at hc1;have hc1':=ce hb hb1 hc1;have H1:Hid (l.getD j 0=e):=he;obtain⟨z,hz⟩:=nm (rs.getD j 0);have g1:=hB.free j;have g2:=hB.cell j (by omega);rw[hz] at g2;clear he hc1 hz hB hrl;have ei:((j+1:Nat):Int) - 1=(j:Int):=by omega
   rw[ei];clear ei;have hne:((d:Int) == 0)=false:=by rw[beq_eq_false_iff_ne];omega
   obtain⟨s,hs⟩:=nm (4294967296*r+e);have hor:bits .or .u64 ((r:Int)*4294967296) (e:Int)=(s:Int):=by
    rw[or64 ((r:Int)*4294967296) (e:Int) r e 32 (by omega) rfl heb (by omega)];omega
   obtain⟨q,hq⟩:=nm (s / d);obtain⟨r',hr'⟩:∃r',s % d=r':=⟨_,rfl⟩;have hqb:q<4294967296:=by
    rw[<-hq,Nat.div_lt_iff_lt_mul hd0];have:=Nat.mul_le_mul_left 4294967296 (show r+1<=d by omega);omega
   have hrb:r'<d:=by rw[<-hr'];exact Nat.mod_lt _ hd0
   have hst:=Qmd 4294967296 j d e r rs l (by have:=HRL.out;omega) (by omega) H1.out HV.out;rw[hs,hq,hr'] at hst;have t1:(s:Int) / (d:Int)=(q:Int):=by rw[<-hq];simp
   have t2:(s:Int) % (d:Int)=(r':Int):=by rw[<-hr'];simp
   have hsb:s<18446744073709551616:=by omega
   have HST:Hid (val 4294967296 ((rs.set j q).drop j)*d+r'=val 4294967296 (l.drop j)):=hst;clear hq hr' hst hs;go_wp2;go_roundw
   case rel=>exact⟨j,r',rs.set j q,by omega,hrb,by rw[t2],rfl,HB.out.set j q,by rw[List.length_set];exact HRL.out,HRS.out.set j hqb,HST.out,hb.setCell lZ _⟩
   case measure=>simp[intOf]
set_option maxHeartbeats 400000 in
theorem Ql5(a:Option Addr)(cap:Nat)(l:List Nat)(x:Nat)(w:World)(h:U32 w a cap l x):
 Calls Tryz.prog 152 #[.slice a l.length cap] w fun e w'=>e=.returned (.int .i64 (nb x))/\w'=w:=by
 have s1:=h.short;by_cases h0:l.length=0
 ·
  have hx:x=0:=(h.num.len_zero (by omega)).2 h0;have q1:((l.length:Int) == 0)=true:=by simp[h0]
  subst hx;clear h0;go_enter Tryz.func152,Tryz.ntmps152;go_wp2;go_ret;exact⟨rfl,rfl⟩
 ·
  have q1:((l.length:Int) == 0)=false:=by rw[beq_eq_false_iff_ne];omega
  have hnb:=Num.nb_eq (q:=32) h.num (by omega);obtain⟨b,off,rfl,hb1,hc1⟩:=h.row.cell (l.length - 1) (by omega);obtain⟨t,ht⟩:=nm (l.getD (l.length - 1) 0);have htb:t<4294967296:=by rw[<-ht];exact h.num.small.getD (by omega) _
  have htn:nb t<=32:=nb_le (by omega);rw[ht] at hc1 hnb;have HN:Hid (nb x=32*(l.length - 1)+nb t):=hnb;clear ht hnb;obtain⟨j,hj⟩:∃j,l.length=j+1:=⟨l.length - 1,by omega⟩;rw[hj] at hc1 HN q1 s1 ⊢;clear hj h0;simp only[Nat.add_sub_cancel] at hc1 HN;go_enter Tryz.func152,Tryz.ntmps152;go_wp2;go_loop [3,4] (fun n v=>∃m u:Nat,nb u+m=nb t/\u<4294967296/\n=.int .i64 m/\v=.int .u32 u) (fun n v=>nb (intOf v).toNat)
  case atStart=>exact⟨0,t,rfl,htb,rfl,rfl⟩
  case round=>
   obtain⟨m,u,hmu,hub,rfl,rfl⟩:=hrel;have HM:Hid (nb u+m=nb t):=hmu;have hm32:m<=32:=by omega
   clear hmu;by_cases hu:u=0
   ·
    subst hu;have q2:(((0:Nat):Int) != 0)=false:=by simp
    go_wp2;go_ret;refine⟨?_,rfl⟩;have e1:=HM.out;have e2:=HN.out;rw[Qn8] at e1;exact congrArg (fun n:Int=>Ending.returned (.int .i64 n)) (by omega)
   ·
    have q2:((u:Int) != 0)=true:=by rw[bne_iff_ne];omega
    go_wp2;go_round
    case rel=>exact⟨m+1,u / 2,by have:=Qgo u (by omega);have:=HM.out;omega,by omega,by go_num,congrArg (Value.int IntKind.u32) (by omega)⟩
    case measure=>
     have e1:=Qgo u (by omega)
     show nb (((u:Int) / 2).toNat)<nb ((u:Int).toNat)
     rw[show ((u:Int) / 2).toNat=u / 2 from by omega,Int.toNat_natCast];omega
end Go.Proofs.YtfpcipgoedifaaaGreatDoor
