/- Division of three half words by two: plain. -/
import Derived.Test.YtfpcipgoedifaaaGreatDoorK11NatAdd
namespace Go.Proofs.YtfpcipgoedifaaaGreatDoor
open Go.RowKit
set_option linter.unusedVariables false
set_option linter.unusedSimpArgs false
structure RowDone (w w':World) (g off n:Nat) (rs rs':List Nat):Prop where
 blk:Blk .u64 123 w' g rs'
 len:rs'.length=rs.length
 small:Small 18446744073709551616 rs'
 only:Only g w w'
 out:∀p,p<off∨off+n<=p->rs'.getD p 0=rs.getD p 0
theorem Row.onlyG{k:IntKind}{w w':World}{a:Option Addr}{cap:Nat}{l:List Nat}{g:Nat}(h:Row k w a cap l)(ho:Only g w w')(hne:∀b off,a=some ⟨b,off,none⟩->b≠g):Row k w' a cap l:=by
 refine⟨h.fit,?_,fun i hi=>?_⟩
 ·
  rcases h.shape with h1|⟨b',off,rfl,h2⟩
  · exact .inl h1
  · exact .inr ⟨b',off,rfl,by have:=ho.size;omega⟩
 · obtain⟨b',off,h1,h2,h3⟩:=h.cell i hi
   exact⟨b',off,h1,by have:=ho.size;omega,(World.cell?_of_block (w:=w) (ho.block b' h2 (hne b' off h1))).trans h3⟩
theorem U64.onlyG{w w':World}{a:Option Addr}{cap:Nat}{l:List Nat}{n g:Nat}(h:U64 w a cap l n)(ho:Only g w w')(hne:∀b off,a=some ⟨b,off,none⟩->b≠g):U64 w' a cap l n:=⟨h.row.onlyG ho hne,h.num,h.short⟩
theorem Qfp{rs rs':List Nat}{off j x:Nat}(h:∀p,p<off∨off+j<=p->rs'.getD p 0=rs.getD p 0):∀p,p<off∨off+(j+1)<=p->(rs'.set (off+j) x).getD p 0=rs.getD p 0:=by
 intro p hp;rw[getD_set_ne _ _ _ _ (by omega)];exact h p (by omega)
theorem Qjh(B p a new over over' t R:Nat)(rs:List Nat)(hp:p<rs.length)(ha:rs.getD p 0=a)(hn:new+B*over'=a+t+over)(h:val B rs+B ^ p*over=R):
 val B (rs.set p new)+B ^ (p+1)*over'=R+B ^ p*t:=by
 have h1:=Qbd B rs p new hp;rw[ha] at h1;have h2:B ^ p*(new+B*over')=B ^ p*(a+t+over):=by rw[hn]
 rw[Nat.mul_add,Nat.mul_add,Nat.mul_add,<-Nat.mul_assoc] at h2;rw[Nat.pow_succ];omega
theorem Qqt(B p a new lack lack' t R S:Nat)(rs:List Nat)(hp:p<rs.length)(ha:rs.getD p 0=a)(hn:new+t+lack=a+B*lack')(h:val B rs+S=R+B ^ p*lack):
 val B (rs.set p new)+(S+B ^ p*t)=R+B ^ (p+1)*lack':=by
 have h1:=Qbd B rs p new hp;rw[ha] at h1;have h2:B ^ p*(new+t+lack)=B ^ p*(a+B*lack'):=by rw[hn]
 rw[Nat.mul_add,Nat.mul_add,Nat.mul_add,<-Nat.mul_assoc] at h2;rw[Nat.pow_succ];omega
theorem Qfq{v d over:Nat}(hv:v<18446744073709551616)(hd:d<18446744073709551616):v*d<=18446744073709551615*18446744073709551615:=Nat.mul_le_mul (by omega) (by omega)
theorem Qfr(B off j d:Nat)(m:List Nat):B ^ off*(d*val B (m.take (j+1)))=B ^ off*(d*val B (m.take j))+B ^ (off+j)*(m.getD j 0*d):=by
 rw[Qad,Nat.mul_add,Nat.mul_add,Nat.pow_add]
 congr 1
 rw[Nat.mul_assoc,Nat.mul_comm (m.getD j 0) d,<-Nat.mul_assoc d,Nat.mul_comm d (B ^ j),Nat.mul_assoc]
set_option maxHeartbeats 1000000 in
theorem Qqu(g off cap:Nat)(rs:List Nat)(a2:Option Addr)(c2:Nat)(m:List Nat)(d:Nat)(w:World)(hB:Blk .u64 123 w g rs)(hsm:Small 18446744073709551616 rs)(hm:Row .u64 w a2 c2 m)(hms:Small 18446744073709551616 m)(hml:m.length<=1099511627776)(hd:d<18446744073709551616)
 (hoff:off+m.length<=rs.length) (hcap:m.length<=cap) (hne:∀b o,a2=some ⟨b,o,none⟩->b≠g):
 Calls Tryz.prog 130 #[.slice (some ⟨g,off,none⟩) m.length cap,.slice a2 m.length c2,.int .u64 d] w fun e w'=>∃over rs',e=.returned (.int .u64 ((over:Nat):Int))/\over<18446744073709551616/\RowDone w w' g off m.length rs rs'/\val 18446744073709551616 rs'+18446744073709551616 ^ (off+m.length)*over=val 18446744073709551616 rs+18446744073709551616 ^ off*(d*val 18446744073709551616 m):=by
 have HB0:=Hi hB;have HSM:=Hi hsm;have HM:=Hi hm;have HMS:=Hi hms;have HNE:=Hi hne;clear hB hsm hm hms hne;go_enter Tryz.func130,Tryz.ntmps130;go_wp2;go_loopw [7,19] (fun o i wr=>∃(k over:Nat) (rk:List Nat),k<=m.length/\over<18446744073709551616/\o=.int .u64 over/\i=.int .i64 k/\RowDone w wr g off k rs rk/\val 18446744073709551616 rk+18446744073709551616 ^ (off+k)*over=val 18446744073709551616 rs+18446744073709551616 ^ off*(d*val 18446744073709551616 (m.take k))) (fun _ i _=>m.length - (intOf i).toNat)
 case atStart=>exact⟨0,0,rs,by omega,by omega,rfl,rfl,⟨HB0.out,rfl,HSM.out,Only.refl _ _,fun _ _=>rfl⟩,by simp[val]⟩
 case round=>
  obtain⟨k,over,rk,hk,hov,rfl,rfl,hr,hv⟩:=hrel;have HR:=Hi hr;have HV:=Hi hv;clear hv;by_cases hlt:k<m.length
  ·
   obtain⟨b,o,rfl,hb1,hc1⟩:=(HM.out.onlyG HR.out.only HNE.out).cell k hlt;obtain⟨v,hv⟩:=nm (m.getD k 0);rw[hv] at hc1;have hvb:v<18446744073709551616:=by rw[<-hv];exact HMS.out.getD (by omega) k
   obtain⟨z,hz⟩:=nm (rk.getD (off+k) 0);have hzb:z<18446744073709551616:=by rw[<-hz];exact HR.out.small.getD (by omega) _
   have g1:=hr.blk.free (off+k);have g2:=hr.blk.cell (off+k) (by rw[hr.len];omega);rw[hz] at g2;obtain⟨h,l,hh,hl,hhl,hcm⟩:=mul64 v d hvb hd;obtain⟨l',c1,hl',hc1b,hlc,hca⟩:=Qcn l over hl hov;obtain⟨z',c2',hz',hc2b,hzc,hcb⟩:=Qcn z l' hzb hl';have hfit:=Qfq (over:=over) hvb hd;have hsum:z'+18446744073709551616*(h+c1+c2')=z+v*d+over:=by omega
   have hob:h+c1+c2'<18446744073709551616:=by omega
   have hob1:h+c1<18446744073709551616:=by omega
   have HCM:=Hi hcm;have HSUM:=Hi hsum;have HV1:=Hi hv;have HZ1:=Hi hz;clear hr hv hz hcm hsum hhl hlc hzc hfit;go_wp2_with (first|(go_at_call 168;refine(HCM.out _).mono ?_;rintro e w2 ⟨rfl,hw2⟩;subst hw2)|simp only[hca]|simp only[hcb]);go_roundw
   case rel=>
    refine⟨k+1,h+c1+c2',rk.set (off+k) z',by omega,hob,by go_num,by go_num,⟨HR.out.blk.set _ _,by rw[List.length_set];exact HR.out.len,HR.out.small.set _ hz',HR.out.only.setCell _ _,Qfp HR.out.out⟩,?_⟩;have h1:=Qjh 18446744073709551616 (off+k) z z' over (h+c1+c2') (v*d) _ rk (by rw[HR.out.len];omega) HZ1.out (by rw[HSUM.out]) HV.out;rw[Nat.add_assoc] at h1;rw[h1,Qfr,HV1.out];omega
   case measure=>simp[intOf];omega
  ·
   have e1:k=m.length:=by omega
   subst e1;clear hr;go_wp2;go_ret;exact⟨over,rk,rfl,hov,HR.out,by have:=HV.out;rw[List.take_length] at this;exact this⟩
set_option maxHeartbeats 1000000 in
theorem Qqv(g off cap:Nat)(rs:List Nat)(a2:Option Addr)(c2:Nat)(m:List Nat)(d:Nat)(w:World)(hB:Blk .u64 123 w g rs)(hsm:Small 18446744073709551616 rs)(hm:Row .u64 w a2 c2 m)(hms:Small 18446744073709551616 m)(hml:m.length<=1099511627776)(hd:d<18446744073709551616)
 (hoff:off+m.length<=rs.length) (hcap:m.length<=cap) (hne:∀b o,a2=some ⟨b,o,none⟩->b≠g):
 Calls Tryz.prog 182 #[.slice (some ⟨g,off,none⟩) m.length cap,.slice a2 m.length c2,.int .u64 d] w fun e w'=>∃over rs',e=.returned (.int .u64 ((over:Nat):Int))/\over<18446744073709551616/\RowDone w w' g off m.length rs rs'/\val 18446744073709551616 rs'+18446744073709551616 ^ off*(d*val 18446744073709551616 m)=val 18446744073709551616 rs+18446744073709551616 ^ (off+m.length)*over:=by
 have HB0:=Hi hB;have HSM:=Hi hsm;have HM:=Hi hm;have HMS:=Hi hms;have HNE:=Hi hne;clear hB hsm hm hms hne;go_enter Tryz.func182,Tryz.ntmps182;go_wp2;go_loopw [7,19] (fun o i wr=>∃(k over:Nat) (rk:List Nat),k<=m.length/\over<18446744073709551616/\o=.int .u64 over/\i=.int .i64 k/\RowDone w wr g off k rs rk/\val 18446744073709551616 rk+18446744073709551616 ^ off*(d*val 18446744073709551616 (m.take k))=val 18446744073709551616 rs+18446744073709551616 ^ (off+k)*over) (fun _ i _=>m.length - (intOf i).toNat)
 case atStart=>exact⟨0,0,rs,by omega,by omega,rfl,rfl,⟨HB0.out,rfl,HSM.out,Only.refl _ _,fun _ _=>rfl⟩,by simp[val]⟩
 case round=>
  obtain⟨k,over,rk,hk,hov,rfl,rfl,hr,hv⟩:=hrel;have HR:=Hi hr;have HV:=Hi hv;clear hv;by_cases hlt:k<m.length
  ·
   obtain⟨b,o,rfl,hb1,hc1⟩:=(HM.out.onlyG HR.out.only HNE.out).cell k hlt;obtain⟨v,hv⟩:=nm (m.getD k 0);rw[hv] at hc1;have hvb:v<18446744073709551616:=by rw[<-hv];exact HMS.out.getD (by omega) k
   obtain⟨z,hz⟩:=nm (rk.getD (off+k) 0);have hzb:z<18446744073709551616:=by rw[<-hz];exact HR.out.small.getD (by omega) _
   have g1:=hr.blk.free (off+k);have g2:=hr.blk.cell (off+k) (by rw[hr.len];omega);rw[hz] at g2;obtain⟨h,l,hh,hl,hhl,hcm⟩:=mul64 v d hvb hd;obtain⟨l',c1,hl',hc1b,hlc,hca⟩:=Qcn l over hl hov;obtain⟨z',c2',hz',hc2b,hzc,hcb⟩:=Qi6 z l' hzb hl';have hfit:=Qfq (over:=over) hvb hd;have hsum:z'+v*d+over=z+18446744073709551616*(h+c1+c2'):=by omega
   have hob:h+c1+c2'<18446744073709551616:=by omega
   have hob1:h+c1<18446744073709551616:=by omega
   have HCM:=Hi hcm;have HSUM:=Hi hsum;have HV1:=Hi hv;have HZ1:=Hi hz;clear hr hv hz hcm hsum hhl hlc hzc hfit;go_wp2_with (first|(go_at_call 168;refine(HCM.out _).mono ?_;rintro e w2 ⟨rfl,hw2⟩;subst hw2)|simp only[hca]|simp only[hcb]);go_roundw
   case rel=>
    refine⟨k+1,h+c1+c2',rk.set (off+k) z',by omega,hob,by go_num,by go_num,⟨HR.out.blk.set _ _,by rw[List.length_set];exact HR.out.len,HR.out.small.set _ hz',HR.out.only.setCell _ _,Qfp HR.out.out⟩,?_⟩;have h1:=Qqt 18446744073709551616 (off+k) z z' over (h+c1+c2') (v*d) _ _ rk (by rw[HR.out.len];omega) HZ1.out HSUM.out HV.out;rw[Nat.add_assoc off] at h1;rw[Qfr,HV1.out];exact h1
   case measure=>simp[intOf];omega
  ·
   have e1:k=m.length:=by omega
   subst e1;clear hr;go_wp2;go_ret;exact⟨over,rk,rfl,hov,HR.out,by have:=HV.out;rw[List.take_length] at this;exact this⟩
set_option maxHeartbeats 1000000 in
theorem Qqw(g off cap:Nat)(rs:List Nat)(a2:Option Addr)(c2:Nat)(m:List Nat)(w:World)(hB:Blk .u64 123 w g rs)(hsm:Small 18446744073709551616 rs)(hm:Row .u64 w a2 c2 m)(hms:Small 18446744073709551616 m)(hml:m.length<=1099511627776)
 (hoff:off+m.length<=rs.length) (hcap:m.length<=cap) (hne:∀b o,a2=some ⟨b,o,none⟩->b≠g):
 Calls Tryz.prog 183 #[.slice (some ⟨g,off,none⟩) m.length cap,.slice a2 m.length c2] w fun e w'=>∃over rs',e=.returned (.int .u64 ((over:Nat):Int))/\over<=1/\RowDone w w' g off m.length rs rs'/\val 18446744073709551616 rs'+18446744073709551616 ^ (off+m.length)*over=val 18446744073709551616 rs+18446744073709551616 ^ off*(1*val 18446744073709551616 m):=by
 have HB0:=Hi hB;have HSM:=Hi hsm;have HM:=Hi hm;have HMS:=Hi hms;have HNE:=Hi hne;clear hB hsm hm hms hne;go_enter Tryz.func183,Tryz.ntmps183;go_wp2;go_loopw [5,14] (fun o i wr=>∃(k over:Nat) (rk:List Nat),k<=m.length/\over<=1/\o=.int .u64 over/\i=.int .i64 k/\RowDone w wr g off k rs rk/\val 18446744073709551616 rk+18446744073709551616 ^ (off+k)*over=val 18446744073709551616 rs+18446744073709551616 ^ off*(1*val 18446744073709551616 (m.take k))) (fun _ i _=>m.length - (intOf i).toNat)
 case atStart=>exact⟨0,0,rs,by omega,by omega,rfl,rfl,⟨HB0.out,rfl,HSM.out,Only.refl _ _,fun _ _=>rfl⟩,by simp[val]⟩
 case round=>
  obtain⟨k,over,rk,hk,hov,rfl,rfl,hr,hv⟩:=hrel;have HR:=Hi hr;have HV:=Hi hv;clear hv;by_cases hlt:k<m.length
  ·
   obtain⟨b,o,rfl,hb1,hc1⟩:=(HM.out.onlyG HR.out.only HNE.out).cell k hlt;obtain⟨v,hv⟩:=nm (m.getD k 0);rw[hv] at hc1;have hvb:v<18446744073709551616:=by rw[<-hv];exact HMS.out.getD (by omega) k
   obtain⟨z,hz⟩:=nm (rk.getD (off+k) 0);have hzb:z<18446744073709551616:=by rw[<-hz];exact HR.out.small.getD (by omega) _
   have g1:=hr.blk.free (off+k);have g2:=hr.blk.cell (off+k) (by rw[hr.len];omega);rw[hz] at g2;obtain⟨z',c2',hz',hc2b,hzc,hcb⟩:=add64 z v over hzb hvb hov;have HSUM:=Hi hzc;have HV1:=Hi hv;have HZ1:=Hi hz;clear hr hv hz hzc;go_wp2_with (simp only[hcb]);go_roundw
   case rel=>
    refine⟨k+1,c2',rk.set (off+k) z',by omega,hc2b,by go_num,by go_num,⟨HR.out.blk.set _ _,by rw[List.length_set];exact HR.out.len,HR.out.small.set _ hz',HR.out.only.setCell _ _,Qfp HR.out.out⟩,?_⟩;have h1:=Qjh 18446744073709551616 (off+k) z z' over c2' (v*1) _ rk (by rw[HR.out.len];omega) HZ1.out (by rw[HSUM.out];omega) HV.out;rw[Nat.add_assoc] at h1;rw[h1,Qfr,HV1.out];omega
   case measure=>simp[intOf];omega
  ·
   have e1:k=m.length:=by omega
   subst e1;clear hr;go_wp2;go_ret;exact⟨over,rk,rfl,hov,HR.out,by have:=HV.out;rw[List.take_length] at this;exact this⟩
set_option maxHeartbeats 1000000 in
theorem Qjg(a1 a2:Option Addr)(c1 c2:Nat)(l m:List Nat)(x y:Nat)(w:World)(h1:U64 w a1 c1 l x)(h2:U64 w a2 c2 m y)(hlm:l.length+m.length<=1099511627776):
 Calls Tryz.prog 88 #[.slice a1 l.length c1,.slice a2 m.length c2] w fun e w'=>(∃a cap r,e=.returned (.slice a r.length cap)/\U64 w' a cap r (x*y))/\Below w.heap.size w w':=by
 have H1:=Hi h1;have H2:=Hi h2;by_cases hx0:l.length=0
 ·
  have hx:x=0:=(h1.num.len_zero (by decide)).2 hx0;have q1:((l.length:Int) == 0)=true:=by simp[hx0]
  subst hx;clear h1 h2;go_enter Tryz.func88,Tryz.ntmps88;go_wp2;go_ret;exact⟨⟨none,0,[],rfl,by rw[Nat.zero_mul];exact U64.nil _⟩,Below.refl _ _⟩
 by_cases hy0:m.length=0
 ·
  have hy:y=0:=(h2.num.len_zero (by decide)).2 hy0;have q1:((l.length:Int) == 0)=false:=by rw[beq_eq_false_iff_ne];omega
  have q2:((m.length:Int) == 0)=true:=by simp[hy0]
  subst hy;clear h1 h2;go_enter Tryz.func88,Tryz.ntmps88;go_wp2;go_ret;exact⟨⟨none,0,[],rfl,by rw[Nat.mul_zero];exact U64.nil _⟩,Below.refl _ _⟩
 have q1:((l.length:Int) == 0)=false:=by rw[beq_eq_false_iff_ne];omega
 have q2:((m.length:Int) == 0)=false:=by rw[beq_eq_false_iff_ne];omega
 have HO1:=Hi (Qcp a1 c1 l x w h1);have HO2:=Hi (Qcp a2 c2 m y w h2);clear h1 h2;by_cases hx1:x=1
 ·
  rw[show decide (x=1)=true by simpa using hx1] at HO1;go_enter Tryz.func88,Tryz.ntmps88;go_wp2_with fail;refine HO1.out.mono ?_;rintro e w1 ⟨rfl,hw1⟩;subst hw1;clear HO1 HO2;go_wp2;go_ret;exact⟨⟨a2,c2,m,rfl,by rw[hx1,Nat.one_mul];exact H2.out⟩,Below.refl _ _⟩
 rw[show decide (x=1)=false by simpa using hx1] at HO1;by_cases hy1:y=1
 ·
  rw[show decide (y=1)=true by simpa using hy1] at HO2;go_enter Tryz.func88,Tryz.ntmps88;go_wp2_with fail;refine HO1.out.mono ?_;rintro e w1 ⟨rfl,hw1⟩;subst hw1;go_wp2_with fail;refine HO2.out.mono ?_;rintro e w1 ⟨rfl,hw1⟩;subst hw1;clear HO1 HO2;go_wp2;go_ret;exact⟨⟨a1,c1,l,rfl,by rw[hy1,Nat.mul_one];exact H1.out⟩,Below.refl _ _⟩
 rw[show decide (y=1)=false by simpa using hy1] at HO2;have hmk:∀w,(Instr.makeSlice 101 (.int .i64 ((l.length:Int)+(m.length:Int))) (.int .i64 ((l.length:Int)+(m.length:Int)))).run Tryz.prog w=.ok (.slice (some ⟨w.heap.size,0,none⟩) (l.length+m.length) (l.length+m.length)) (w.alloc (.cells (wordCells .u64 (zeros (l.length+m.length))) 123)):=
  fun w=>Qcm _ (l.length+m.length) (by omega) (by omega) w
 go_enter Tryz.func88,Tryz.ntmps88;go_wp2_with fail;refine HO1.out.mono ?_;rintro e w1 ⟨rfl,hw1⟩;subst hw1;go_wp2_with fail;refine HO2.out.mono ?_;rintro e w ⟨rfl,hw1⟩;subst hw1;clear HO1 HO2;go_wp2;clear hmk;go_loopw [30] (fun i wr=>∃(k:Nat) (rs:List Nat),k<=l.length/\i=.int .i64 k/\Blk .u64 123 wr w.heap.size rs/\rs.length=l.length+m.length/\Small 18446744073709551616 rs/\val 18446744073709551616 rs=val 18446744073709551616 (l.take k)*y/\(∀p,k+m.length<=p->rs.getD p 0=0)/\Below w.heap.size w wr) (fun i _=>l.length - (intOf i).toNat)
 case atStart=>exact⟨0,zeros (l.length+m.length),by omega,rfl,Blk.new _ _ _ _,Qai _,Qap _ _ (by omega),by rw[Qdv];simp[val],fun p _=>Qbq _ _,bR.alloc lZ _⟩
 case round=>
  obtain⟨k,rs,hk,rfl,hB,hrl,hrs,hv,hz,hb⟩:=hrel;have HB:=Hi hB;have HRL:=Hi hrl;have HRS:=Hi hrs;have HV:=Hi hv;have HZ:=Hi hz;have HBL:=Hi hb;clear hB hrl hrs hv hz hb;by_cases hlt:k<l.length
  ·
   obtain⟨b,off,rfl,hb1,hc1⟩:=(H1.out.row.below HBL.out).cell k hlt;obtain⟨d,hd⟩:=nm (l.getD k 0);rw[hd] at hc1;have hdb:d<18446744073709551616:=by rw[<-hd];exact H1.out.num.small.getD (by omega) k
   have HD:=Hi hd;have HC:=Hi (Qqu w.heap.size k (l.length+m.length - k) rs a2 c2 m d wr HB.out HRS.out (H2.out.row.below HBL.out) H2.out.num.small H2.out.short hdb (by have:=HRL.out;omega) (by omega) (fun b o hbo=>by
    rcases H2.out.row.shape with ⟨h,_⟩|⟨b',o',h,hlt'⟩
    · rw[h] at hbo;cases hbo
    ·
     rw[h] at hbo;obtain⟨rfl,rfl⟩:b'=b/\o'=o:=by simpa using hbo
     omega))
   clear hd;go_wp2_with fail;refine HC.out.mono ?_;rintro e w2 ⟨over,rs',rfl,hov,hdone,hval⟩;have g1:=hdone.blk.free (k+m.length);have g2:=hdone.blk.cell (k+m.length) (by rw[hdone.len,HRL.out];omega);have hz0:rs'.getD (k+m.length) 0=0:=by rw[hdone.out _ (.inr lZ)];exact HZ.out _ lZ
   rw[hz0] at g2;have HDO:=Hi hdone;have HVA:=Hi hval;have HZ0:=Hi hz0;clear hdone hval hz0 HC;go_wp2;go_roundw
   case rel=>
    have hlen:rs'.length=l.length+m.length:=by rw[HDO.out.len];exact HRL.out
    refine⟨k+1,rs'.set (k+m.length) over,by omega,by go_num,HDO.out.blk.set _ _,by rw[List.length_set];exact hlen,HDO.out.small.set _ hov,?_,?_,(HBL.out.trans (HDO.out.only.below lZ HBL.out.size)).setCell lZ _⟩
    ·
     have h3:=Qbd 18446744073709551616 rs' (k+m.length) over (by omega);rw[HZ0.out,Nat.mul_zero,Nat.add_zero] at h3;rw[h3,HVA.out,HV.out,Qad,HD.out,H2.out.num.eq,Nat.add_mul,Nat.mul_assoc]
    ·
     intro p hp;rw[getD_set_ne _ _ _ _ (by omega),HDO.out.out p (.inr (by omega))];exact HZ.out p (by omega)
   case measure=>simp[intOf];omega
  ·
   have e1:k=l.length:=by omega
   go_wp2_with fail;refine(Qco w.heap.size (l.length+m.length) (l.length+m.length) (x*y) rs _ HB.out HRL.out HRS.out lZ (by omega) (by rw[HV.out,e1,List.take_length,H1.out.num.eq])).mono ?_;rintro e w1 ⟨⟨r,rfl,hu⟩,rfl⟩;go_wp2;go_ret;exact⟨⟨_,_,r,rfl,hu⟩,HBL.out⟩
end Go.Proofs.YtfpcipgoedifaaaGreatDoor
namespace Go.Proofs.YtfpcipgoedifaaaGreatDoor
set_option linter.unusedVariables false
theorem Qav{yn1 yn0 u n1 q r Y:Nat}(hY:Y=4294967296*yn1+yn0)(hq:q*yn1+r=u):q*yn0≤4294967296*r+n1↔q*Y≤4294967296*u+n1:=by
 have e1:q*Y=4294967296*(q*yn1)+q*yn0:=by rw[hY,Nat.mul_add,Nat.mul_left_comm]
 generalize q*yn1=A at*;generalize q*yn0=T at*;omega
theorem Qdi{yn1 yn0 u n1 Y:Nat}(hY:Y=4294967296*yn1+yn0)(hn:n1<4294967296)(h0:0<yn1):(4294967296*u+n1) / Y≤u / yn1:=by
 have h1:(4294967296*u+n1) / Y≤(4294967296*u+n1) / (4294967296*yn1):=Nat.div_le_div_left (by omega) (by omega);rw[←Nat.div_div_eq_div_mul] at h1;have h2:(4294967296*u+n1) / 4294967296=u:=by omega
 rw[h2] at h1;exact h1
theorem Qag{u n1 Y:Nat}(hu:u<Y)(hn:n1<4294967296):(4294967296*u+n1) / Y<4294967296:=by
 rw[Nat.div_lt_iff_lt_mul (by omega)];omega
theorem Qaw{u n1 q Y:Nat}(hY:0<Y)(h1:q*Y≤4294967296*u+n1)(h2:(4294967296*u+n1) / Y≤q):(4294967296*u+n1) / Y=q:=
 Nat.le_antisymm h2 ((Nat.le_div_iff_mul_le hY).2 h1)
theorem Qdj{u n1 q Y:Nat}(hY:0<Y)(h1:¬q*Y≤4294967296*u+n1):(4294967296*u+n1) / Y<q:=by
 rw[Nat.div_lt_iff_lt_mul hY];omega
theorem Qbf{yn1 yn0 u q r Y:Nat}(hY:Y=4294967296*yn1+yn0)(h0:yn0<4294967296)(hu:u<Y)(hq:q*yn1+r=u)(hr:4294967296≤r)(h1:0<yn1):q<4294967296∧q*yn0≤4294967295*4294967295:=by
 have h2:q*yn1<4294967296*yn1:=by omega
 have h3:q<4294967296:=Nat.lt_of_mul_lt_mul_right h2;exact⟨h3,Nat.mul_le_mul (by omega) (by omega)⟩
theorem Qbl{s:Nat}(hs:s≤64):2 ^ s*2 ^ (64 - s)=18446744073709551616:=by
 rw[←Nat.pow_add,show s+(64 - s)=64 by omega]
theorem low64{lo s:Nat}(hs:s≤64):lo*2 ^ s=18446744073709551616*(lo / 2 ^ (64 - s))+lo*2 ^ s % 18446744073709551616:=by
 have h1:=Nat.div_add_mod (lo*2 ^ s) 18446744073709551616;have h2:lo*2 ^ s / 18446744073709551616=lo / 2 ^ (64 - s):=by
  rw[←Qbl hs,Nat.mul_comm lo,Nat.mul_div_mul_left _ _ (Nat.two_pow_pos s)]
 rw[h2] at h1;exact h1.symm
theorem Qfb{lo s:Nat}(hs:s≤64)(hl:lo<18446744073709551616):lo / 2 ^ (64 - s)<2 ^ s:=by
 rw[Nat.div_lt_iff_lt_mul (Nat.two_pow_pos _),Qbl hs];exact hl
end Go.Proofs.YtfpcipgoedifaaaGreatDoor
