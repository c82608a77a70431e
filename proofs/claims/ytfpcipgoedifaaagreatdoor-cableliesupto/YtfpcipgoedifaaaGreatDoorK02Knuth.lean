/- Plain mathematics: long division digit by digit (Knuth's algorithm D): how good the guess is; what a step leaves. -/
import Derived.Test.YtfpcipgoedifaaaGreatDoorK01BigPlain
namespace Go.Proofs.YtfpcipgoedifaaaGreatDoor
open Go.RowKit
set_option linter.unusedVariables false
set_option maxHeartbeats 1000000 in
theorem Qgm(a:Option Addr)(cap s:Nat)(l:List Nat)(x:Nat)(w:World)(h:U32 w a cap l x)(hs:s<32)(hl0:0<l.length)(hl:l.length<1099511627776):
 Calls Tryz.prog 153 #[.slice a l.length cap,.int .u64 s] w fun e w'=>(∃a cap r,e=.returned (.slice a r.length cap)/\U32 w' a cap r (x*2 ^ s))/\Below w.heap.size w w':=by
 have q1:((l.length:Int) == 0)=false:=by rw[beq_eq_false_iff_ne];omega
 have q2:(s:Int) / 32=0:=by omega
 have q3:(s:Int) % 32=s:=by omega
 have hmk:∀w,(Instr.makeSlice 51 (.int .i64 ((l.length:Int)+1)) (.int .i64 ((l.length:Int)+1))).run Tryz.prog w=.ok (.slice (some ⟨w.heap.size,0,none⟩) (l.length+1) (l.length+1)) (w.alloc (.cells (wordCells .u32 (zeros (l.length+1))) 155)):=
  fun w=>Qa4 _ (l.length+1) (by omega) (by omega) w
 go_enter Tryz.func153,Tryz.ntmps153;go_wp2;clear hmk q2 q3;go_loopw [8] (fun i wr=>∃(k:Nat) (rs:List Nat),k<=l.length/\i=.int .i64 k/\Blk .u32 155 wr w.heap.size rs/\rs.length=l.length+1/\Small 4294967296 rs/\rs.getD k 0<2 ^ s/\(∀j,k<j->rs.getD j 0=0)/\
  val 4294967296 (rs.take (k+1))=val 4294967296 (l.take k)*2 ^ s/\Below w.heap.size w wr) (fun i _=>l.length - (intOf i).toNat)
 case atStart=>exact⟨0,zeros (l.length+1),by omega,rfl,Blk.new _ _ _ _,Qai _,Qap _ _ (by omega),by rw[Qbq];exact Nat.pow_pos (by omega),fun j _=>Qbq _ j,by rw[Qad,Qbq];simp[val],bR.alloc lZ _⟩
 case round=>
  obtain⟨k,rs,hk,rfl,hB,hrl,hrs,hz1,hz2,hv,hb⟩:=hrel;have HV:Hid (val 4294967296 (rs.take (k+1))=val 4294967296 (l.take k)*2 ^ s):=hv;have HRL:Hid (rs.length=l.length+1):=hrl;have HB:Hid (Blk .u32 155 wr w.heap.size rs):=hB;have HRS:Hid (Small 4294967296 rs):=hrs;clear hv hrs;by_cases hlt:k<l.length
  ·
   obtain⟨b,off,rfl,hb1,hc1⟩:=h.row.cell k hlt;obtain⟨d,hd⟩:=nm (l.getD k 0);have hdb:d<4294967296:=by rw[<-hd];exact h.num.small.getD (by omega) k
   rw[hd] at hc1;have hc1':=ce hb hb1 hc1;have g1:=hB.free k;have g2:=hB.cell k (by omega);have g3:=hB.free (k+1);have g4:=hB.cell (k+1) (by omega);rw[hz2 (k+1) (by omega)] at g4;obtain⟨z,hz⟩:=nm (rs.getD k 0);rw[hz] at g2 hz1;have LW:=Qmf d s z hs hdb hz1;have LS:=Qmg k d s z rs l (by omega) hd hz HV.out;have HZ:Hid (∀j,k<j->rs.getD j 0=0):=hz2;have HL:Hid (bits .or .u32 (z:Int) (IntKind.u64.wrap ((d:Int)*2 ^ (s % 32)) % 4294967296)=((d*2 ^ s % 4294967296+z:Nat):Int)/\
    bits .or .u32 0 (IntKind.u64.wrap ((d:Int)*2 ^ (s % 32)) / 4294967296 % 4294967296)=((d*2 ^ s / 4294967296:Nat):Int)/\
    d*2 ^ s % 4294967296+z<4294967296/\d*2 ^ s / 4294967296<2 ^ s):=LW
   have HS:Hid (val 4294967296 (((rs.set k (d*2 ^ s % 4294967296+z)).set (k+1) (d*2 ^ s / 4294967296)).take (k+1+1))=val 4294967296 (l.take (k+1))*2 ^ s):=LS;clear hd hc1 hz hB hrl hz1 hz2 LW LS;go_wp2;go_roundw
   case rel=>
    obtain⟨l1,l2,l3,l4⟩:=HL.out;rw[l1,l2];have hp:=Qep hs;refine⟨k+1,(rs.set k (d*2 ^ s % 4294967296+z)).set (k+1) (d*2 ^ s / 4294967296),by omega,by go_num,(HB.out.set k _).set (k+1) _,by rw[List.length_set,List.length_set];exact HRL.out,(HRS.out.set k l3).set (k+1) (by omega),?_,fun j hj=>?_,HS.out,(hb.setCell lZ _).setCell lZ _⟩
    · rw[Qbe _ _ _ (by rw[List.length_set,HRL.out];omega)];exact l4
    · rw[getD_set_ne _ _ _ _ (by omega),getD_set_ne _ _ _ _ (by omega)];exact HZ.out j (by omega)
   case measure=>simp[intOf];omega
  ·
   have hvv:val 4294967296 rs=x*2 ^ s:=by
    have e1:k=l.length:=by omega
    have e2:=HV.out;rw[e1,List.take_length,List.take_of_length_le (by omega),h.num.eq] at e2;exact e2
   have HQ:Hid (val 4294967296 rs=x*2 ^ s):=hvv;clear hrl hB hvv hz1 hz2;go_wp2_with fail;refine(Qax w.heap.size (l.length+1) (l.length+1) (x*2 ^ s) rs _ HB.out HRL.out HRS.out lZ (by omega) HQ.out).mono ?_;rintro e w1 ⟨⟨a,cap,r,rfl,hu⟩,rfl⟩;go_wp2;go_ret;exact⟨⟨a,cap,r,rfl,hu⟩,hb⟩
set_option maxHeartbeats 1000000 in
theorem Ql6(a:Option Addr)(cap s:Nat)(l:List Nat)(x:Nat)(w:World)(h:U32 w a cap l x)(hs:s<32):
 Calls Tryz.prog 154 #[.slice a l.length cap,.int .u64 s] w fun e w'=>(∃a cap r,e=.returned (.slice a r.length cap)/\U32 w' a cap r (x / 2 ^ s))/\Below w.heap.size w w':=by
 have s1:=h.short;have q2:(s:Int) / 32=0:=by omega
 have q3:(s:Int) % 32=s:=by omega
 by_cases hl0:l.length=0
 ·
  have hx:x=0:=(h.num.len_zero (by omega)).2 hl0;subst hx;rw[hl0];clear hl0;go_enter Tryz.func154,Tryz.ntmps154;go_wp2;go_ret;exact⟨⟨none,0,[],rfl,by rw[Nat.zero_div];exact⟨Row.nil _ _,Num.zero _,by simp⟩⟩,Below.refl _ _⟩
 have hmk:∀w,(Instr.makeSlice 51 (.int .i64 (l.length:Int)) (.int .i64 (l.length:Int))).run Tryz.prog w=.ok (.slice (some ⟨w.heap.size,0,none⟩) l.length l.length) (w.alloc (.cells (wordCells .u32 (zeros l.length)) 155)):=
  fun w=>Qa4 _ l.length rfl (by omega) w
 go_enter Tryz.func154,Tryz.ntmps154;go_wp2;clear hmk q2 q3;go_loopw [8] (fun i wr=>∃(k:Nat) (rs:List Nat),k<=l.length/\i=.int .i64 k/\Blk .u32 155 wr w.heap.size rs/\rs.length=l.length/\Small 4294967296 rs/\
  val 4294967296 (rs.take k)*2 ^ s+l.getD 0 0 % 2 ^ s=val 4294967296 (l.take k)+4294967296 ^ k*(l.getD k 0 % 2 ^ s)/\Below w.heap.size w wr) (fun i _=>l.length - (intOf i).toNat)
 case atStart=>exact⟨0,zeros l.length,by omega,rfl,Blk.new _ _ _ _,Qai _,Qap _ _ (by omega),by simp[val],bR.alloc lZ _⟩
 case round=>
  obtain⟨k,rs,hk,rfl,hB,hrl,hrs,hv,hb⟩:=hrel;have HV:Hid (val 4294967296 (rs.take k)*2 ^ s+l.getD 0 0 % 2 ^ s=val 4294967296 (l.take k)+4294967296 ^ k*(l.getD k 0 % 2 ^ s)):=hv;have HRL:Hid (rs.length=l.length):=hrl;have HB:Hid (Blk .u32 155 wr w.heap.size rs):=hB;have HRS:Hid (Small 4294967296 rs):=hrs;clear hv hrs;by_cases hlt:k<l.length
  ·
   obtain⟨b,off,rfl,hb1,hc1⟩:=h.row.cell k hlt;obtain⟨d,hd⟩:=nm (l.getD k 0);have hdb:d<4294967296:=by rw[<-hd];exact h.num.small.getD (by omega) k
   rw[hd] at hc1;have hc1':=ce hb hb1 hc1;have g1:=hB.free k;have g2:=hB.cell k (by omega);obtain⟨z,hz⟩:=nm (rs.getD k 0);rw[hz] at g2;have H1:Hid (l.getD k 0=d):=hd;clear hd hc1 hz hB hrl;by_cases hlt2:k+1<l.length
   ·
    obtain⟨b',off',e1,hb2,hc2⟩:=h.row.cell (k+1) hlt2;obtain⟨rfl,rfl⟩:b=b'/\off=off':=by simpa using e1
    obtain⟨e,he⟩:=nm (l.getD (k+1) 0);have heb:e<4294967296:=by rw[<-he];exact h.num.small.getD (by omega) _
    rw[he] at hc2;have hc2':=ce hb hb2 hc2;have H2:Hid (l.getD (k+1) 0=e):=he;obtain⟨v,hv⟩:=nm (4294967296*e+d);have hor:bits .or .u64 (d:Int) ((e:Int)*4294967296)=(v:Int):=by
     rw[or64' ((e:Int)*4294967296) (d:Int) e d 32 (by omega) rfl hdb (by omega)];omega
    have hvb:v<18446744073709551616:=by omega
    have H3:Hid (4294967296*e+d=v):=hv;clear he hc2 e1 hv;have HS:=Qgp k d e s (l.getD 0 0 % 2 ^ s) rs l hs hdb (by have:=HRL.out;omega) H1.out H2.out HV.out;rw[H3.out] at HS;have H4:Hid (val 4294967296 ((rs.set k (v / 2 ^ s % 4294967296)).take (k+1))*2 ^ s+l.getD 0 0 % 2 ^ s=val 4294967296 (l.take (k+1))+4294967296 ^ (k+1)*(l.getD (k+1) 0 % 2 ^ s)):=HS;clear HS;go_wp2;go_roundw
    case rel=>
     rw[Qgq v s hs];exact⟨k+1,rs.set k (v / 2 ^ s % 4294967296),by omega,by go_num,HB.out.set k _,by rw[List.length_set];exact HRL.out,HRS.out.set k (Nat.mod_lt _ (by omega)),H4.out,hb.setCell lZ _⟩
    case measure=>simp[intOf];omega
   ·
    have HS:=Qgp k d 0 s (l.getD 0 0 % 2 ^ s) rs l hs hdb (by have:=HRL.out;omega) H1.out (Qbk l (k+1) (by omega)) HV.out;rw[Nat.mul_zero,Nat.zero_add] at HS;have H4:Hid (val 4294967296 ((rs.set k (d / 2 ^ s % 4294967296)).take (k+1))*2 ^ s+l.getD 0 0 % 2 ^ s=val 4294967296 (l.take (k+1))+4294967296 ^ (k+1)*(l.getD (k+1) 0 % 2 ^ s)):=HS;clear HS;go_wp2;go_roundw
    case rel=>
     rw[Qgq d s hs];exact⟨k+1,rs.set k (d / 2 ^ s % 4294967296),by omega,by go_num,HB.out.set k _,by rw[List.length_set];exact HRL.out,HRS.out.set k (Nat.mod_lt _ (by omega)),H4.out,hb.setCell lZ _⟩
    case measure=>simp[intOf];omega
  ·
   have hvv:val 4294967296 rs=x / 2 ^ s:=by
    have e1:k=l.length:=by omega
    have e2:=HV.out;have hp:0<2 ^ s:=Nat.pow_pos (by omega);rw[e1,List.take_length,List.take_of_length_le (by omega),Qbk l _ lZ,h.num.eq,Nat.zero_mod,Nat.mul_zero,Nat.add_zero] at e2;rw[<-e2,Nat.mul_comm,Nat.mul_add_div hp,Nat.div_eq_of_lt (Nat.mod_lt _ hp),Nat.add_zero]
   have HQ:Hid (val 4294967296 rs=x / 2 ^ s):=hvv;clear hrl hB hvv;go_wp2_with fail;refine(Qax w.heap.size l.length l.length (x / 2 ^ s) rs _ HB.out HRL.out HRS.out lZ (by omega) HQ.out).mono ?_;rintro e w1 ⟨⟨a,cap,r,rfl,hu⟩,rfl⟩;go_wp2;go_ret;exact⟨⟨a,cap,r,rfl,hu⟩,hb⟩
end Go.Proofs.YtfpcipgoedifaaaGreatDoor
namespace Go.Proofs.YtfpcipgoedifaaaGreatDoor
set_option linter.unusedVariables false
theorem Qin(B P h u0 lw v1 v0 lv W V:Nat)(hP:0<P)(hB:0<B)(hW:W=h*(B*P)+u0*P+lw)(hV:V=v1*(B*P)+v0*P+lv)(hlw:lw<P)(hu0:u0<B)(hv1:0<v1):W / V≤h / v1:=by
 rw[Nat.le_div_iff_mul_le hv1];apply Classical.byContradiction;intro hc;have h1:W / V*V≤W:=Nat.div_mul_le_self W V;have h2:(h+1)*(B*P)≤W / V*v1*(B*P):=Nat.mul_le_mul_right _ (by omega);have h3:W / V*v1*(B*P)≤W / V*V:=by
  rw[Nat.mul_assoc];apply Nat.mul_le_mul_left;omega
 have h4:(u0+1)*P≤B*P:=Nat.mul_le_mul_right _ hu0;rw[Nat.add_mul,Nat.one_mul] at h2 h4;omega
theorem Qfe(B P h u0 lw v1 v0 lv W V g r:Nat)(hP:0<P)(hW:W=h*(B*P)+u0*P+lw)(hV:V=v1*(B*P)+v0*P+lv)(hlw:lw<P)(hV0:0<V)
 (hg:g*v1+r=h) (hc:r*B+u0<g*v0):W / V<g:=by
 rw[Nat.div_lt_iff_lt_mul hV0,hV,Nat.mul_add,Nat.mul_add,hW,←hg,Nat.add_mul,Nat.mul_assoc];have h1:(r*B+u0+1)*P≤g*v0*P:=Nat.mul_le_mul_right _ hc;rw[Nat.add_mul,Nat.add_mul,Nat.one_mul,Nat.mul_assoc] at h1;rw[←Nat.mul_assoc g v0 P];omega
theorem Qpi(B P h u0 lw v1 v0 lv W V g r:Nat)(hP:0<P)(hW:W=h*(B*P)+u0*P+lw)(hV:V=v1*(B*P)+v0*P+lv)(hlv:lv<P)(hv1:0<v1)
 (hg:g*v1+r=h) (hgB:g<B) (hc:g*v0≤r*B+u0):g≤W / V+1:=by
 apply Classical.byContradiction;intro hn;have hV0:0<V:=by
  have:0<v1*(B*P):=Nat.mul_pos hv1 (Nat.mul_pos (by omega) hP);omega
 obtain⟨g1,rfl⟩:∃g1,g=g1+1:=⟨g - 1,by have:=Nat.zero_le (W / V);omega⟩;have h1:W<g1*V:=(Nat.div_lt_iff_lt_mul hV0).1 (by omega);have h2:(g1+1)*(v1*B+v0)*P≤W:=by
  have e1:(g1+1)*(v1*B+v0)≤h*B+u0:=by
   rw[←hg,Nat.mul_add,Nat.add_mul _ _ B,←Nat.mul_assoc];omega
  have e2:=Nat.mul_le_mul_right P e1;rw[Nat.add_mul _ _ P,Nat.mul_assoc h B P] at e2;omega
 have h3:V≤(v1*B+v0+1)*P:=by
  rw[Nat.add_mul,Nat.add_mul,Nat.one_mul,Nat.mul_assoc];omega
 have h4:g1*V≤g1*(v1*B+v0+1)*P:=by
  rw[Nat.mul_assoc];exact Nat.mul_le_mul_left _ h3
 have h5:(g1+1)*(v1*B+v0)<g1*(v1*B+v0+1):=by
  apply Nat.lt_of_mul_lt_mul_right (a:=P);omega
 rw[Nat.add_mul,Nat.one_mul,Nat.mul_add g1 (v1*B+v0) 1,Nat.mul_one] at h5;have h6:1*B≤v1*B:=Nat.mul_le_mul_right _ hv1;omega
theorem Qpj(B u2 u1 v1 g r:Nat)(h2:u2≤v1)(h1:u1<B)(hg:g*v1+r=u2*B+u1)(hr:B≤r):g<B:=by
 apply Nat.lt_of_mul_lt_mul_right (a:=v1);have:u2*B≤v1*B:=Nat.mul_le_mul_right _ h2;rw[Nat.mul_comm B v1];omega
theorem Qio(B g v0 r u0:Nat)(hg:g<B)(hv:v0<B)(hr:B≤r):g*v0≤r*B+u0:=by
 have h1:g*v0≤B*B:=Nat.mul_le_mul (by omega) (by omega);have h2:B*B≤r*B:=Nat.mul_le_mul_right _ hr;omega
theorem Qip(B:Nat)(us:List Nat)(j n:Nat)(h:j+n+3≤us.length)(hz:val B (us.drop (j+n+3))=0):
 val B (us.drop j)=(us.getD (j+n+2) 0*B+us.getD (j+n+1) 0)*(B*B ^ n)+us.getD (j+n) 0*B ^ n+val B ((us.drop j).take n):=by
 rw[Qaj B (us.drop j) n (by rw[List.length_drop];omega),List.drop_drop,Qao B us (j+n) (by omega),Qao B us (j+n+1) (by omega),Qao B us (j+n+2) (by omega),hz];simp only[Nat.mul_zero,Nat.add_zero];have e1:B ^ n*(us.getD (j+n) 0+B*(us.getD (j+n+1) 0+B*us.getD (j+n+2) 0))=(us.getD (j+n+2) 0*B+us.getD (j+n+1) 0)*(B*B ^ n)+us.getD (j+n) 0*B ^ n:=by
  generalize us.getD (j+n) 0=x;generalize us.getD (j+n+1) 0=y;generalize us.getD (j+n+2) 0=z;generalize B ^ n=P;rw[Nat.mul_add,Nat.mul_comm P x,Nat.mul_left_comm P B,Nat.mul_left_comm (z*B+y) B P,Nat.mul_comm P,Nat.add_comm,Nat.add_comm y,Nat.mul_comm B z]
 omega
theorem Qiq(B:Nat)(v:List Nat)(n:Nat)(h:v.length=n+2):
 val B v=v.getD (n+1) 0*(B*B ^ n)+v.getD n 0*B ^ n+val B (v.take n):=by
 rw[Qaj B v n (by omega),Qao B v n (by omega),Qao B v (n+1) (by omega),List.drop_of_length_le (by omega)];simp only[val,Nat.mul_zero,Nat.add_zero];have e1:B ^ n*(v.getD n 0+B*v.getD (n+1) 0)=v.getD (n+1) 0*(B*B ^ n)+v.getD n 0*B ^ n:=by
  generalize v.getD n 0=x;generalize v.getD (n+1) 0=y;generalize B ^ n=P;rw[Nat.mul_add,Nat.mul_comm P x,Nat.mul_left_comm P B y,Nat.mul_left_comm y B P,Nat.mul_comm P y,Nat.add_comm]
 omega
theorem Qff(B:Nat)(hB:0<B)(us:List Nat)(p:Nat)(h:val B us<B ^ p)(hp:p≤us.length):val B (us.drop p)=0:=by
 rw[Qaj B us p hp] at h;apply Classical.byContradiction;intro hc;have:=Nat.mul_le_mul_left (B ^ p) (show 1≤val B (us.drop p) by omega);omega
theorem Qpk(B j i q a c d g vi nd d' R:Nat)(us v:List Nat)(hq:q≤us.length)(hp:j+i<q)(ha:us.getD (j+i) 0=a)(hv:v.getD i 0=vi)(hn:nd+(c+g*vi) % B+d=a+B*d')
 (h:val B (us.take q)+B ^ j*(g*val B (v.take i))=R+B ^ (j+i)*(c+d)):
 val B ((us.set (j+i) nd).take q)+B ^ j*(g*val B (v.take (i+1)))=R+B ^ (j+(i+1))*((c+g*vi) / B+d'):=by
 rw[Qhz];have e1:=Qbd B (us.take q) (j+i) nd (by rw[List.length_take];omega);rw[Qe7 _ _ _ hp,ha] at e1;have e:=Nat.mod_add_div (c+g*vi) B;rw[Qad,hv,Nat.mul_add g,Nat.mul_add (B ^ j),show j+(i+1)=j+i+1 from by omega,Nat.pow_succ];have e3:B ^ j*(g*(B ^ i*vi))=B ^ (j+i)*(g*vi):=by
  rw[Nat.pow_add,Nat.mul_left_comm g,Nat.mul_assoc]
 have e4:B ^ (j+i)*(nd+(c+g*vi) % B+d)=B ^ (j+i)*(a+B*d'):=by rw[hn]
 have e5:B ^ (j+i)*((c+g*vi) % B+B*((c+g*vi) / B))=B ^ (j+i)*(c+g*vi):=by rw[e]
 rw[e3,Nat.mul_add (B ^ (j+i)*B),Nat.mul_assoc,Nat.mul_assoc];simp only[Nat.mul_add] at e4 e5 h ⊢;omega
theorem Qpl(B j n a c d g L L0 V U:Nat)(hL:L<B ^ (j+n))(hU:U=L0+B ^ (j+n)*a)(hV:0<V)(hVB:V≤B ^ n)
 (h:L+B ^ j*(g*V)=L0+B ^ (j+n)*(c+d)) (hg1:U / (B ^ j*V)≤g) (hg2:g≤U / (B ^ j*V)+1) (hB:0<B):
 (g=U / (B ^ j*V)∧a=c+d∧L=U % (B ^ j*V))∨(g=U / (B ^ j*V)+1∧a+1=c+d∧L+B ^ j*V=U % (B ^ j*V)+B ^ (j+n)):=by
 have hD:0<B ^ j*V:=Nat.mul_pos (Nat.pow_pos hB) hV;have e1:=Nat.div_add_mod U (B ^ j*V);have e2:=Nat.mod_lt U hD;have hDV:B ^ j*V≤B ^ (j+n):=by rw[Nat.pow_add];exact Nat.mul_le_mul_left _ hVB
 have e3:B ^ j*(g*V)=B ^ j*V*g:=by rw[Nat.mul_comm g V,Nat.mul_assoc]
 rw[e3] at h;generalize U / (B ^ j*V)=q at*;generalize U % (B ^ j*V)=r at*;generalize B ^ j*V=D at*;generalize B ^ (j+n)=T at*;have hT:0<T:=by omega
 rcases(show g=q∨g=q+1 by omega) with rfl|rfl
 ·
  left;have h1:L+T*a=r+T*(c+d):=by omega
  have h2:a=c+d:=by
   rcases Nat.lt_trichotomy a (c+d) with hlt|heq|hgt
   ·
    have:=Nat.mul_le_mul_left T (show a+1≤c+d by omega);rw[Nat.mul_add] at this;omega
   · exact heq
   ·
    have:=Nat.mul_le_mul_left T (show c+d+1≤a by omega);rw[Nat.mul_add] at this;omega
  refine⟨rfl,h2,?_⟩;rw[h2] at h1;omega
 ·
  right;rw[Nat.mul_add,Nat.mul_one] at h;have h1:L+D+T*a=r+T*(c+d):=by omega
  have h2:a+1=c+d:=by
   rcases Nat.lt_trichotomy (a+1) (c+d) with hlt|heq|hgt
   ·
    have:=Nat.mul_le_mul_left T (show a+2≤c+d by omega);rw[Nat.mul_add] at this;omega
   · exact heq
   · have:=Nat.mul_le_mul_left T (show c+d≤a by omega)
     omega
  refine⟨rfl,h2,?_⟩;rw[←h2,Nat.mul_add] at h1;omega
theorem Qpm(a lo d:Nat)(ha:a<4294967296)(hlo:lo<4294967296)(hd:d≤1):∃nd d':Nat,nd<4294967296∧d'≤1∧nd+lo+d=a+4294967296*d'∧
 ((((a:Int) - lo) % 18446744073709551616 - d) % 18446744073709551616) % 4294967296=(nd:Int)∧((((a:Int) - lo) % 18446744073709551616 - d) % 18446744073709551616) / 9223372036854775808=(d':Int):=by
 by_cases h:a<lo+d
 · exact⟨a+4294967296 - lo - d,1,by omega,by omega,by omega,by omega,by omega⟩
 · exact⟨a - lo - d,0,by omega,by omega,by omega,by omega,by omega⟩
theorem Qir(B:Nat)(us:List Nat)(p a:Nat)(hp:p<us.length)(ha:us.getD p 0=a)(hz:val B (us.drop (p+1))=0):val B us=val B (us.take p)+B ^ p*a:=by
 rw[Qaj B us p (by omega),Qao B us p hp,hz,ha];simp
theorem Qpn{B:Nat}(hB:0<B){us:List Nat}(hs:Small B us)(j:Nat)(hj:j≤us.length):val B us / B ^ j=val B (us.drop j):=by
 have h1:=Qab hB (hs.take j);rw[List.length_take,Nat.min_eq_left hj] at h1;rw[Qaj B us j hj,Nat.add_mul_div_left _ _ (Nat.pow_pos hB),Nat.div_eq_of_lt h1,Nat.zero_add]
structure DivInv (X V n M k:Nat) (us qs:List Nat):Prop where
 ulen:us.length=M+n+3
 qlen:qs.length=M+1
 usmall:Small 4294967296 us
 qsmall:Small 4294967296 qs
 eq:val 4294967296 us+4294967296 ^ k*V*val 4294967296 (qs.drop k)=X
 lt:val 4294967296 us<4294967296 ^ k*V
theorem DivInv.zero{X V n M j:Nat}{us qs:List Nat}(h:DivInv X V n M (j+1) us qs)(hj:j≤M)(hV:V<4294967296 ^ (n+2)):val 4294967296 (us.drop (j+n+3))=0:=by
 apply Qff _ (by omega)
 ·
  have h1:=h.lt;have h2:4294967296 ^ (j+1)*V≤4294967296 ^ (j+1)*4294967296 ^ (n+2):=Nat.mul_le_mul_left _ (by omega);rw[←Nat.pow_add,show j+1+(n+2)=j+n+3 from by omega] at h2;omega
 · rw[h.ulen];omega
theorem DivInv.q_lt{X V n M j:Nat}{us qs:List Nat}(h:DivInv X V n M (j+1) us qs)(hV:0<V):val 4294967296 us / (4294967296 ^ j*V)<4294967296:=by
 rw[Nat.div_lt_iff_lt_mul (Nat.mul_pos (Nat.pow_pos (by omega)) hV)];have h1:=h.lt;rw[Nat.pow_succ,Nat.mul_comm (4294967296 ^ j) 4294967296,Nat.mul_assoc] at h1;exact h1
theorem DivInv.guess{X V n M j:Nat}{us qs v:List Nat}(h:DivInv X V n M (j+1) us qs)(hj:j≤M)(hv:Num 4294967296 v V)(hvl:v.length=n+2)
 {u2 u1 u0 v1 v0 hh Q:Nat} (e2:us.getD (j+(n+2)) 0=u2) (e1:us.getD (j+(n+1)) 0=u1) (e0:us.getD (j+n) 0=u0) (f1:v.getD (n+1) 0=v1) (f0:v.getD n 0=v0) (hv1:1≤v1)
 (hh':u2*4294967296+u1=hh) (hQ:val 4294967296 us / (4294967296 ^ j*V)=Q):
 Q≤hh / v1∧(∀g r,g*v1+r=hh→r*4294967296+u0<g*v0→Q<g)∧(∀g r,g*v1+r=hh→g<4294967296→g*v0≤r*4294967296+u0→g≤Q+1)∧(∀g r,g*v1+r=hh→4294967296≤r→g<4294967296):=by
 have hVb:=Qab (B:=4294967296) (by omega) hv.small;rw[hv.eq,hvl] at hVb;have hz:=h.zero hj hVb;have hV0:0<V:=by
  have:=hv.trim.pow_le (B:=4294967296) (by omega);rw[hv.eq] at this;have h2:0<4294967296 ^ (v.length - 1):=Nat.pow_pos (by omega);omega
 have hW:=Qip 4294967296 us j n (by rw[h.ulen];omega) hz;have hVv:=Qiq 4294967296 v n hvl;rw[show j+n+2=j+(n+2) from by omega,show j+n+1=j+(n+1) from by omega,e2,e1,e0,hh'] at hW;rw[f1,f0,hv.eq] at hVv;have hP:0<4294967296 ^ n:=Nat.pow_pos (by omega);have hlw:val 4294967296 ((us.drop j).take n)<4294967296 ^ n:=by
  have:=Qab (B:=4294967296) (by omega) ((h.usmall.drop j).take n);rw[List.length_take,List.length_drop,h.ulen,Nat.min_eq_left (by omega)] at this;exact this
 have hlv:val 4294967296 (v.take n)<4294967296 ^ n:=by
  have:=Qab (B:=4294967296) (by omega) (hv.small.take n);rw[List.length_take,hvl,Nat.min_eq_left (by omega)] at this;exact this
 have hu0:u0<4294967296:=by rw[←e0];exact h.usmall.getD (by omega) _
 have hu1:u1<4294967296:=by rw[←e1];exact h.usmall.getD (by omega) _
 have hv0b:v0<4294967296:=by rw[←f0];exact hv.small.getD (by omega) _
 have hq:Q=val 4294967296 (us.drop j) / V:=by
  rw[←hQ,←Nat.div_div_eq_div_mul,Qpn (by omega) h.usmall j (by rw[h.ulen];omega)]
 have hWV:val 4294967296 (us.drop j)<4294967296*V:=by
  have h1:=h.lt;have h2:=Qaj 4294967296 us j (by rw[h.ulen];omega);rw[Nat.pow_succ,Nat.mul_assoc] at h1;apply Nat.lt_of_mul_lt_mul_left (a:=4294967296 ^ j);omega
 have hu2:u2≤v1:=by
  apply Classical.byContradiction;intro hc;have h3:(v1+1)*(4294967296*(4294967296*4294967296 ^ n))≤u2*(4294967296*(4294967296*4294967296 ^ n)):=Nat.mul_le_mul_right _ (by omega);have h4:u2*(4294967296*(4294967296*4294967296 ^ n))≤val 4294967296 (us.drop j):=by
   rw[hW,←hh',Nat.add_mul,Nat.mul_assoc];omega
  have h5:v0*4294967296 ^ n+4294967296 ^ n≤4294967296*4294967296 ^ n:=by
   have:=Nat.mul_le_mul_right (4294967296 ^ n) (show v0+1≤4294967296 by omega);rw[Nat.add_mul,Nat.one_mul] at this;exact this
  have h6:4294967296*V<4294967296*((v1+1)*(4294967296*4294967296 ^ n)):=by
   apply Nat.mul_lt_mul_of_pos_left _ (by omega);rw[Nat.add_mul,Nat.one_mul];omega
  rw[Nat.mul_left_comm] at h3;omega
 refine⟨?_,?_,?_,?_⟩
 · rw[hq];exact Qin _ _ hh u0 _ v1 v0 _ _ V hP (by omega) hW hVv hlw hu0 (by omega)
 · intro g r hg hc;rw[hq];exact Qfe _ _ hh u0 _ v1 v0 _ _ V g r hP hW hVv hlw hV0 hg hc
 · intro g r hg hgB hc;rw[hq];exact Qpi _ _ hh u0 _ v1 v0 _ _ V g r hP hW hVv hlv (by omega) hg hgB hc
 · intro g r hg hr;exact Qpj _ u2 u1 v1 g r hu2 hu1 (by rw[hh'];exact hg) hr
theorem DivInv.next{X V n M j Q:Nat}{us qs us':List Nat}(h:DivInv X V n M (j+1) us qs)(hj:j≤M)(hV:0<V)(hQ:val 4294967296 us / (4294967296 ^ j*V)=Q)
 (hl:us'.length=M+n+3) (hs:Small 4294967296 us') (hu:val 4294967296 us'=val 4294967296 us % (4294967296 ^ j*V)):DivInv X V n M j us' (qs.set j Q):=by
 have hD:0<4294967296 ^ j*V:=Nat.mul_pos (Nat.pow_pos (by omega)) hV;have hq:=h.q_lt hV;rw[hQ] at hq;refine⟨hl,by rw[List.length_set];exact h.qlen,hs,h.qsmall.set j hq,?_,by rw[hu];exact Nat.mod_lt _ hD⟩;have e1:=h.eq;have e2:=Nat.div_add_mod (val 4294967296 us) (4294967296 ^ j*V);rw[hQ] at e2;rw[Qce _ j (by rw[List.length_set,h.qlen];omega),Qbj,Qbe _ _ _ (by rw[h.qlen];omega),List.drop_set_of_lt (by omega),hu,Nat.mul_add];rw[Nat.pow_succ,Nat.mul_assoc (4294967296 ^ j) 4294967296 V,Nat.mul_left_comm,Nat.mul_assoc 4294967296 _ _,Nat.mul_left_comm 4294967296] at e1;omega
theorem Qfg{X V x y p Q R:Nat}(hp:0<p)(hX:x*p=X)(hV:y*p=V)(h:R+V*Q=X)(hR:R<V):Q=x / y∧R / p=x % y:=by
 have hy:0<y:=by
  rcases Nat.eq_zero_or_pos y with h0|h0
  · rw[h0,Nat.zero_mul] at hV;omega
  · exact h0
 have hQ:Q=x / y:=by
  rw[←Nat.mul_div_mul_right x y hp,hX,hV,←h,Nat.add_mul_div_left _ _ (by omega),Nat.div_eq_of_lt hR,Nat.zero_add]
 refine⟨hQ,?_⟩;have h1:R=X % V:=by rw[←h,Nat.add_mul_mod_self_left,Nat.mod_eq_of_lt hR]
 rw[h1,←hX,←hV,Nat.mul_mod_mul_right,Nat.mul_div_cancel _ hp]
theorem Qfh(B:Nat):∀(l:List Nat),(∀i,l.getD i 0=0)→val B l=0
 | [],_=>rfl
 |d :: l,h=>by
  have h0:d=0:=h 0;have h1:=Qfh B l (fun i=>h (i+1));rw[Qbj,h0,h1];simp
theorem Qfi(B:Nat)(hB:0<B):∀(l:List Nat),val B l=0→∀i,l.getD i 0=0
 | [],_,i=>by simp
 |d :: l,h,i=>by
  rw[Qbj] at h;have h1:val B l=0:=by
   rcases Nat.eq_zero_or_pos (val B l) with h2|h2
   · exact h2
   · have:=Nat.mul_pos hB h2;omega
  match i with
  |0=>show d=0;omega
  |i+1=>exact Qfi B hB l h1 i
theorem Qdo(l:List Nat)(k i:Nat):(l.drop k).getD i 0=l.getD (k+i) 0:=by
 rw[List.getD_eq_getElem?_getD,List.getD_eq_getElem?_getD,List.getElem?_drop]
theorem Qpo(B:Nat)(hB:0<B)(us:List Nat)(q:Nat)(h:val B (us.drop (q+1))=0)(p:Nat)(hp:q<p):us.getD p 0=0:=by
 have:=Qfi B hB _ h (p - (q+1));rw[Qdo,show q+1+(p - (q+1))=p from by omega] at this;exact this
theorem Qpp(B:Nat)(us:List Nat)(q:Nat)(h:∀p,q<p→us.getD p 0=0):val B (us.drop (q+1))=0:=
 Qfh B _ (fun i=>by rw[Qdo];exact h _ (by omega))
theorem Qis(B:Nat)(us:List Nat)(q:Nat)(hq:q<us.length)(hz:∀p,q<p→us.getD p 0=0):val B (us.set q 0)=val B (us.take q):=by
 rw[Qir B (us.set q 0) q 0 (by rw[List.length_set];exact hq) (Qbe _ _ _ hq) (Qpp _ _ _ (fun p hp=>by rw[getD_set_ne _ _ _ _ (by omega)];exact hz p hp)),List.take_set_of_le (Nat.le_refl _)];simp
theorem Qpq(L T c r D:Nat)(hL:L<T)(hr:r<D)(hD:D≤T)(hc:c≤1)(h:L+T*c=r+T):c=1∧L=r:=by
 have:c=0∨c=1:=by omega
 rcases this with rfl|rfl
 · omega
 · exact⟨rfl,by omega⟩
end Go.Proofs.YtfpcipgoedifaaaGreatDoor
