/- num's shiftedUp, shiftedDown. -/
import Derived.Test.YtodfmpjhcmapmaaGreatDoorN16Div64
import Derived.Lib.SliceRun
namespace Go.Proofs.YtodfmpjhcmapmaaGreatDoor
open Go.RowKit
set_option linter.unusedVariables false
set_option linter.unusedSimpArgs false
def Pre(w:World)(g:Nat)(rs:List Nat):Prop:=∃C,SB w g 81 C∧∀i,i<rs.length→C[i]?=some (.int .u64 ((rs.getD i 0:Nat):Int))
theorem Pre.lt{w:World}{g:Nat}{rs:List Nat}(h:Pre w g rs):g<w.heap.size:=by obtain⟨C,h,_⟩:=h;exact h.lt
theorem Pre.cell{w:World}{g:Nat}{rs:List Nat}(h:Pre w g rs)(i:Nat)(hi:i<rs.length):w.cell? ⟨g,i,none⟩=some (.int .u64 ((rs.getD i 0:Nat):Int)):=by
 obtain⟨C,h,hc⟩:=h;rw[h.cell];exact hc i hi
theorem Pre.free{w:World}{g:Nat}{rs:List Nat}(h:Pre w g rs)(i:Nat):w.frozen? ⟨g,i,none⟩=false:=by
 obtain⟨C,h,hc⟩:=h;exact h.free i
theorem Pre.set{w:World}{g:Nat}{rs:List Nat}(h:Pre w g rs)(i x:Nat)(hi:i<rs.length):Pre (w.setCell ⟨g,i,none⟩ (.int .u64 (x:Int))) g (rs.set i x):=by
 obtain⟨C,h,hc⟩:=h;refine⟨_,h.set i _,fun j hj=>?_⟩;rw[List.length_set] at hj;have hsz:i<C.size:=by
  apply Classical.byContradiction;intro hn;have:=hc i hi;rw[Array.getElem?_eq_none (by omega)] at this;cases this
 rw[Array.getElem?_setIfInBounds];by_cases e:i=j
 · subst e
   rw[if_pos rfl,if_pos hsz,Qa4 _ _ _ hi]
 · rw[if_neg e,hc j hj,Qae _ _ _ _ e]
theorem Pre.drewN{w:World}{g:Nat}{rs:List Nat}(h:Pre w g rs)(n:Nat):Pre (w.drewN n) g rs:=h
theorem Pre.row{w:World}{g:Nat}{rs:List Nat}(h:Pre w g rs)(cap:Nat)(hc:rs.length≤cap):Row .u64 w (some ⟨g,0,none⟩) cap rs:=
 ⟨hc,.inr ⟨g,0,rfl,h.lt⟩,fun i hi=>⟨g,0,rfl,h.lt,by rw[Nat.zero_add];exact h.cell i hi⟩⟩
theorem Pre.below{w w':World}{g B:Nat}{rs:List Nat}(h:Pre w g rs)(hb:Below B w w')(hB:g<B):Pre w' g rs:=by
 obtain⟨C,h,hc⟩:=h;exact⟨C,h.below hb hB,hc⟩
set_option maxHeartbeats 1000000 in
theorem Ql9(g cap d:Nat)(rs:List Nat)(w:World)(hP:Pre w g rs)(hs:Small 18446744073709551616 rs)(hl:rs.length≤1099511627776)(hd0:0<d)(hd:d<18446744073709551616):
 Calls Tryz.prog 147 #[.slice (some ⟨g,0,none⟩) rs.length cap,.int .u64 d] w fun e w'=>∃rs' r,e=.returned (.int .u64 ((r:Nat):Int))∧r<d∧Pre w' g rs'∧rs'.length=rs.length∧Small 18446744073709551616 rs'∧val 18446744073709551616 rs'*d+r=val 18446744073709551616 rs∧Only g w w':=by
 have HP0:=Hi hP;have HS0:=Hi hs;clear hP hs;go_enter Tryz.func147,Tryz.ntmps147;go_wp2;go_loopw [5,6] (fun r i wr=>∃(k r':Nat) (rk:List Nat),k≤rs.length∧r'<d∧r=.int .u64 r'∧i=.int .i64 ((k:Int) - 1)∧Pre wr g rk∧rk.length=rs.length∧Small 18446744073709551616 rk∧(∀p,p<k→rk.getD p 0=rs.getD p 0)∧
  val 18446744073709551616 (rk.drop k)*d+r'=val 18446744073709551616 (rs.drop k)∧Only g w wr) (fun _ i _=>(intOf i+1).toNat)
 case atStart=>exact⟨rs.length,0,rs,Nat.le_refl _,hd0,rfl,rfl,HP0.out,rfl,HS0.out,fun _ _=>rfl,by rw[List.drop_of_length_le (Nat.le_refl _)];simp[val],Only.refl _ _⟩
 case round=>
  obtain⟨k,r,rk,hk,hr,rfl,rfl,hP,hrl,hrs,hun,hv,hon⟩:=hrel;have HP:=Hi hP;have HRL:=Hi hrl;have HRS:=Hi hrs;have HUN:=Hi hun;have HV:=Hi hv;have HON:=Hi hon;clear hrs hun hv hon;by_cases h0:k=0
  ·
   subst h0;clear hP hrl;go_wp2;go_ret;exact⟨rk,r,rfl,hr,HP.out,HRL.out,HRS.out,by have:=HV.out;simpa using this,HON.out⟩
  ·
   obtain⟨j,rfl⟩:∃j,k=j+1:=⟨k - 1,by omega⟩;obtain⟨z,hz⟩:∃z,rk.getD j 0=z:=⟨_,rfl⟩;have hzb:z<18446744073709551616:=by rw[←hz];exact HRS.out.getD (by omega) j
   have g1:=hP.free j;have g2:=hP.cell j (by omega);rw[hz] at g2;obtain⟨q,r',hq,hr',hqr,hcd⟩:=div64 r z d hr hzb hd;have HCD:=Hi hcd;have HQR:=Hi hqr;have HZ:=Hi hz;have ei:((j+1:Nat):Int) - 1=(j:Int):=by omega
   rw[ei];clear ei hcd hqr hz hP hrl;go_wp2_with fail;refine(HCD.out _).mono ?_;rintro e w2 ⟨rfl,n,hw2⟩;have g1':w2.frozen? ⟨g,j,none⟩=false:=by rw[hw2];exact g1
   have g2':w2.cell? ⟨g,j,none⟩=some (.int .u64 (z:Int)):=by rw[hw2];exact g2
   have HP2:Hid (Pre w2 g rk):=Hi (by rw[hw2];exact HP.out.drewN n);have HON2:Hid (Only g w w2):=Hi (by rw[hw2];exact HON.out.drewN n);clear hw2 g1 g2 HCD;go_wp2;go_roundw
   case rel=>
    have hj:j<rk.length:=by rw[HRL.out];omega
    refine⟨j,r',rk.set j q,by omega,hr',rfl,by go_num,HP2.out.set j q hj,by rw[List.length_set];exact HRL.out,HRS.out.set j hq,?_,?_,HON2.out.setCell _ _⟩
    ·
     intro p hp;rw[Qae _ _ _ _ (by omega)];exact HUN.out p (by omega)
    ·
     have e1:rs.getD j 0=z:=by rw[←HUN.out j (by omega)];exact HZ.out
     rw[Qal _ _ j (by rw[List.length_set];exact hj),Qa4 _ _ _ hj,Qal _ rs j (by have:=HRL.out;omega),e1,←HV.out];have e2:(rk.set j q).drop (j+1)=rk.drop (j+1):=by
      rw[List.drop_set,if_pos (by omega)]
     rw[e2];have:=HQR.out;rw[Nat.add_mul,Nat.mul_assoc,Nat.mul_comm q d,Nat.mul_add];generalize val 18446744073709551616 (rk.drop (j+1))*d=A at*;omega
   case measure=>simp[intOf]
set_option maxHeartbeats 400000 in
theorem Qma(x:Nat)(w:World)(hx:x<18446744073709551616):
 Calls Tryz.prog 149 #[.int .u64 x] w fun e w'=>(∃a cap r,e=.returned (.slice a r.length cap)∧U64 w' a cap r x)∧Below w.heap.size w w':=by
 by_cases h0:x=0
 ·
  subst h0;go_enter Tryz.func149,Tryz.ntmps149;go_wp2;go_ret;exact⟨⟨none,0,[],rfl,U64.nil _⟩,Below.refl _ _⟩
 ·
  have q:((x:Int) == 0)=false:=by rw[beq_eq_false_iff_ne];omega
  go_enter Tryz.func149,Tryz.ntmps149;go_wp2;go_ret;have hB:Blk .u64 81 (w.alloc (.cells (wordCells .u64 [x]) 81)) w.heap.size [x]:=Blk.new _ _ _ _;refine⟨⟨some ⟨w.heap.size,0,none⟩,1,[x],rfl,hB.row 1 (by simp) 1 (by omega),⟨fun d hd=>by simp at hd;omega,.inr (by simpa using h0),by simp[val]⟩,by simp⟩,(Below.refl _ _).alloc (Nat.le_refl _) _⟩
set_option maxHeartbeats 400000 in
theorem Qej(a:Option Addr)(cap:Nat)(l:List Nat)(x:Nat)(w:World)(h:U64 w a cap l x)(hl:0<l.length):
 Calls Tryz.prog 146 #[.slice a l.length cap] w fun e w'=>(∃g cap',e=.returned (.slice (some ⟨g,0,none⟩) l.length cap')∧l.length≤cap'∧w.heap.size≤g∧Pre w' g l)∧Below w.heap.size w w':=by
 obtain⟨i0,hi,hz0,hz1,hz2⟩:=info_parts Tryz.info64;have hs:=h.short;have hq:∀(w:World) (a:Option Addr) (n c n' c':Nat),(binOp .eql 60 (.slice a n c) (.slice none n' c')).run Tryz.prog w=.ok (.bool a.isNone) w:=fun w a n c n' c'=>Lib.run_eql_slice_nil w _ _ a n c n' c' Tryz.underlying60
 obtain⟨b,off,rfl,hb,_⟩:=h.row.cell 0 hl;have H:=Hi h;clear h;go_enter Tryz.func146,Tryz.ntmps146;go_wp2_with (at_builtin;refine wpList_append_own _ rfl _ _ 60 rfl w.heap.size 81 i0 (.int .u64 0) 1 8 Tryz.underlying60 hi hz0 hz1 hz2 rfl (by decide) _ _ _ rfl (World.ownsRow_made w #[] 0 (Nat.le_refl _) (Nat.zero_le _) rfl) ⟨b,off,none⟩ l.length cap (l.map (fun n:Nat=>Value.int .u64 n)) rfl ?c1 ?c2 ?c3 ?c4 ?c5 ?c6 ?_)
 case c1=>simp
 case c2=>
  intro j u hj;obtain⟨hlt,hu⟩:=List.getElem?_eq_some_iff.1 hj;have hlt':j<l.length:=by simpa using hlt
  obtain⟨b',off',e1,hb',hc⟩:=H.out.row.cell j hlt';obtain⟨rfl,rfl⟩:b=b'∧off=off':=by simpa using e1
  rw[Qdy];refine(((Below.refl w.heap.size w).alloc (Nat.le_refl _) _).cell (p:=⟨b,off+j,none⟩) hb').trans ?_;rw[hc,←hu];simp[hlt']
 case c3=>intro u hu;obtain⟨n,_,rfl⟩:=List.mem_map.1 hu;rfl
 case c4=>unfold maxLen;omega
 case c5=>omega
 case c6=>simp
 intro v' w1 hown hgrow hnil;obtain⟨g,cap',rfl,hg,hlt⟩:=hown.form (by omega);have HO:=Hi hown;have HG:=Hi hgrow;clear hown hgrow hnil;go_wp2;go_ret;obtain⟨_,h2⟩:=HO.out;rcases h2 with ⟨h2,_⟩|⟨g',cap2,cur,h2,h3,h4,h5,h6,h7,h8⟩
 · cases h2
 ·
  injection h2 with e1 e2 e3
  injection e1 with e1
  injection e1 with e1
  subst e1;subst e3;refine⟨⟨g,cap',by simp,by omega,h3,cur,h4,fun i hi=>?_⟩,((Below.refl _ w).alloc (Nat.le_refl _) _).grown HG.out (by simp) (by intro k hk;simp[Value.ownBlock] at hk;omega)⟩;have e4:(cur.toList.take (l.length*1))[i]?=cur[i]?:=by
   rw[List.getElem?_take_of_lt (by omega)];simp
  rw[←e4,h8,List.getElem?_map,List.getD_eq_getElem?_getD,List.getElem?_eq_getElem hi];rfl
theorem Qmx(L:Int)(n:Nat)(hL:L=n)(hn:n≤2199023255552)(w:World):
 (Instr.makeSlice 59 (.int .i64 L) (.int .i64 L)).run Tryz.prog w=.ok (.slice (some ⟨w.heap.size,0,none⟩) n n) (w.alloc (.cells (wordCells .u64 (zeros n)) 81)):=by
 subst hL;rw[←Qci];exact Go.run_make_row' 59 81 (.int .u64 0) 8 Tryz.underlying59 Tryz.info64 rfl .i64 .i64 n (by omega) (by omega) w
theorem Qmy(d s z:Nat)(hs:s<64)(hd:d<18446744073709551616)(hz:z<2 ^ s):∃lo hi new:Nat,IntKind.u64.wrap ((d:Int)*2 ^ s)=(lo:Int)∧(d:Int) / 2 ^ (64 - s)=(hi:Int)∧bits .or .u64 (z:Int) (lo:Int)=(new:Int)∧hi<2 ^ s∧new<18446744073709551616∧hi<18446744073709551616∧new+18446744073709551616*hi=z+d*2 ^ s:=by
 have h1:=low64 (lo:=d) (s:=s) (by omega);have h2:=Qd8 (lo:=d) (s:=s) (by omega) hd;have h3:d*2 ^ s % 18446744073709551616=2 ^ s*(d % 2 ^ (64 - s)):=by
  rw[←Qbn (s:=s) (by omega),Nat.mul_comm d,Nat.mul_mod_mul_left]
 have h4:d % 2 ^ (64 - s)+1≤2 ^ (64 - s):=Nat.mod_lt _ (Nat.two_pow_pos _);have h5:=Nat.mul_le_mul_left (2 ^ s) h4;rw[Qbn (by omega),Nat.mul_add,Nat.mul_one,←h3] at h5;have h6:2 ^ s≤9223372036854775808:=Nat.pow_le_pow_right (by decide) (show s≤63 by omega);refine⟨d*2 ^ s % 18446744073709551616,d / 2 ^ (64 - s),d*2 ^ s % 18446744073709551616+z,?_,?_,?_,h2,by omega,by omega,by omega⟩
 · rw[show (d:Int)*2 ^ s=((d*2 ^ s:Nat):Int) by rw[Int.natCast_mul,Int.natCast_pow];rfl,Qam];rfl
 · rw[Int.natCast_ediv,Int.natCast_pow];rfl
 · rw[or64' ((d*2 ^ s % 18446744073709551616:Nat):Int) (z:Int) (d % 2 ^ (64 - s)) z s (by rw[h3]) rfl hz (by rw[←h3];omega),h3]
theorem Qmz(k d s z new hi:Nat)(rs l:List Nat)(hk:k+1<rs.length)(hd:l.getD k 0=d)(hz:rs.getD k 0=z)(hn:new+18446744073709551616*hi=z+d*2 ^ s)(h:val 18446744073709551616 (rs.take (k+1))=val 18446744073709551616 (l.take k)*2 ^ s):
 val 18446744073709551616 (((rs.set k new).set (k+1) hi).take (k+1+1))=val 18446744073709551616 (l.take (k+1))*2 ^ s:=by
 rw[take_set _ _ _ (by simp;omega),Qak,List.length_take,Nat.min_eq_left (by simp;omega),take_set _ _ _ (by omega),Qak,List.length_take,Nat.min_eq_left (by omega)];rw[Qad,hz] at h;rw[Qad _ l,hd,Nat.add_mul,←h,Nat.pow_succ,Nat.mul_assoc (18446744073709551616 ^ k) d];have e2:18446744073709551616 ^ k*(new+18446744073709551616*hi)=18446744073709551616 ^ k*(z+d*2 ^ s):=by rw[hn]
 rw[Nat.mul_add,Nat.mul_add,←Nat.mul_assoc] at e2;omega
theorem Qm0(d e s:Nat)(hs:s<64)(hd:d<18446744073709551616)(he:e<18446744073709551616):∃lo hi new:Nat,(d:Int) / 2 ^ s=(lo:Int)∧IntKind.u64.wrap ((e:Int)*2 ^ (64 - s))=(hi:Int)∧bits .or .u64 (lo:Int) (hi:Int)=(new:Int)∧new<18446744073709551616∧new*2 ^ s+d % 2 ^ s=d+18446744073709551616*(e % 2 ^ s):=by
 have h0:=Qbn (s:=s) (by omega);have h0':2 ^ (64 - s)*2 ^ s=18446744073709551616:=by rw[Nat.mul_comm];exact h0
 have h3:e*2 ^ (64 - s) % 18446744073709551616=2 ^ (64 - s)*(e % 2 ^ s):=by
  rw[←h0',Nat.mul_comm e,Nat.mul_mod_mul_left]
 have h1:d / 2 ^ s<2 ^ (64 - s):=by
  rw[Nat.div_lt_iff_lt_mul (Nat.two_pow_pos _),h0'];exact hd
 have h4:e % 2 ^ s+1≤2 ^ s:=Nat.mod_lt _ (Nat.two_pow_pos _);have h5:=Nat.mul_le_mul_left (2 ^ (64 - s)) h4;rw[h0',Nat.mul_add,Nat.mul_one] at h5;refine⟨d / 2 ^ s,e*2 ^ (64 - s) % 18446744073709551616,2 ^ (64 - s)*(e % 2 ^ s)+d / 2 ^ s,?_,?_,?_,by omega,?_⟩
 · rw[Int.natCast_ediv,Int.natCast_pow];rfl
 · rw[show (e:Int)*2 ^ (64 - s)=((e*2 ^ (64 - s):Nat):Int) by rw[Int.natCast_mul,Int.natCast_pow];rfl,Qam];rfl
 · rw[or64' ((e*2 ^ (64 - s) % 18446744073709551616:Nat):Int) ((d / 2 ^ s:Nat):Int) (e % 2 ^ s) (d / 2 ^ s) (64 - s) (by rw[h3]) rfl h1 (by omega)]
 ·
  have h6:=Nat.div_add_mod d (2 ^ s);rw[Nat.add_mul,Nat.mul_right_comm,h0',Nat.mul_comm (d / 2 ^ s)];omega
theorem Qm1(k d e s new m0:Nat)(rs l:List Nat)(hk:k<rs.length)(hd:l.getD k 0=d)(he:l.getD (k+1) 0=e)(hn:new*2 ^ s+d % 2 ^ s=d+18446744073709551616*(e % 2 ^ s))
 (h:val 18446744073709551616 (rs.take k)*2 ^ s+m0=val 18446744073709551616 (l.take k)+18446744073709551616 ^ k*(l.getD k 0 % 2 ^ s)):
 val 18446744073709551616 ((rs.set k new).take (k+1))*2 ^ s+m0=val 18446744073709551616 (l.take (k+1))+18446744073709551616 ^ (k+1)*(l.getD (k+1) 0 % 2 ^ s):=by
 rw[hd] at h;rw[take_set _ _ _ hk,Qak,List.length_take,Nat.min_eq_left (by omega),Qad,hd,he,Nat.pow_succ,Nat.add_mul];have e2:18446744073709551616 ^ k*(new*2 ^ s+d % 2 ^ s)=18446744073709551616 ^ k*(d+18446744073709551616*(e % 2 ^ s)):=by rw[hn]
 rw[Nat.mul_add,Nat.mul_add,←Nat.mul_assoc,←Nat.mul_assoc] at e2;omega
set_option maxRecDepth 100000 in
set_option maxHeartbeats 1000000 in
theorem Qeo(a:Option Addr)(cap s:Nat)(l:List Nat)(x:Nat)(w:World)(h:U64 w a cap l x)(hl:l.length<1099511627776)(hs:s<64):
 Calls Tryz.prog 150 #[.slice a l.length cap,.int .i64 s] w fun e w'=>(∃rs,e=.returned (.slice (some ⟨w.heap.size,0,none⟩) (l.length+1) (l.length+1))∧Blk .u64 81 w' w.heap.size rs∧rs.length=l.length+1∧Small 18446744073709551616 rs∧val 18446744073709551616 rs=x*2 ^ s)∧Below w.heap.size w w':=by
 have hmk:∀w,(Instr.makeSlice 59 (.int .i64 ((l.length:Int)+1)) (.int .i64 ((l.length:Int)+1))).run Tryz.prog w=.ok (.slice (some ⟨w.heap.size,0,none⟩) (l.length+1) (l.length+1)) (w.alloc (.cells (wordCells .u64 (zeros (l.length+1))) 81)):=
  fun w=>Qmx _ (l.length+1) (by omega) (by omega) w
 have H:=Hi h;clear h;go_enter Tryz.func150,Tryz.ntmps150;go_wp2;clear hmk;go_loopw [14] (fun i wr=>∃(k:Nat) (rs:List Nat),k≤l.length∧i=.int .i64 k∧Blk .u64 81 wr w.heap.size rs∧rs.length=l.length+1∧Small 18446744073709551616 rs∧rs.getD k 0<2 ^ s∧(∀j,k<j→rs.getD j 0=0)∧
  val 18446744073709551616 (rs.take (k+1))=val 18446744073709551616 (l.take k)*2 ^ s∧Below w.heap.size w wr) (fun i _=>l.length - (intOf i).toNat)
 case atStart=>exact⟨0,zeros (l.length+1),by omega,rfl,Blk.new _ _ _ _,Qac _,Qah _ _ (by omega),by rw[Qaz];exact Nat.pow_pos (by omega),fun j _=>Qaz _ j,by rw[Qad,Qaz];simp[val],(Below.refl _ _).alloc (Nat.le_refl _) _⟩
 case round=>
  obtain⟨k,rs,hk,rfl,hB,hrl,hrs,hz1,hz2,hv,hb⟩:=hrel;have HV:=Hi hv;have HRL:=Hi hrl;have HB:=Hi hB;have HRS:=Hi hrs;have HBL:=Hi hb;clear hv hrs hb;by_cases hlt:k<l.length
  ·
   obtain⟨b,off,rfl,hb1,hc1⟩:=H.out.row.cell k hlt;obtain⟨d,hd⟩:∃d,l.getD k 0=d:=⟨_,rfl⟩;have hdb:d<18446744073709551616:=by rw[←hd];exact H.out.num.small.getD (by omega) k
   rw[hd] at hc1;have hc1':=(HBL.out.cell (p:=⟨b,off+k,none⟩) hb1).trans hc1;have g1:=hB.free k;have g2:=hB.cell k (by omega);have g3:=hB.free (k+1);have g4:=hB.cell (k+1) (by omega);rw[hz2 (k+1) (by omega)] at g4;obtain⟨z,hz⟩:∃z,rs.getD k 0=z:=⟨_,rfl⟩;rw[hz] at g2 hz1;obtain⟨lo,hi,new,u1,u2,u3,hhi,hnew,hhib,hsum⟩:=Qmy d s z hs hdb hz1;have HST:=Hi (Qmz k d s z new hi rs l (by omega) hd hz hsum HV.out);have HZ:=Hi hz2;have HHI:=Hi hhi;clear hd hc1 hz hB hrl hz1 hz2 hsum hhi;have i0:(0:Int)≤(k:Int):=by omega
   have i1:(k:Int)<(l.length:Int)+1:=by omega
   go_wp2_with fail;go_region
   all_goals
    go_wp2;go_roundw
    case rel=>
     refine⟨k+1,(rs.set k new).set (k+1) hi,by omega,by go_num,((HB.out.set k _).drew).set (k+1) _,by rw[List.length_set,List.length_set];exact HRL.out,(HRS.out.set k hnew).set (k+1) hhib,?_,fun j hj=>?_,HST.out,((HBL.out.setCell (Nat.le_refl _) _).drew).setCell (Nat.le_refl _) _⟩
     · rw[Qa4 _ _ _ (by rw[List.length_set,HRL.out];omega)];exact HHI.out
     · rw[Qae _ _ _ _ (by omega),Qae _ _ _ _ (by omega)];exact HZ.out j (by omega)
    case measure=>simp[intOf];omega
  ·
   have e1:k=l.length:=by omega
   have HQ:Hid (val 18446744073709551616 rs=x*2 ^ s):=Hi (by
    have e2:=HV.out;rw[e1,List.take_length,List.take_of_length_le (by have:=HRL.out;omega),H.out.num.eq] at e2
    exact e2)
   clear hrl hB hz1 hz2;go_wp2;go_ret;exact⟨⟨rs,rfl,HB.out,HRL.out,HRS.out,HQ.out⟩,HBL.out⟩
end Go.Proofs.YtodfmpjhcmapmaaGreatDoor
