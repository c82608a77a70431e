/- num's divideStep. -/
import Derived.Test.YtfpcipgoedifaaaGreatDoorK13Div64
import Derived.Lib.SliceRun
import Derived.Deep.DeepFit
namespace Go.Proofs.YtfpcipgoedifaaaGreatDoor
open Go.RowKit
set_option linter.unusedVariables false
set_option linter.unusedSimpArgs false
def Pre(w:World)(g:Nat)(rs:List Nat):Prop:=∃C,SB w g 123 C/\∀i,i<rs.length->C[i]?=some (.int .u64 ((rs.getD i 0:Nat):Int))
theorem Pre.lt{w:World}{g:Nat}{rs:List Nat}(h:Pre w g rs):g<w.heap.size:=by obtain⟨C,h,_⟩:=h;exact h.lt
theorem Pre.cell{w:World}{g:Nat}{rs:List Nat}(h:Pre w g rs)(i:Nat)(hi:i<rs.length):w.cell? ⟨g,i,none⟩=some (.int .u64 ((rs.getD i 0:Nat):Int)):=by
 obtain⟨C,h,hc⟩:=h;rw[h.cell];exact hc i hi
theorem Pre.free{w:World}{g:Nat}{rs:List Nat}(h:Pre w g rs)(i:Nat):w.frozen? ⟨g,i,none⟩=false:=by
 obtain⟨C,h,hc⟩:=h;exact h.free i
theorem Pre.set{w:World}{g:Nat}{rs:List Nat}(h:Pre w g rs)(i x:Nat)(hi:i<rs.length):Pre (w.setCell ⟨g,i,none⟩ (.int .u64 (x:Int))) g (rs.set i x):=by
 obtain⟨C,h,hc⟩:=h;refine⟨_,h.set i _,fun j hj=>?_⟩;rw[List.length_set] at hj;have hsz:i<C.size:=by
  apply bC;intro hn;have:=hc i hi;rw[Array.getElem?_eq_none (by omega)] at this;cases this
 rw[Array.getElem?_setIfInBounds];by_cases e:i=j
 · subst e
   rw[if_pos rfl,if_pos hsz,Qbe _ _ _ hi]
 · rw[if_neg e,hc j hj,getD_set_ne _ _ _ _ e]
theorem Pre.drewN{w:World}{g:Nat}{rs:List Nat}(h:Pre w g rs)(n:Nat):Pre (w.drewN n) g rs:=h
theorem Pre.row{w:World}{g:Nat}{rs:List Nat}(h:Pre w g rs)(cap:Nat)(hc:rs.length<=cap):Row .u64 w (some ⟨g,0,none⟩) cap rs:=
 ⟨hc,.inr ⟨g,0,rfl,h.lt⟩,fun i hi=>⟨g,0,rfl,h.lt,by rw[Nat.zero_add];exact h.cell i hi⟩⟩
theorem Pre.below{w w':World}{g B:Nat}{rs:List Nat}(h:Pre w g rs)(hb:Below B w w')(hB:g<B):Pre w' g rs:=by
 obtain⟨C,h,hc⟩:=h;exact⟨C,h.below hb hB,hc⟩
set_option maxHeartbeats 1000000 in
theorem Qp9(g cap d:Nat)(rs:List Nat)(w:World)(hP:Pre w g rs)(hs:Small 18446744073709551616 rs)(hl:rs.length<=1099511627776)(hd0:0<d)(hd:d<18446744073709551616):
 Calls Tryz.prog 157 #[.slice (some ⟨g,0,none⟩) rs.length cap,.int .u64 d] w fun e w'=>∃rs' r,e=.returned (.int .u64 ((r:Nat):Int))/\r<d/\Pre w' g rs'/\rs'.length=rs.length/\Small 18446744073709551616 rs'/\val 18446744073709551616 rs'*d+r=val 18446744073709551616 rs/\Only g w w':=by
 have HP0:=Hi hP;have HS0:=Hi hs;clear hP hs;go_enter Tryz.func157,Tryz.ntmps157;go_wp2;go_loopw [5,6] (fun r i wr=>∃(k r':Nat) (rk:List Nat),k<=rs.length/\r'<d/\r=.int .u64 r'/\i=.int .i64 ((k:Int) - 1)/\Pre wr g rk/\rk.length=rs.length/\Small 18446744073709551616 rk/\(∀p,p<k->rk.getD p 0=rs.getD p 0)/\
  val 18446744073709551616 (rk.drop k)*d+r'=val 18446744073709551616 (rs.drop k)/\Only g w wr) (fun _ i _=>(intOf i+1).toNat)
 case atStart=>exact⟨rs.length,0,rs,Nat.le_refl _,hd0,rfl,rfl,HP0.out,rfl,HS0.out,fun _ _=>rfl,by rw[List.drop_of_length_le lZ];simp[val],Only.refl _ _⟩
 case round=>
  obtain⟨k,r,rk,hk,hr,rfl,rfl,hP,hrl,hrs,hun,hv,hon⟩:=hrel;have HP:=Hi hP;have HRL:=Hi hrl;have HRS:=Hi hrs;have HUN:=Hi hun;have HV:=Hi hv;have HON:=Hi hon;clear hrs hun hv hon;by_cases h0:k=0
  ·
   subst h0;clear hP hrl;go_wp2;go_ret;exact⟨rk,r,rfl,hr,HP.out,HRL.out,HRS.out,by have:=HV.out;simpa using this,HON.out⟩
  ·
   obtain⟨j,rfl⟩:∃j,k=j+1:=⟨k - 1,by omega⟩;obtain⟨z,hz⟩:=nm (rk.getD j 0);have hzb:z<18446744073709551616:=by rw[<-hz];exact HRS.out.getD (by omega) j
   have g1:=hP.free j;have g2:=hP.cell j (by omega);rw[hz] at g2;obtain⟨q,r',hq,hr',hqr,hcd⟩:=div64 r z d hr hzb hd;have HCD:=Hi hcd;have HQR:=Hi hqr;have HZ:=Hi hz;have ei:((j+1:Nat):Int) - 1=(j:Int):=by omega
   rw[ei];clear ei hcd hqr hz hP hrl;go_wp2_with fail;refine(HCD.out _).mono ?_;rintro e w2 ⟨rfl,n,hw2⟩;have g1':w2.frozen? ⟨g,j,none⟩=false:=by rw[hw2];exact g1
   have g2':w2.cell? ⟨g,j,none⟩=some (.int .u64 (z:Int)):=by rw[hw2];exact g2
   have HP2:Hid (Pre w2 g rk):=Hi (by rw[hw2];exact HP.out.drewN n);have HON2:Hid (Only g w w2):=Hi (by rw[hw2];exact HON.out.drewN n);clear hw2 g1 g2 HCD;go_wp2;go_roundw
   case rel=>
    have hj:j<rk.length:=by rw[HRL.out];omega
    refine⟨j,r',rk.set j q,by omega,hr',rfl,by go_num,HP2.out.set j q hj,by rw[List.length_set];exact HRL.out,HRS.out.set j hq,?_,?_,HON2.out.setCell _ _⟩
    ·
     intro p hp;rw[getD_set_ne _ _ _ _ (by omega)];exact HUN.out p (by omega)
    ·
     have e1:rs.getD j 0=z:=by rw[<-HUN.out j (by omega)];exact HZ.out
     rw[Qao _ _ j (by rw[List.length_set];exact hj),Qbe _ _ _ hj,Qao _ rs j (by have:=HRL.out;omega),e1,<-HV.out];have e2:(rk.set j q).drop (j+1)=rk.drop (j+1):=by
      rw[List.drop_set,if_pos (by omega)]
     rw[e2];have:=HQR.out;rw[Nat.add_mul,Nat.mul_assoc,Nat.mul_comm q d,Nat.mul_add];generalize val 18446744073709551616 (rk.drop (j+1))*d=A at*;omega
   case measure=>simp[intOf]
set_option maxHeartbeats 400000 in
theorem Qqa(x:Nat)(w:World)(hx:x<18446744073709551616):
 Calls Tryz.prog 158 #[.int .u64 x] w fun e w'=>(∃a cap r,e=.returned (.slice a r.length cap)/\U64 w' a cap r x)/\Below w.heap.size w w':=by
 by_cases h0:x=0
 ·
  subst h0;go_enter Tryz.func158,Tryz.ntmps158;go_wp2;go_ret;exact⟨⟨none,0,[],rfl,U64.nil _⟩,Below.refl _ _⟩
 ·
  have q:((x:Int) == 0)=false:=by rw[beq_eq_false_iff_ne];omega
  go_enter Tryz.func158,Tryz.ntmps158;go_wp2;go_ret;have hB:Blk .u64 123 (w.alloc (.cells (wordCells .u64 [x]) 123)) w.heap.size [x]:=Blk.new _ _ _ _;refine⟨⟨some ⟨w.heap.size,0,none⟩,1,[x],rfl,hB.row 1 (by simp) 1 (by omega),⟨fun d hd=>by simp at hd;omega,.inr (by simpa using h0),by simp[val]⟩,by simp⟩,bR.alloc lZ _⟩
set_option maxHeartbeats 400000 in
theorem Qfo(a:Option Addr)(cap:Nat)(l:List Nat)(x:Nat)(w:World)(h:U64 w a cap l x)(hl:0<l.length):
 Calls Tryz.prog 120 #[.slice a l.length cap] w fun e w'=>(∃g cap',e=.returned (.slice (some ⟨g,0,none⟩) l.length cap')/\l.length<=cap'/\w.heap.size<=g/\Pre w' g l)/\Below w.heap.size w w':=by
 obtain⟨i0,hi,hz0,hz1,hz2⟩:=info_parts Tryz.info64;have hs:=h.short;have hq:∀(w:World) (a:Option Addr) (n c n' c':Nat),(binOp .eql 101 (.slice a n c) (.slice none n' c')).run Tryz.prog w=.ok (.bool a.isNone) w:=fun w a n c n' c'=>Lib.run_eql_slice_nil w _ _ a n c n' c' Tryz.underlying101
 obtain⟨b,off,rfl,hb,_⟩:=h.row.cell 0 hl;have H:=Hi h;clear h;go_enter Tryz.func120,Tryz.ntmps120;go_wp2_with (at_builtin;refine wpList_append_own _ rfl _ _ 101 rfl w.heap.size 123 i0 (.int .u64 0) 1 8 Tryz.underlying101 hi hz0 hz1 hz2 rfl (by decide) _ _ _ rfl (World.ownsRow_made w #[] 0 lZ (Nat.zero_le _) rfl) ⟨b,off,none⟩ l.length cap (l.map (fun n:Nat=>Value.int .u64 n)) rfl ?c1 ?c2 ?c3 ?c4 ?c5 ?c6 ?_)
 case c1=>simp
 case c2=>
  intro j u hj;obtain⟨hlt,hu⟩:=gZ hj;have hlt':j<l.length:=by simpa using hlt
  obtain⟨b',off',e1,hb',hc⟩:=H.out.row.cell j hlt';obtain⟨rfl,rfl⟩:b=b'/\off=off':=by simpa using e1
  rw[Qay];refine(((Below.refl w.heap.size w).alloc lZ _).cell (p:=⟨b,off+j,none⟩) hb').trans ?_;rw[hc,<-hu];simp[hlt']
 case c3=>intro u hu;obtain⟨n,_,rfl⟩:=List.mem_map.1 hu;rfl
 case c4=>unfold maxLen;omega
 case c5=>omega
 case c6=>simp
 intro v' w1 hown hgrow hnil;obtain⟨g,cap',rfl,hg,hlt⟩:=hown.form (by omega);have HO:=Hi hown;have HG:=Hi hgrow;clear hown hgrow hnil;go_wp2;go_ret;obtain⟨_,h2⟩:=HO.out;rcases h2 with ⟨h2,_⟩|⟨g',cap2,cur,h2,h3,h4,h5,h6,h7,h8⟩
 · cases h2
 ·
  injection h2 with e1 e2 e3
  injection e1 with e1
  injection e1 with e1
  subst e1;subst e3;refine⟨⟨g,cap',by simp,by omega,h3,cur,h4,fun i hi=>?_⟩,((Below.refl _ w).alloc lZ _).grown HG.out (by simp) (by intro k hk;simp[Value.ownBlock] at hk;omega)⟩;have e4:(cur.toList.take (l.length*1))[i]?=cur[i]?:=by
   rw[List.getElem?_take_of_lt (by omega)];simp
  rw[<-e4,h8,List.getElem?_map,List.getD_eq_getElem?_getD,gE hi];rfl
theorem Qqx(L:Int)(n:Nat)(hL:L=n)(hn:n<=2199023255552)(w:World):
 (Instr.makeSlice 100 (.int .i64 L) (.int .i64 L)).run Tryz.prog w=.ok (.slice (some ⟨w.heap.size,0,none⟩) n n) (w.alloc (.cells (wordCells .u64 (zeros n)) 123)):=by
 subst hL;rw[<-Qdw];exact Go.run_make_row' 100 123 (.int .u64 0) 8 Tryz.underlying100 Tryz.info64 rfl .i64 .i64 n (by omega) (by omega) w
theorem Qqy(d s z:Nat)(hs:s<64)(hd:d<18446744073709551616)(hz:z<2 ^ s):∃lo hi new:Nat,IntKind.u64.wrap ((d:Int)*2 ^ s)=(lo:Int)/\(d:Int) / 2 ^ (64 - s)=(hi:Int)/\bits .or .u64 (z:Int) (lo:Int)=(new:Int)/\hi<2 ^ s/\new<18446744073709551616/\hi<18446744073709551616/\new+18446744073709551616*hi=z+d*2 ^ s:=by
 have h1:=low64 (lo:=d) (s:=s) (by omega);have h2:=Qfb (lo:=d) (s:=s) (by omega) hd;have h3:d*2 ^ s % 18446744073709551616=2 ^ s*(d % 2 ^ (64 - s)):=by
  rw[<-Qbl (s:=s) (by omega),Nat.mul_comm d,Nat.mul_mod_mul_left]
 have h4:d % 2 ^ (64 - s)+1<=2 ^ (64 - s):=Nat.mod_lt _ (Nat.two_pow_pos _);have h5:=Nat.mul_le_mul_left (2 ^ s) h4;rw[Qbl (by omega),Nat.mul_add,Nat.mul_one,<-h3] at h5;have h6:2 ^ s<=9223372036854775808:=Nat.pow_le_pow_right (by decide) (show s<=63 by omega);refine⟨d*2 ^ s % 18446744073709551616,d / 2 ^ (64 - s),d*2 ^ s % 18446744073709551616+z,?_,?_,?_,h2,by omega,by omega,by omega⟩
 · rw[show (d:Int)*2 ^ s=((d*2 ^ s:Nat):Int) by rw[Int.natCast_mul,Int.natCast_pow];rfl,Qaq];rfl
 · rw[Int.natCast_ediv,Int.natCast_pow];rfl
 · rw[or64' ((d*2 ^ s % 18446744073709551616:Nat):Int) (z:Int) (d % 2 ^ (64 - s)) z s (by rw[h3]) rfl hz (by rw[<-h3];omega),h3]
theorem Qqz(k d s z new hi:Nat)(rs l:List Nat)(hk:k+1<rs.length)(hd:l.getD k 0=d)(hz:rs.getD k 0=z)(hn:new+18446744073709551616*hi=z+d*2 ^ s)(h:val 18446744073709551616 (rs.take (k+1))=val 18446744073709551616 (l.take k)*2 ^ s):
 val 18446744073709551616 (((rs.set k new).set (k+1) hi).take (k+1+1))=val 18446744073709551616 (l.take (k+1))*2 ^ s:=by
 rw[take_set _ _ _ (by simp;omega),Qal,List.length_take,Nat.min_eq_left (by simp;omega),take_set _ _ _ (by omega),Qal,List.length_take,Nat.min_eq_left (by omega)];rw[Qad,hz] at h;rw[Qad _ l,hd,Nat.add_mul,<-h,Nat.pow_succ,Nat.mul_assoc (18446744073709551616 ^ k) d];have e2:18446744073709551616 ^ k*(new+18446744073709551616*hi)=18446744073709551616 ^ k*(z+d*2 ^ s):=by rw[hn]
 rw[Nat.mul_add,Nat.mul_add,<-Nat.mul_assoc] at e2;omega
theorem Qq0(d e s:Nat)(hs:s<64)(hd:d<18446744073709551616)(he:e<18446744073709551616):∃lo hi new:Nat,(d:Int) / 2 ^ s=(lo:Int)/\IntKind.u64.wrap ((e:Int)*2 ^ (64 - s))=(hi:Int)/\bits .or .u64 (lo:Int) (hi:Int)=(new:Int)/\new<18446744073709551616/\new*2 ^ s+d % 2 ^ s=d+18446744073709551616*(e % 2 ^ s):=by
 have h0:=Qbl (s:=s) (by omega);have h0':2 ^ (64 - s)*2 ^ s=18446744073709551616:=by rw[Nat.mul_comm];exact h0
 have h3:e*2 ^ (64 - s) % 18446744073709551616=2 ^ (64 - s)*(e % 2 ^ s):=by
  rw[<-h0',Nat.mul_comm e,Nat.mul_mod_mul_left]
 have h1:d / 2 ^ s<2 ^ (64 - s):=by
  rw[Nat.div_lt_iff_lt_mul (Nat.two_pow_pos _),h0'];exact hd
 have h4:e % 2 ^ s+1<=2 ^ s:=Nat.mod_lt _ (Nat.two_pow_pos _);have h5:=Nat.mul_le_mul_left (2 ^ (64 - s)) h4;rw[h0',Nat.mul_add,Nat.mul_one] at h5;refine⟨d / 2 ^ s,e*2 ^ (64 - s) % 18446744073709551616,2 ^ (64 - s)*(e % 2 ^ s)+d / 2 ^ s,?_,?_,?_,by omega,?_⟩
 · rw[Int.natCast_ediv,Int.natCast_pow];rfl
 · rw[show (e:Int)*2 ^ (64 - s)=((e*2 ^ (64 - s):Nat):Int) by rw[Int.natCast_mul,Int.natCast_pow];rfl,Qaq];rfl
 · rw[or64' ((e*2 ^ (64 - s) % 18446744073709551616:Nat):Int) ((d / 2 ^ s:Nat):Int) (e % 2 ^ s) (d / 2 ^ s) (64 - s) (by rw[h3]) rfl h1 (by omega)]
 ·
  have h6:=Nat.div_add_mod d (2 ^ s);rw[Nat.add_mul,Nat.mul_right_comm,h0',Nat.mul_comm (d / 2 ^ s)];omega
theorem Qq1(k d e s new m0:Nat)(rs l:List Nat)(hk:k<rs.length)(hd:l.getD k 0=d)(he:l.getD (k+1) 0=e)(hn:new*2 ^ s+d % 2 ^ s=d+18446744073709551616*(e % 2 ^ s))
 (h:val 18446744073709551616 (rs.take k)*2 ^ s+m0=val 18446744073709551616 (l.take k)+18446744073709551616 ^ k*(l.getD k 0 % 2 ^ s)):
 val 18446744073709551616 ((rs.set k new).take (k+1))*2 ^ s+m0=val 18446744073709551616 (l.take (k+1))+18446744073709551616 ^ (k+1)*(l.getD (k+1) 0 % 2 ^ s):=by
 rw[hd] at h;rw[take_set _ _ _ hk,Qal,List.length_take,Nat.min_eq_left (by omega),Qad,hd,he,Nat.pow_succ,Nat.add_mul];have e2:18446744073709551616 ^ k*(new*2 ^ s+d % 2 ^ s)=18446744073709551616 ^ k*(d+18446744073709551616*(e % 2 ^ s)):=by rw[hn]
 rw[Nat.mul_add,Nat.mul_add,<-Nat.mul_assoc,<-Nat.mul_assoc] at e2;omega
set_option maxRecDepth 100000 in
set_option maxHeartbeats 1000000 in
theorem Qji(a:Option Addr)(cap s:Nat)(l:List Nat)(x:Nat)(w:World)(h:U64 w a cap l x)(hl:l.length<1099511627776)(hs:s<64):
 Calls Tryz.prog 160 #[.slice a l.length cap,.int .i64 s] w fun e w'=>(∃rs,e=.returned (.slice (some ⟨w.heap.size,0,none⟩) (l.length+1) (l.length+1))/\Blk .u64 123 w' w.heap.size rs/\rs.length=l.length+1/\Small 18446744073709551616 rs/\val 18446744073709551616 rs=x*2 ^ s)/\Below w.heap.size w w':=by
 have hmk:∀w,(Instr.makeSlice 100 (.int .i64 ((l.length:Int)+1)) (.int .i64 ((l.length:Int)+1))).run Tryz.prog w=.ok (.slice (some ⟨w.heap.size,0,none⟩) (l.length+1) (l.length+1)) (w.alloc (.cells (wordCells .u64 (zeros (l.length+1))) 123)):=
  fun w=>Qqx _ (l.length+1) (by omega) (by omega) w
 have H:=Hi h;clear h;go_enter Tryz.func160,Tryz.ntmps160;go_wp2;clear hmk;go_loopw [14] (fun i wr=>∃(k:Nat) (rs:List Nat),k<=l.length/\i=.int .i64 k/\Blk .u64 123 wr w.heap.size rs/\rs.length=l.length+1/\Small 18446744073709551616 rs/\rs.getD k 0<2 ^ s/\(∀j,k<j->rs.getD j 0=0)/\
  val 18446744073709551616 (rs.take (k+1))=val 18446744073709551616 (l.take k)*2 ^ s/\Below w.heap.size w wr) (fun i _=>l.length - (intOf i).toNat)
 case atStart=>exact⟨0,zeros (l.length+1),by omega,rfl,Blk.new _ _ _ _,Qai _,Qap _ _ (by omega),by rw[Qbq];exact Nat.pow_pos (by omega),fun j _=>Qbq _ j,by rw[Qad,Qbq];simp[val],bR.alloc lZ _⟩
 case round=>
  obtain⟨k,rs,hk,rfl,hB,hrl,hrs,hz1,hz2,hv,hb⟩:=hrel;have HV:=Hi hv;have HRL:=Hi hrl;have HB:=Hi hB;have HRS:=Hi hrs;have HBL:=Hi hb;clear hv hrs hb;by_cases hlt:k<l.length
  ·
   obtain⟨b,off,rfl,hb1,hc1⟩:=H.out.row.cell k hlt;obtain⟨d,hd⟩:=nm (l.getD k 0);have hdb:d<18446744073709551616:=by rw[<-hd];exact H.out.num.small.getD (by omega) k
   rw[hd] at hc1;have hc1':=ce HBL.out hb1 hc1;have g1:=hB.free k;have g2:=hB.cell k (by omega);have g3:=hB.free (k+1);have g4:=hB.cell (k+1) (by omega);rw[hz2 (k+1) (by omega)] at g4;obtain⟨z,hz⟩:=nm (rs.getD k 0);rw[hz] at g2 hz1;obtain⟨lo,hi,new,u1,u2,u3,hhi,hnew,hhib,hsum⟩:=Qqy d s z hs hdb hz1;have HST:=Hi (Qqz k d s z new hi rs l (by omega) hd hz hsum HV.out);have HZ:=Hi hz2;have HHI:=Hi hhi;clear hd hc1 hz hB hrl hz1 hz2 hsum hhi;have i0:(0:Int)<=(k:Int):=by omega
   have i1:(k:Int)<(l.length:Int)+1:=by omega
   go_wp2_with fail;go_region
   all_goals
    go_wp2;go_roundw
    case rel=>
     refine⟨k+1,(rs.set k new).set (k+1) hi,by omega,by go_num,((HB.out.set k _).drew).set (k+1) _,by rw[List.length_set,List.length_set];exact HRL.out,(HRS.out.set k hnew).set (k+1) hhib,?_,fun j hj=>?_,HST.out,((HBL.out.setCell lZ _).drew).setCell lZ _⟩
     · rw[Qbe _ _ _ (by rw[List.length_set,HRL.out];omega)];exact HHI.out
     · rw[getD_set_ne _ _ _ _ (by omega),getD_set_ne _ _ _ _ (by omega)];exact HZ.out j (by omega)
    case measure=>simp[intOf];omega
  ·
   have e1:k=l.length:=by omega
   have HQ:Hid (val 18446744073709551616 rs=x*2 ^ s):=Hi (by
    have e2:=HV.out;rw[e1,List.take_length,List.take_of_length_le (by have:=HRL.out;omega),H.out.num.eq] at e2
    exact e2)
   clear hrl hB hz1 hz2;go_wp2;go_ret;exact⟨⟨rs,rfl,HB.out,HRL.out,HRS.out,HQ.out⟩,HBL.out⟩
theorem Qa0(n:Int)(h0: -9223372036854775808<=n)(h1:n<9223372036854775808):IntKind.i64.wrap n=n:=by
 simp[IntKind.wrap,IntKind.signed,IntKind.bits];omega
structure ON (w:World) (g cap:Nat) (C l:List Nat) (n:Nat):Prop where
 pre:Pre w g C
 small:Small 18446744073709551616 C
 len:C.length<=1099511627776
 fro:C.take l.length=l
 num:Num 18446744073709551616 l n
 fit:l.length<=cap
theorem Blk.pre{w:World}{g:Nat}{C:List Nat}(h:Blk .u64 123 w g C):Pre w g C:=
 ⟨wordCells .u64 C,h,fun i hi=>by
   have h1:=SB.cell (w:=w) (b:=g) (t:=123) (C:=wordCells .u64 C) h i;rw[<-h1]
   exact h.cell i hi⟩
theorem Pre.rowN{w:World}{g:Nat}{C:List Nat}(h:Pre w g C)(n:Nat)(hn:n<=C.length)(cap:Nat)(hc:n<=cap):Row .u64 w (some ⟨g,0,none⟩) cap (C.take n):=by
 have hl:(C.take n).length=n:=by rw[List.length_take];omega
 refine⟨by omega,.inr ⟨g,0,rfl,h.lt⟩,fun i hi=>⟨g,0,rfl,h.lt,?_⟩⟩;rw[Nat.zero_add,Qe7 _ _ _ (by omega)];exact h.cell i (by omega)
theorem ON.le{w:World}{g cap n:Nat}{C l:List Nat}(h:ON w g cap C l n):l.length<=C.length:=by
 have:=congrArg List.length h.fro;rw[List.length_take] at this;omega
theorem ON.u64{w:World}{g cap n:Nat}{C l:List Nat}(h:ON w g cap C l n):U64 w (some ⟨g,0,none⟩) cap l n:=by
 have hr:=h.pre.rowN l.length h.le cap h.fit;rw[h.fro] at hr;exact⟨hr,h.num,Nat.le_trans h.le h.len⟩
theorem ON.below{w w':World}{g cap n:Nat}{C l:List Nat}(h:ON w g cap C l n)(hb:Below w.heap.size w w'):ON w' g cap C l n:=⟨h.pre.below hb h.pre.lt,h.small,h.len,h.fro,h.num,h.fit⟩
theorem Qcr(g n cap x:Nat)(C:List Nat)(w:World)(h:Pre w g C)(hs:Small 18446744073709551616 C)(hb:C.length<=1099511627776)(hn:n<=C.length)(hc:n<=cap)(hx:val 18446744073709551616 (C.take n)=x):
 Calls Tryz.prog 131 #[.slice (some ⟨g,0,none⟩) n cap] w fun e w'=>(∃r,e=.returned (.slice (some ⟨g,0,none⟩) r.length cap)/\ON w g cap C r x/\r.length<=n)/\w'=w:=by
 have hR:=h.rowN n hn cap hc;have hl:(C.take n).length=n:=by rw[List.length_take];omega
 have hT:=Qfn (some ⟨g,0,none⟩) cap (C.take n) w hR (by omega);rw[hl] at hT;refine hT.mono ?_;rintro e w1 ⟨⟨q,hq,rfl,hqv,hqt⟩,rfl⟩;have hqn:q<=n:=by omega
 have htt:(C.take n).take q=C.take q:=by rw[List.take_take,Nat.min_eq_left hqn]
 rw[htt] at hqv hqt;have hql:(C.take q).length=q:=by rw[List.length_take];omega
 exact⟨⟨C.take q,by rw[hql],⟨h,hs,hb,by rw[hql],⟨hs.take q,hqt,hqv.trans hx⟩,by omega⟩,by omega⟩,rfl⟩
set_option maxRecDepth 100000 in
set_option maxHeartbeats 1000000 in
theorem Qqc(a:Option Addr)(cap s:Nat)(l:List Nat)(w:World)(h:Row .u64 w a cap l)(hsm:Small 18446744073709551616 l)(hl:l.length<1099511627776)(hs:s<64):
 Calls Tryz.prog 162 #[.slice a l.length cap,.int .i64 s] w fun e w'=>(∃rs r,e=.returned (.slice (some ⟨w.heap.size,0,none⟩) r.length l.length)/\ON w' w.heap.size l.length rs r (val 18446744073709551616 l / 2 ^ s))/\Below w.heap.size w w':=by
 have hmk:∀w,(Instr.makeSlice 101 (.int .i64 (l.length:Int)) (.int .i64 (l.length:Int))).run Tryz.prog w=.ok (.slice (some ⟨w.heap.size,0,none⟩) l.length l.length) (w.alloc (.cells (wordCells .u64 (zeros l.length)) 123)):=
  fun w=>Qcm _ l.length rfl (by omega) w
 have H:=Hi h;have HSM:=Hi hsm;clear h hsm;go_enter Tryz.func162,Tryz.ntmps162;go_wp2;clear hmk;go_loopw [12] (fun i wr=>∃(k:Nat) (rs:List Nat),k<=l.length/\i=.int .i64 k/\Blk .u64 123 wr w.heap.size rs/\rs.length=l.length/\Small 18446744073709551616 rs/\
  val 18446744073709551616 (rs.take k)*2 ^ s+l.getD 0 0 % 2 ^ s=val 18446744073709551616 (l.take k)+18446744073709551616 ^ k*(l.getD k 0 % 2 ^ s)/\Below w.heap.size w wr) (fun i _=>l.length - (intOf i).toNat)
 case atStart=>exact⟨0,zeros l.length,by omega,rfl,Blk.new _ _ _ _,Qai _,Qap _ _ (by omega),by simp[val],bR.alloc lZ _⟩
 case round=>
  obtain⟨k,rs,hk,rfl,hB,hrl,hrs,hv,hb⟩:=hrel;have HV:=Hi hv;have HRL:=Hi hrl;have HB:=Hi hB;have HRS:=Hi hrs;have HBL:=Hi hb;clear hv hrs hb;by_cases hlt:k<l.length
  ·
   obtain⟨b,off,rfl,hb1,hc1⟩:=H.out.cell k hlt;obtain⟨d,hd⟩:=nm (l.getD k 0);obtain⟨e,he⟩:=nm (l.getD (k+1) 0);have hdb:d<18446744073709551616:=by rw[<-hd];exact HSM.out.getD (by omega) k
   have heb:e<18446744073709551616:=by rw[<-he];exact HSM.out.getD (by omega) (k+1)
   rw[hd] at hc1;have hc1':=ce HBL.out hb1 hc1;obtain⟨z,hz⟩:=nm (rs.getD k 0);have g1:=hB.free k;have g2:=hB.cell k (by omega);rw[hz] at g2;obtain⟨lo,hi,new,u1,u2,u3,hnew,hsum⟩:=Qq0 d e s hs hdb heb;have HST:=Hi (Qq1 k d e s new _ rs l (by omega) hd he hsum HV.out);have hcw:=Qbr (some ⟨b,off,none⟩) cap l (k+1) wr.drew (H.out.below HBL.out.drew) (by omega) (by omega);rw[he,show ((k+1:Nat):Int)=(k:Int)+1 by omega] at hcw;have wk:IntKind.i64.wrap ((k:Int)+1)=(k:Int)+1:=Qa0 _ (by omega) (by omega);obtain⟨t,ht⟩:=nm (64 - s);have ws:IntKind.i64.wrap (64 - (s:Int))=(t:Int):=by rw[Qa0 _ (by omega) (by omega)];omega
   have ht64:t<=64:=by omega
   rw[ht] at u2;clear ht;have HC:=Hi hcw;clear hcw;have i0:(0:Int)<=(k:Int):=by omega
   have i1:(k:Int)<(l.length:Int):=by omega
   have hst:=(((HBL.out.setCell (p:=⟨w.heap.size,k,none⟩) lZ (.int .u64 (new:Int))).drew).cell (p:=⟨b,off+k,none⟩) hb1).trans hc1;clear hd he hc1 hz hB hrl hsum;go_wp2_with fail;go_region_held3 (fun w'=>w'.cell? ⟨b,off+k,none⟩=some (.int .u64 d)) ((simp [*])) (first
    |(
     go_at_call 166;go_fit (HC.out);rintro e1 w2 ⟨rfl,hw2⟩
     subst hw2))
   go_wp2;go_roundw
   case rel=>exact⟨k+1,rs.set k new,by omega,by go_num,(HB.out.set k _).drew,by rw[List.length_set];exact HRL.out,HRS.out.set k hnew,HST.out,(HBL.out.setCell lZ _).drew⟩
   case measure=>simp[intOf];omega
  ·
   have e1:k=l.length:=by omega
   have hvv:val 18446744073709551616 rs=val 18446744073709551616 l / 2 ^ s:=by
    have e2:=HV.out;rw[e1,List.take_of_length_le (by have:=HRL.out;omega),List.take_length,Qbk l l.length lZ,Nat.zero_mod,Nat.mul_zero,Nat.add_zero] at e2;have e3:l.getD 0 0 % 2 ^ s<2 ^ s:=Nat.mod_lt _ (Nat.two_pow_pos _);rw[<-e2,Nat.mul_comm,Nat.mul_add_div (Nat.two_pow_pos _),Nat.div_eq_of_lt e3,Nat.add_zero]
   have HQ:=Hi hvv;clear hrl hB hvv;go_wp2_with fail;refine(Qcr w.heap.size l.length l.length (val 18446744073709551616 l / 2 ^ s) rs _ HB.out.pre HRS.out (by rw[HRL.out];omega) (by rw[HRL.out];exact Nat.le_refl _) lZ (by rw[List.take_of_length_le (by rw[HRL.out];exact Nat.le_refl _)];exact HQ.out)).mono ?_;rintro e w1 ⟨⟨r,rfl,hu,_⟩,rfl⟩;have HU:=Hi hu;clear hu;go_wp2;go_ret;exact⟨⟨rs,r,rfl,HU.out⟩,HBL.out⟩
structure Tops (a2 a1 a0 d1 d0 P lw lv W V:Nat):Prop where
 hP:0<P
 hW:W=(a2*18446744073709551616+a1)*(18446744073709551616*P)+a0*P+lw
 hV:V=d1*(18446744073709551616*P)+d0*P+lv
 hlw:lw<P
 hd1:0<d1
 hWV:W<18446744073709551616*V
 b2:a2<18446744073709551616
 b1:a1<18446744073709551616
 b0:a0<18446744073709551616
 c1:d1<18446744073709551616
 c0:d0<18446744073709551616
theorem Tops.pos{a2 a1 a0 d1 d0 P lw lv W V:Nat}(t:Tops a2 a1 a0 d1 d0 P lw lv W V):0<V:=by
 have:=t.hWV;rcases Nat.eq_zero_or_pos V with h|h
 · subst h;omega
 · exact h
theorem Tops.all{a2 a1 a0 d1 d0 P lw lv W V:Nat}(t:Tops a2 a1 a0 d1 d0 P lw lv W V):W / V<=18446744073709551615:=by
 have h:=t.hWV;have:W / V<18446744073709551616:=by rw[Nat.div_lt_iff_lt_mul t.pos];exact h
 omega
theorem Qqj{high low r a0 t:Nat}(ht:low+18446744073709551616*high=t)(hl:low<18446744073709551616)(ha:a0<18446744073709551616):(high<r∨(high=r/\low<=a0))↔t<=r*18446744073709551616+a0:=by omega
set_option maxRecDepth 100000 in
set_option maxHeartbeats 2000000 in
theorem Qqk(a2 a1 a0 d1 d0 P lw lv W V:Nat)(w:World)(t:Tops a2 a1 a0 d1 d0 P lw lv W V):
 Calls Tryz.prog 181 #[.int .u64 a2,.int .u64 a1,.int .u64 a0,.int .u64 d1,.int .u64 d0] w fun e w'=>∃q:Nat,e=.returned (.int .u64 (q:Int))/\q<18446744073709551616/\W / V<=q/\∃n,w'=w.drewN n:=by
 have HT:=Hi t;have b2:=t.b2;have b1:=t.b1;have b0:=t.b0;have c1:=t.c1;have c0:=t.c0;clear t;by_cases hA:d1<=a2
 ·
  go_enter Tryz.func181,Tryz.ntmps181;go_wp2;go_ret;exact⟨18446744073709551615,rfl,by omega,HT.out.all,0,rfl⟩
 ·
  obtain⟨q,r,hq,hr,hqr,hcd⟩:=div64 a2 a1 d1 (by omega) b1 c1;have HCD:=Hi hcd;have HST:Hid (W / V<=q):=Hi (by
   have h1:=Qin 18446744073709551616 P (a2*18446744073709551616+a1) a0 lw d1 d0 lv W V HT.out.hP (by decide) HT.out.hW HT.out.hV HT.out.hlw b0 HT.out.hd1;have h2:(a2*18446744073709551616+a1) / d1=q:=by
    rw[show a2*18446744073709551616+a1=d1*q+r by omega,Nat.mul_add_div HT.out.hd1,Nat.div_eq_of_lt hr,Nat.add_zero]
   rw[h2] at h1
   exact h1)
  have HQR:Hid (q*d1+r=a2*18446744073709551616+a1):=Hi (by rw[Nat.mul_comm];omega);clear hcd hqr;go_enter Tryz.func181,Tryz.ntmps181;go_wp2_with fail;refine(HCD.out _).mono ?_;rintro e w1 ⟨rfl,n1,hw1⟩;go_wp2_with fail;go_loop [11,12] (fun qv rv=>∃q r:Nat,qv=.int .u64 q/\rv=.int .u64 r/\q<18446744073709551616/\r<18446744073709551616/\q*d1+r=a2*18446744073709551616+a1/\W / V<=q) (fun qv _=>(intOf qv).toNat)
  case atStart=>exact⟨q,r,rfl,rfl,hq,by omega,HQR.out,HST.out⟩
  case round=>
   clear hq hr HCD HST HQR;obtain⟨q,r,rfl,rfl,hq,hr,hqr,hle⟩:=hrel;obtain⟨high,low,hh,hl,hhl,hcm⟩:=mul64 q d0 hq c0;have HCM:=Hi hcm;have HLE:=Hi hle;have HQR:=Hi hqr;have HIF:=Hi (Qqj (r:=r) hhl hl b0);clear hcm hle hqr hhl;by_cases hc1:high<r
   ·
    have hc1':(high:Int)<(r:Int):=by omega
    go_wp2_with fail;refine(HCM.out _).mono ?_;rintro e w2 ⟨rfl,hw2⟩;go_wp2;go_ret;exact⟨q,rfl,hq,HLE.out,n1,rfl⟩
   by_cases hc2:high=r
   ·
    subst hc2;have hc1':¬((high:Int)<(high:Int)):=by omega
    by_cases hc3:low<=a0
    ·
     have hc3':(low:Int)<=(a0:Int):=by omega
     go_wp2_with fail;refine(HCM.out _).mono ?_;rintro e w2 ⟨rfl,hw2⟩;go_wp2;go_ret;exact⟨q,rfl,hq,HLE.out,n1,rfl⟩
    ·
     have hc3':¬((low:Int)<=(a0:Int)):=by omega
     have HGT:Hid (high*18446744073709551616+a0<q*d0):=Hi (Nat.lt_of_not_le (fun h=>by have:=HIF.out.2 h;omega));have HLT:Hid (W / V<q):=Hi (Qfe 18446744073709551616 P (a2*18446744073709551616+a1) a0 lw d1 d0 lv W V q high HT.out.hP HT.out.hW HT.out.hV HT.out.hlw HT.out.pos HQR.out HGT.out);obtain⟨qm,hqm⟩:∃qm,q=qm+1:=⟨q - 1,by have:=Nat.lt_of_le_of_lt (Nat.zero_le _) HLT.out;omega⟩;have eq1:(q:Int) - 1=(qm:Int):=by omega
     have hqmb:qm<18446744073709551616:=by omega
     have HQM:=Hi hqm;have HQR1:Hid (qm*d1+(high+d1)=a2*18446744073709551616+a1):=Hi (by have:=HQR.out;rw[hqm,Nat.succ_mul] at this;omega);have HQ1:Hid (W / V<=qm):=Hi (by have h:=HLT.out;rw[hqm] at h;exact Nat.le_of_lt_succ h);clear hqm;by_cases hov:high+d1<18446744073709551616
     ·
      have hov':¬((high:Int)+(d1:Int)<(d1:Int)):=by omega
      go_wp2_with fail;refine(HCM.out _).mono ?_;rintro e w2 ⟨rfl,hw2⟩;subst hw2;go_wp2_with fail;go_round
      case rel=>exact⟨qm,high+d1,by go_num,by go_num,hqmb,hov,HQR1.out,HQ1.out⟩
      case measure=>have:=HQM.out;simp[intOf];omega
     ·
      obtain⟨r2,hr2⟩:∃r2,high+d1=r2+18446744073709551616:=⟨high+d1 - 18446744073709551616,by omega⟩;have ew:IntKind.u64.wrap ((high:Int)+(d1:Int))=(r2:Int):=by rw[Qaq];omega
      have hlt2:(r2:Int)<(d1:Int):=by omega
      clear hr2 hov;go_wp2_with fail;refine(HCM.out _).mono ?_;rintro e w2 ⟨rfl,hw2⟩;go_wp2;go_ret;exact⟨qm,rfl,hqmb,HQ1.out,n1,rfl⟩
   ·
    have hc1':¬((high:Int)<(r:Int)):=by omega
    have hc2':((high:Int) == (r:Int))=false:=by rw[beq_eq_false_iff_ne];omega
    have HGT:Hid (r*18446744073709551616+a0<q*d0):=Hi (Nat.lt_of_not_le (fun h=>by have:=HIF.out.2 h;omega));have HLT:Hid (W / V<q):=Hi (Qfe 18446744073709551616 P (a2*18446744073709551616+a1) a0 lw d1 d0 lv W V q r HT.out.hP HT.out.hW HT.out.hV HT.out.hlw HT.out.pos HQR.out HGT.out);obtain⟨qm,hqm⟩:∃qm,q=qm+1:=⟨q - 1,by have:=Nat.lt_of_le_of_lt (Nat.zero_le _) HLT.out;omega⟩;have eq1:(q:Int) - 1=(qm:Int):=by omega
    have hqmb:qm<18446744073709551616:=by omega
    have HQM:=Hi hqm;have HQR1:Hid (qm*d1+(r+d1)=a2*18446744073709551616+a1):=Hi (by have:=HQR.out;rw[hqm,Nat.succ_mul] at this;omega);have HQ1:Hid (W / V<=qm):=Hi (by have h:=HLT.out;rw[hqm] at h;exact Nat.le_of_lt_succ h);clear hqm;by_cases hov:r+d1<18446744073709551616
    ·
     have hov':¬((r:Int)+(d1:Int)<(d1:Int)):=by omega
     go_wp2_with fail;refine(HCM.out _).mono ?_;rintro e w2 ⟨rfl,hw2⟩;subst hw2;go_wp2_with fail;go_round
     case rel=>exact⟨qm,r+d1,by go_num,by go_num,hqmb,hov,HQR1.out,HQ1.out⟩
     case measure=>have:=HQM.out;simp[intOf];omega
    ·
     obtain⟨r2,hr2⟩:∃r2,r+d1=r2+18446744073709551616:=⟨r+d1 - 18446744073709551616,by omega⟩;have ew:IntKind.u64.wrap ((r:Int)+(d1:Int))=(r2:Int):=by rw[Qaq];omega
     have hlt2:(r2:Int)<(d1:Int):=by omega
     clear hr2 hov;go_wp2_with fail;refine(HCM.out _).mono ?_;rintro e w2 ⟨rfl,hw2⟩;go_wp2;go_ret;exact⟨qm,rfl,hqmb,HQ1.out,n1,rfl⟩
theorem Qdz{B:Nat}{u w:World}(h:Below B u w)(n:Nat):Below B u (w.drewN n):=⟨h.os,h.tape,h.output,h.size,h.block⟩
theorem RowDone.trans{w w1 w2:World}{g off n:Nat}{rs r1 r2:List Nat}(h:RowDone w w1 g off n rs r1)(k:RowDone w1 w2 g off n r1 r2):RowDone w w2 g off n rs r2:=
 ⟨k.blk,k.len.trans h.len,k.small,h.only.trans k.only,fun p hp=>(k.out p hp).trans (h.out p hp)⟩
theorem Qq2{B j x:Nat}{us vs:List Nat}(hB:0<B)(hj:j<=us.length)(hl:vs.length=us.length)(hbel:∀p,p<j->vs.getD p 0=us.getD p 0)(t:Nat)(h:val B vs+B ^ j*x=val B us+B ^ j*t):val B (vs.drop j)+x=val B (us.drop j)+t:=by
 have e1:vs.take j=us.take j:=by
  apply List.ext_getElem
  · simp[hl]
  ·
   intro i h1 h2;have hi:i<j:=by simp at h1;omega
   have:=hbel i hi;rw[List.getD_eq_getElem?_getD,List.getD_eq_getElem?_getD,gE (by simp at h1;omega),gE (by simp at h2;omega)] at this;simp only[List.getElem_take]
   simpa using this
 rw[Qaj B vs j (by omega),Qaj B us j hj,e1] at h;have h2:B ^ j*(val B (vs.drop j)+x)=B ^ j*(val B (us.drop j)+t):=by rw[Nat.mul_add,Nat.mul_add];omega
 exact Nat.eq_of_mul_eq_mul_left (Nat.pow_pos hB) h2
theorem Qq3{B e y top lack bo X Y:Nat}{us1:List Nat}(he:e<us1.length)(hy:us1.getD e 0=y)(h:val B us1+X=Y+B ^ e*lack)(ht:top+lack=y+B*bo):val B (us1.set e top)+X=Y+B ^ (e+1)*bo:=by
 have h1:=Qbd B us1 e top he;rw[hy] at h1;have h2:B ^ e*(top+lack)=B ^ e*(y+B*bo):=by rw[ht]
 rw[Nat.mul_add,Nat.mul_add,<-Nat.mul_assoc] at h2;rw[Nat.pow_succ];omega
theorem Qq4{B e y top c top2 ca bo Dj Y qD:Nat}{us1 us2:List Nat}(he:e<us1.length)(he2:e<us2.length)(hy:us1.getD e 0=y)(hy2:us2.getD e 0=y)(h:val B (us1.set e top)+(qD+Dj)=Y+B ^ (e+1)*(bo+ca))(ha:val B us2+B ^ e*c=val B us1+Dj)(ht:top2+B*ca=top+c):val B (us2.set e top2)+qD=Y+B ^ (e+1)*bo:=by
 have h1:=Qbd B us1 e top he;have h3:=Qbd B us2 e top2 he2;rw[hy] at h1;rw[hy2] at h3;have h2:B ^ e*(top2+B*ca)=B ^ e*(top+c):=by rw[ht]
 rw[Nat.mul_add,Nat.mul_add,<-Nat.mul_assoc] at h2;rw[Nat.pow_succ,Nat.mul_add] at h;rw[Nat.pow_succ];omega
theorem Qq5{r q D L:Nat}(hD:0<D)(h:r+q*D=L)(hq:L / D<=q):r<D:=by
 have h1:q<=L / D:=(Nat.le_div_iff_mul_le hD).2 (by omega);have h2:=Nat.div_add_mod L D;have h3:=Nat.mod_lt L hD;have h4:L / D=q:=by omega
 rw[h4,Nat.mul_comm] at h2;omega
theorem Qq6{r q D L T:Nat}(hD:0<D)(h:r+q*D=L+T)(hr:r<T):L / D<q:=by
 rw[Nat.div_lt_iff_lt_mul hD];omega
set_option maxRecDepth 100000 in
set_option maxHeartbeats 4000000 in
theorem Qq7(g j n cap N p:Nat)(us:List Nat)(a2:Option Addr)(c2:Nat)(m:List Nat)(D:Nat)(w:World)(hB:Blk .u64 123 w g us)(hsm:Small 18446744073709551616 us)(hm:U64 w a2 c2 m D)(hn:m.length=N)(hNn:N=n+2)(hpn:p=n+1)(hne:∀b o,a2=some ⟨b,o,none⟩->b≠g)
 (hj:j+N+1<=us.length) (hz:val 18446744073709551616 (us.drop (j+N+1))=0) (hL:val 18446744073709551616 (us.drop j)<18446744073709551616*D) (hcap:N+1<=cap):
 Calls Tryz.prog 161 #[.slice (some ⟨g,j,none⟩) (N+1) cap,.slice a2 N c2] w fun e w'=>∃(q:Nat) (us':List Nat),e=.returned (.int .u64 (q:Int))/\q<18446744073709551616/\RowDone w w' g j (N+1) us us'/\val 18446744073709551616 us'+18446744073709551616 ^ j*(q*D)=val 18446744073709551616 us/\val 18446744073709551616 (us'.drop j)<D:=by
 have hms:=hm.short;rw[hn] at hms;have HB0:=Hi hB;have HSM:=Hi hsm;have HM:=Hi hm;have HNE:=Hi hne;obtain⟨b,o,rfl,hb1,hd1⟩:=hm.row.cell p (by omega);obtain⟨b',o',hbb,hb2,hd0⟩:=hm.row.cell n (by omega);obtain⟨rfl,rfl⟩:b=b'/\o=o':=by simpa using hbb
 obtain⟨x1,hx1⟩:∃x,m.getD p 0=x:=⟨_,rfl⟩;obtain⟨x0,hx0⟩:∃x,m.getD n 0=x:=⟨_,rfl⟩;rw[hx1] at hd1;rw[hx0] at hd0;obtain⟨y2,hy2⟩:∃x,us.getD (j+N) 0=x:=⟨_,rfl⟩;obtain⟨y1,hy1⟩:∃x,us.getD (j+p) 0=x:=⟨_,rfl⟩;obtain⟨y0,hy0⟩:∃x,us.getD (j+n) 0=x:=⟨_,rfl⟩;have k2:=hB.cell (j+N) (by omega);have k1:=hB.cell (j+p) (by omega);have k0:=hB.cell (j+n) (by omega);rw[hy2] at k2;rw[hy1] at k1;rw[hy0] at k0;have hx1p:0<x1:=by
  rcases hm.num.trim with h|h
  · rw[h] at hn;simp at hn;omega
  · rw[hn,hNn,show n+2 - 1=p by omega,hx1] at h;omega
 have ht:Tops y2 y1 y0 x1 x0 (18446744073709551616 ^ n) (val 18446744073709551616 ((us.drop j).take n)) (val 18446744073709551616 (m.take n)) (val 18446744073709551616 (us.drop j)) D:=by
  refine⟨Nat.pow_pos (by decide),?_,?_,?_,hx1p,hL,?_,?_,?_,?_,?_⟩
  · rw[Qip 18446744073709551616 us j n (by omega) (by rw[show j+n+3=j+N+1 by omega];exact hz),show j+n+2=j+N by omega,show j+n+1=j+p by omega,hy2,hy1,hy0]
  · rw[<-hm.num.eq,Qiq 18446744073709551616 m n (by omega),<-hpn,hx1,hx0]
  ·
   have:=Qab (B:=18446744073709551616) (by decide) ((hsm.drop j).take n);rw[List.length_take,List.length_drop,Nat.min_eq_left (by omega)] at this;exact this
  · rw[<-hy2];exact hsm.getD (by decide) _
  · rw[<-hy1];exact hsm.getD (by decide) _
  · rw[<-hy0];exact hsm.getD (by decide) _
  · rw[<-hx1];exact hm.num.small.getD (by decide) _
  · rw[<-hx0];exact hm.num.small.getD (by decide) _
 have HT:=Hi ht;have HY2:=Hi hy2;have HZ:=Hi hz;have HN:=Hi hn;have hy2b:=ht.b2;have w1':IntKind.i64.wrap ((N:Int) - 1)=(p:Int):=by rw[Qa0 _ (by omega) (by omega)];omega
 have w2':IntKind.i64.wrap ((N:Int) - 2)=(n:Int):=by rw[Qa0 _ (by omega) (by omega)];omega
 have i0:(0:Int)<=(N:Int):=by omega
 have i1:(N:Int)<(N:Int)+1:=by omega
 have i2:(0:Int)<=(p:Int):=by omega
 have i3:(p:Int)<(N:Int)+1:=by omega
 have i4:(p:Int)<(N:Int):=by omega
 have i5:(0:Int)<=(n:Int):=by omega
 have i6:(n:Int)<(N:Int)+1:=by omega
 have i7:(n:Int)<(N:Int):=by omega
 clear hB hsm hm hne ht hx1 hx0 hy2 hy1 hy0 hx1p hz hL hbb hNn hpn hn;go_enter Tryz.func161,Tryz.ntmps161;go_wp2_with fail;go_region_held3 (fun w'=>w'.cell? ⟨g,j+N,none⟩=some (.int .u64 y2)/\w'.cell? ⟨g,j+p,none⟩=some (.int .u64 y1)/\w'.cell? ⟨g,j+n,none⟩=some (.int .u64 y0)/\w'.cell? ⟨b,o+p,none⟩=some (.int .u64 x1)/\w'.cell? ⟨b,o+n,none⟩=some (.int .u64 x0)) ((simp [*])) (first|(go_at_call 181;go_fit (Qqk y2 y1 y0 x1 x0 _ _ _ _ D _ HT.out);rintro e w1 ⟨q,rfl,hq,hqL,n1,hw1⟩;subst hw1));have hd0:0<D:=HT.out.pos;have HO1:Hid (Only g w (w.drewN (1+n1))):=Hi ((Only.refl g w).drewN _);have HB1:Hid (Blk .u64 123 (w.drewN (1+n1)) g us):=Hi HB0.out;have HM1:Hid (U64 (w.drewN (1+n1)) (some ⟨b,o,none⟩) c2 m D):=Hi (HM.out.below (Qdz bR _));have HQL:=Hi hqL;clear hqL;go_wp2_with fail;generalize w.drewN (1+n1)=W1 at*
 have hC:=Qqv g j cap us (some ⟨b,o,none⟩) c2 m q W1 HB1.out HSM.out HM1.out.row HM1.out.num.small HM1.out.short hq (by have:=HN.out;omega) (by have:=HN.out;omega) HNE.out;rw[HN.out,HM.out.num.eq] at hC;refine hC.mono ?_;rintro e w2 ⟨lack,us1,rfl,hlb,hdone,hval⟩;have hlen1:us1.length=us.length:=hdone.len;have hyy:us1.getD (j+N) 0=y2:=by rw[hdone.out _ (.inr lZ)];exact HY2.out
 have kk:=hdone.blk.cell (j+N) (by omega);rw[hyy] at kk;obtain⟨top,bo,htb,hbb,htl,hcs⟩:=Qi6 y2 lack hy2b hlb;have HE:=Hi (Qq3 (by omega) hyy hval htl);have HD:=Hi (show RowDone w w2 g j N us us1 from ⟨hdone.blk,hdone.len,hdone.small,HO1.out.trans hdone.only,hdone.out⟩);clear hC hdone hval hyy htl HM1 HB1 k0 k1 k2 hlen1;go_wp2_with (simp only[hcs]);clear kk hcs;go_loopw [6,8,9] (fun qv tv bv wr=>∃(q top bo:Nat) (u1:List Nat),qv=.int .u64 q/\tv=.int .u64 top/\bv=.int .u64 bo/\q<18446744073709551616/\top<18446744073709551616/\bo<=1/\RowDone w wr g j N us u1/\val 18446744073709551616 (u1.set (j+N) top)+18446744073709551616 ^ j*(q*D)=val 18446744073709551616 us+18446744073709551616 ^ (j+N+1)*bo/\val 18446744073709551616 (us.drop j) / D<=q) (fun qv _ _ _=>(intOf qv).toNat)
 case atStart=>exact⟨q,top,bo,us1,rfl,rfl,rfl,hq,htb,hbb,HD.out,HE.out,HQL.out⟩
 case round=>
  clear hq htb hbb HE HD HQL;obtain⟨q,top,bo,u1,rfl,rfl,rfl,hq,htb,hbb,hdone,hE,hQL⟩:=hrel;have hlen1:u1.length=us.length:=hdone.len;have hyy:u1.getD (j+N) 0=y2:=by rw[hdone.out _ (.inr lZ)];exact HY2.out
  have HLEN:=Hi hlen1;have HYY:=Hi hyy;have HDO:=Hi hdone;have HE:=Hi hE;have HQL:=Hi hQL;have HDR:Hid (val 18446744073709551616 ((u1.set (j+N) top).drop j)+q*D=val 18446744073709551616 (us.drop j)+18446744073709551616 ^ (N+1)*bo):=Hi (by
   refine Qq2 (by decide) (by omega) (by rw[List.length_set];exact hlen1) (fun p hp=>by rw[getD_set_ne _ _ _ _ (by omega)];exact hdone.out p (.inl hp)) _ ?_
   rw[hE,<-Nat.mul_assoc,<-Nat.pow_add,Nat.add_assoc])
  have HSMALL:Hid (val 18446744073709551616 ((u1.set (j+N) top).drop j)<18446744073709551616 ^ (N+1)):=Hi (by
   have hs:=(hdone.small.set (j+N) htb).drop j;have hlt:=Qab (B:=18446744073709551616) (by decide) (hs.take (N+1));rw[List.length_take,List.length_drop,List.length_set,Nat.min_eq_left (by omega)] at hlt;rw[Qaj 18446744073709551616 _ (N+1) (by rw[List.length_drop,List.length_set];omega),List.drop_drop];have hz0:val 18446744073709551616 ((u1.set (j+N) top).drop (j+(N+1)))=0:=by
    apply Qfh;intro i;rw[Qdo,getD_set_ne _ _ _ _ (by omega),hdone.out _ (.inr (by omega))];have:=Qfi 18446744073709551616 (by decide) _ HZ.out i;rw[Qdo] at this;rw[show j+(N+1)+i=j+N+1+i by omega];exact this
   rw[hz0,Nat.mul_zero,Nat.add_zero]
   exact hlt)
  by_cases hb0:bo=0
  ·
   subst hb0;have g1:=hdone.blk.free (j+N);have g2:=hdone.blk.cell (j+N) (by omega);rw[hyy] at g2;clear hdone hE hQL hlen1 hyy;go_wp2;go_ret;refine⟨q,u1.set (j+N) top,rfl,hq,⟨HDO.out.blk.set _ _,by rw[List.length_set];exact HLEN.out,HDO.out.small.set _ htb,HDO.out.only.setCell _ _,fun p hp=>by rw[getD_set_ne _ _ _ _ (by omega)];exact HDO.out.out p (by omega)⟩,by have:=HE.out;rw[Nat.mul_zero,Nat.add_zero] at this;exact this,?_⟩;have:=HDR.out;rw[Nat.mul_zero,Nat.add_zero] at this;exact Qq5 hd0 this HQL.out
  ·
   have hb1:bo=1:=by omega
   subst hb1;have HGT:Hid (val 18446744073709551616 (us.drop j) / D<q):=Hi (Qq6 hd0 (by have:=HDR.out;rw[Nat.mul_one] at this;exact this) HSMALL.out);obtain⟨qm,hqm⟩:∃qm,q=qm+1:=⟨q - 1,by have:=Nat.lt_of_le_of_lt (Nat.zero_le _) HGT.out;omega⟩;have eq1:(q:Int) - 1=(qm:Int):=by omega
   have hqmb:qm<18446744073709551616:=by omega
   have HQM:=Hi hqm;have HQ1:Hid (val 18446744073709551616 (us.drop j) / D<=qm):=Hi (by have h:=HGT.out;rw[hqm] at h;exact Nat.le_of_lt_succ h);have hC:=Qqw g j cap u1 (some ⟨b,o,none⟩) c2 m wr HDO.out.blk HDO.out.small (HM.out.row.onlyG HDO.out.only HNE.out) HM.out.num.small HM.out.short (by have:=HN.out;omega) (by have:=HN.out;omega) HNE.out;rw[HN.out,HM.out.num.eq] at hC;have HC:=Hi hC;clear hdone hE hQL hlen1 hyy hqm hC;go_wp2_with fail;refine HC.out.mono ?_;rintro e w3 ⟨c,u2,rfl,hcb,hdone2,hval2⟩;obtain⟨top2,ca,ht2b,hcab,ht2,hca⟩:=Qcn top c htb (by omega);have hy2':u2.getD (j+N) 0=y2:=by rw[hdone2.out _ (.inr lZ)];exact HYY.out
   have HDO2:=Hi (HDO.out.trans hdone2);have HE2:Hid (val 18446744073709551616 (u2.set (j+N) top2)+18446744073709551616 ^ j*(qm*D)=val 18446744073709551616 us+18446744073709551616 ^ (j+N+1)*(1 - ca)):=Hi (by
    have h:=HE.out;rw[HQM.out,Nat.succ_mul,Nat.mul_add] at h;rw[Nat.one_mul] at hval2;have hl2:=hdone2.len;have hl1:=HLEN.out;refine Qq4 (us1:=u1) (us2:=u2) (by omega) (by omega) HYY.out hy2' ?_ hval2 ht2;rw[show 1 - ca+ca=1 by omega]
    exact h)
   have ebo:(1:Int) - (ca:Int)=((1 - ca:Nat):Int):=by omega
   obtain⟨b2,hb2'⟩:∃b2,1 - ca=b2:=⟨_,rfl⟩;rw[hb2'] at HE2 ebo;have hb2b:b2<=1:=by omega
   clear hdone2 hval2 ht2 hy2' HC hb2';go_wp2_with (simp only[hca]);go_roundw
   case rel=>exact⟨qm,top2,b2,u2,by go_num,rfl,by go_num,hqmb,ht2b,hb2b,HDO2.out,HE2.out,HQ1.out⟩
   case measure=>have:=HQM.out;simp[intOf];omega
end Go.Proofs.YtfpcipgoedifaaaGreatDoor
