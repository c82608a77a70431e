/- num's compareNats, addNats, subtractNats. -/
import Derived.Test.YtodfmpjhcmapmaaGreatDoorN13RatNeg
namespace Go.Proofs.YtodfmpjhcmapmaaGreatDoor
open Go.RowKit
set_option linter.unusedVariables false
set_option linter.unusedSimpArgs false
theorem RBag.mono{w0 w1 w:World}{L M:List (Nat × Rat × Nat)}(h:RBag w1 w L)(hb:Below w0.heap.size w0 w1)(hm:∀t,t∈ M→∃k,(t.1,t.2.1,k)∈ L∧k≤t.2.2):RBag w0 w M:=by
 refine⟨hb.trans (h.base.mono hb.size),h.glob,fun t ht=>?_⟩;obtain⟨k,hk,hle⟩:=hm t ht;have:=h.ts _ hk;exact⟨this.1,this.2.1.mono hle,Nat.lt_of_lt_of_le this.2.2 hle⟩
theorem SB.other{w:World}{b g:Nat}{t:TypeId}{C:Array Value}(h:SB w b t C)(hne:b≠g)(i:Nat)(v:Value):SB (w.setCell ⟨g,i,none⟩ v) b t C:=by
 unfold SB at h ⊢;rw[Below.heap_setCell _ _ _ _ hne];exact h
structure U64 (w:World) (a:Option Addr) (cap:Nat) (l:List Nat) (n:Nat):Prop where
 row:Row .u64 w a cap l
 num:Num 18446744073709551616 l n
 short:l.length≤1099511627776
theorem U64.below{w w':World}{a:Option Addr}{cap:Nat}{l:List Nat}{n:Nat}(h:U64 w a cap l n)(hb:Below w.heap.size w w'):U64 w' a cap l n:=⟨h.row.below hb,h.num,h.short⟩
theorem U64.drew{w:World}{a:Option Addr}{cap:Nat}{l:List Nat}{n:Nat}(h:U64 w a cap l n):U64 w.drew a cap l n:=h.below (Below.refl _ _).drew
theorem U64.nil(w:World):U64 w none 0 [] 0:=⟨Row.nil _ _,Num.zero _,by simp⟩
theorem Qcj(L:Int)(n:Nat)(hL:L=n)(hn:n≤2199023255552)(w:World):
 (Instr.makeSlice 60 (.int .i64 L) (.int .i64 L)).run Tryz.prog w=.ok (.slice (some ⟨w.heap.size,0,none⟩) n n) (w.alloc (.cells (wordCells .u64 (zeros n)) 81)):=by
 subst hL;rw[←Qci];exact Go.run_make_row' 60 81 (.int .u64 0) 8 Tryz.underlying60 Tryz.info64 rfl .i64 .i64 n (by omega) (by omega) w
theorem add64(x y c:Nat)(hx:x<18446744073709551616)(hy:y<18446744073709551616)(hc:c≤1):∃r d:Nat,r<18446744073709551616∧d≤1∧r+18446744073709551616*d=x+y+c∧
 ∀w,(callFunc 180 #[.int .u64 x,.int .u64 y,.int .u64 c]).run Tryz.prog w=.ok (.value (.tuple #[.int .u64 (r:Int),.int .u64 (d:Int)])) w:=
 ⟨(x+y+c) % 18446744073709551616,(x+y+c) / 18446744073709551616,by omega,by omega,by omega,fun w=>Any7.bits_Add64 Tryz.lays25 x y c hc w⟩
theorem Qck(x y:Nat)(hx:x<18446744073709551616)(hy:y<18446744073709551616):∃r d:Nat,r<18446744073709551616∧d≤1∧r+18446744073709551616*d=x+y∧
 ∀w,(callFunc 180 #[.int .u64 x,.int .u64 y,.int .u64 0]).run Tryz.prog w=.ok (.value (.tuple #[.int .u64 (r:Int),.int .u64 (d:Int)])) w:=
 add64 x y 0 hx hy (by decide)
theorem sub64(x y c:Nat)(hx:x<18446744073709551616)(hy:y<18446744073709551616)(hc:c≤1):∃r d:Nat,r<18446744073709551616∧d≤1∧r+c+y=x+18446744073709551616*d∧
 ∀w,(callFunc 179 #[.int .u64 x,.int .u64 y,.int .u64 c]).run Tryz.prog w=.ok (.value (.tuple #[.int .u64 (r:Int),.int .u64 (d:Int)])) w:=by
 refine⟨(x+18446744073709551616 - y - c) % 18446744073709551616,if x<y+c then 1 else 0,by omega,by split<;>omega,by split<;>omega,fun w=>Any7.bits_Sub64 Tryz.lays26 x y c hc w⟩
theorem Qgz(x y:Nat)(hx:x<18446744073709551616)(hy:y<18446744073709551616):∃r d:Nat,r<18446744073709551616∧d≤1∧r+y=x+18446744073709551616*d∧
 ∀w,(callFunc 179 #[.int .u64 x,.int .u64 y,.int .u64 0]).run Tryz.prog w=.ok (.value (.tuple #[.int .u64 (r:Int),.int .u64 (d:Int)])) w:=
 sub64 x y 0 hx hy (by decide)
theorem mul64(x y:Nat)(hx:x<18446744073709551616)(hy:y<18446744073709551616):∃h l:Nat,h<18446744073709551616∧l<18446744073709551616∧l+18446744073709551616*h=x*y∧
 ∀w,Calls Tryz.prog 153 #[.int .u64 x,.int .u64 y] w fun e w'=>e=.returned (.tuple #[.int .u64 (h:Int),.int .u64 (l:Int)])∧w'=w:=by
 refine⟨x*y / 18446744073709551616,x*y % 18446744073709551616,?_,Nat.mod_lt _ (by decide),Nat.mod_add_div _ _,fun w=>Any.bits_Mul64 Tryz.lays264 x y hx hy w⟩;rw[Nat.div_lt_iff_lt_mul (by decide)];exact Nat.mul_lt_mul'' hx hy
set_option maxHeartbeats 400000 in
theorem Qbh(a:Option Addr)(cap:Nat)(l:List Nat)(i:Nat)(w:World)(h:Row .u64 w a cap l)(hl:l.length≤1099511627776)(hi:i≤2199023255552):
 Calls Tryz.prog 113 #[.slice a l.length cap,.int .i64 i] w fun e w'=>e=.returned (.int .u64 ((l.getD i 0:Nat):Int))∧w'=w:=by
 by_cases hlt:i<l.length
 ·
  obtain⟨b,off,rfl,hb,hc⟩:=h.cell i hlt;obtain⟨d,hd⟩:∃d,l.getD i 0=d:=⟨_,rfl⟩;rw[hd] at hc;rw[hd];clear hd h;go_enter Tryz.func113,Tryz.ntmps113;go_wp2;go_ret;exact⟨rfl,rfl⟩
 ·
  rw[Qbm l i (by omega)];clear h;go_enter Tryz.func113,Tryz.ntmps113;go_wp2;go_ret;exact⟨rfl,rfl⟩
theorem Qly(l:List Nat)(k:Nat)(hk:k≤l.length)(h:k=0∨l.getD (k - 1) 0≠0):Trim (l.take k):=by
 rcases h with rfl|h
 · left;simp
 ·
  by_cases h0:k=0
  · left;subst h0;simp
  ·
   right;rw[List.length_take,Nat.min_eq_left hk,List.getD_eq_getElem?_getD,List.getElem?_take_of_lt (by omega),←List.getD_eq_getElem?_getD];exact h
theorem Qlz(l:List Nat)(k:Nat)(hk:k<l.length)(h:l.getD k 0=0):val 18446744073709551616 (l.take (k+1))=val 18446744073709551616 (l.take k):=by
 rw[Qbx _ l k hk,h];simp
set_option maxHeartbeats 400000 in
theorem Qdj(a:Option Addr)(cap:Nat)(l:List Nat)(w:World)(h:Row .u64 w a cap l)(hl:l.length≤1099511627776):
 Calls Tryz.prog 148 #[.slice a l.length cap] w fun e w'=>(∃k,k≤l.length∧e=.returned (.slice a k cap)∧val 18446744073709551616 (l.take k)=val 18446744073709551616 l∧Trim (l.take k))∧w'=w:=by
 have hcap:=h.fit;go_enter Tryz.func148,Tryz.ntmps148;go_wp2;go_loop [3] (fun n=>∃k:Nat,k≤l.length∧n=.int .i64 k∧val 18446744073709551616 (l.take k)=val 18446744073709551616 l) (fun n=>(intOf n).toNat)
 case atStart=>exact⟨l.length,Nat.le_refl _,rfl,by rw[List.take_length]⟩
 case round=>
  obtain⟨k,hk,rfl,hv⟩:=hrel;have HV:Hid (val 18446744073709551616 (l.take k)=val 18446744073709551616 l):=hv;clear hv;by_cases h0:k=0
  ·
   subst h0;rcases h.shape with ⟨rfl,rfl⟩|⟨b,off,rfl,hb⟩
   all_goals
    go_wp2;go_ret;exact⟨⟨0,by omega,by simp,HV.out,.inl (by simp)⟩,rfl⟩
  ·
   obtain⟨b,off,rfl,hb,hc⟩:=h.cell (k - 1) (by omega);obtain⟨j,rfl⟩:∃j,k=j+1:=⟨k - 1,by omega⟩;simp only[Nat.add_sub_cancel] at hc;obtain⟨d,hd⟩:∃d,l.getD j 0=d:=⟨_,rfl⟩;rw[hd] at hc;have HD:Hid (l.getD j 0=d):=hd;clear hd;by_cases hz:d=0
   ·
    subst hz;go_wp2;go_round
    case rel=>exact⟨j,by omega,by go_num,(Qlz l j (by omega) HD.out).symm.trans HV.out⟩
    case measure=>simp[intOf]
   ·
    have hz':((d:Int) == 0)=false:=by simp;omega
    go_wp2;go_ret;exact⟨⟨j+1,hk,by simp,HV.out,Qly l (j+1) hk (.inr (by rw[Nat.add_sub_cancel,HD.out];exact hz))⟩,rfl⟩
theorem Qcl(g n cap x:Nat)(rs:List Nat)(w:World)(h:Blk .u64 81 w g rs)(hl:rs.length=n)(hs:Small 18446744073709551616 rs)(hc:n≤cap)(hn:n≤1099511627776)(hx:val 18446744073709551616 rs=x):
 Calls Tryz.prog 148 #[.slice (some ⟨g,0,none⟩) n cap] w fun e w'=>(∃r,e=.returned (.slice (some ⟨g,0,none⟩) r.length cap)∧U64 w (some ⟨g,0,none⟩) cap r x)∧w'=w:=by
 have hR:=h.row n (by omega) cap hc;rw[List.take_of_length_le (by omega)] at hR;have hT:=Qdj (some ⟨g,0,none⟩) cap rs w hR (by omega);rw[hl] at hT;refine hT.mono ?_;rintro e w1 ⟨⟨q,hq,rfl,hqv,hqt⟩,rfl⟩;have hql:(rs.take q).length=q:=by rw[List.length_take];omega
 exact⟨⟨rs.take q,by rw[hql],hR.take q (by omega),⟨hs.take q,hqt,hqv.trans hx⟩,by rw[hql];omega⟩,rfl⟩
theorem Ql0{l:List Nat}(h:Num 18446744073709551616 l 1):l= [1]:=h.inj (by decide) ⟨fun d hd=>by simp at hd;omega,.inr (by simp),by simp[val]⟩
set_option maxHeartbeats 400000 in
theorem Qcm(a:Option Addr)(cap:Nat)(l:List Nat)(n:Nat)(w:World)(h:U64 w a cap l n):
 Calls Tryz.prog 123 #[.slice a l.length cap] w fun e w'=>e=.returned (.bool (decide (n=1)))∧w'=w:=by
 have hs:=h.short;by_cases h1:l.length=1
 ·
  obtain⟨b,off,rfl,hb,hc⟩:=h.row.cell 0 (by omega);obtain⟨d,hd⟩:∃d,l.getD 0 0=d:=⟨_,rfl⟩;rw[hd] at hc;have hn:n=d:=by
   rw[←h.num.eq]
   match l,h1 with
   | [x],_=>simp at hd;simp[val,hd]
  subst hn;rw[Nat.add_zero] at hc;by_cases hd1:n=1
  ·
   subst hd1;clear h hd;go_enter Tryz.func123,Tryz.ntmps123;go_wp2;go_ret;exact⟨rfl,rfl⟩
  ·
   have q1:((n:Int) == 1)=false:=by rw[beq_eq_false_iff_ne];omega
   rw[show decide (n=1)=false by simpa using hd1];clear h hd hd1;go_enter Tryz.func123,Tryz.ntmps123;go_wp2;go_ret;exact⟨by simp[q1],rfl⟩
 ·
  have hn1:n≠1:=fun hc=>h1 (by subst hc;rw[Ql0 h.num];rfl)
  have q1:((l.length:Int) == 1)=false:=by rw[beq_eq_false_iff_ne];omega
  rw[show decide (n=1)=false by simpa using hn1];clear h h1 hn1;go_enter Tryz.func123,Tryz.ntmps123;go_wp2;go_ret;exact⟨rfl,rfl⟩
set_option maxHeartbeats 1000000 in
theorem Qcn(a1 a2:Option Addr)(c1 c2:Nat)(l m:List Nat)(x y:Nat)(w:World)(h1:U64 w a1 c1 l x)(h2:U64 w a2 c2 m y):
 Calls Tryz.prog 145 #[.slice a1 l.length c1,.slice a2 m.length c2] w fun e w'=>e=.returned (.int .i64 (cmp3 x y))∧Below w.heap.size w w':=by
 have s1:=h1.short;have s2:=h2.short;by_cases hlt:l.length<m.length
 ·
  have hne:((l.length:Int) != (m.length:Int))=true:=by rw[bne_iff_ne];omega
  have hr:cmp3 x y= -1:=Qce (by rw[←h1.num.eq,←h2.num.eq];exact Qaq (by omega) h1.num.small h2.num.trim hlt);have HR:Hid (cmp3 x y= -1):=hr;clear hr h1 h2;go_enter Tryz.func145,Tryz.ntmps145;go_wp2;go_ret;exact⟨by rw[HR.out];rfl,Below.refl _ _⟩
 by_cases hgt:m.length<l.length
 ·
  have hne:((l.length:Int) != (m.length:Int))=true:=by rw[bne_iff_ne];omega
  have hr:cmp3 x y=1:=Qc6 (by rw[←h1.num.eq,←h2.num.eq];exact Qaq (by omega) h2.num.small h1.num.trim hgt);have HR:Hid (cmp3 x y=1):=hr;clear hr h1 h2;go_enter Tryz.func145,Tryz.ntmps145;go_wp2;go_ret;exact⟨by rw[HR.out];rfl,Below.refl _ _⟩
 have heq:m.length=l.length:=by omega
 have HE:Hid (m.length=l.length):=heq;rw[heq];have hne:((l.length:Int) != (l.length:Int))=false:=by simp
 clear hlt hgt heq;go_enter Tryz.func145,Tryz.ntmps145;go_wp2;go_loopw [5] (fun i wr=>∃k:Nat,k≤l.length∧i=.int .i64 ((k:Int) - 1)∧l.drop k=m.drop k∧Below w.heap.size w wr) (fun i _=>(intOf i+1).toNat)
 case atStart=>exact⟨l.length,Nat.le_refl _,rfl,by rw[List.drop_of_length_le (Nat.le_refl _),List.drop_of_length_le (by rw[HE.out];exact Nat.le_refl _)],Below.refl _ _⟩
 case round=>
  obtain⟨k,hk,rfl,hd,hb⟩:=hrel;have HD:Hid (l.drop k=m.drop k):=hd;clear hd;by_cases h0:k=0
  ·
   subst h0;go_wp2;go_ret;exact⟨by rw[Qfz (by rw[←h1.num.eq,←h2.num.eq];have:=HD.out;simp at this;rw[this])];rfl,hb⟩
  ·
   obtain⟨j,rfl⟩:∃j,k=j+1:=⟨k - 1,by omega⟩;have hjl:j<l.length:=by omega
   have hjm:j<m.length:=by have:=HE.out;omega
   obtain⟨b,off,rfl,hb1,hc1⟩:=h1.row.cell j hjl;obtain⟨b',off',rfl,hb2,hc2⟩:=h2.row.cell j hjm;obtain⟨d,hd⟩:∃d,l.getD j 0=d:=⟨_,rfl⟩;obtain⟨e,he⟩:∃e,m.getD j 0=e:=⟨_,rfl⟩;rw[hd] at hc1;rw[he] at hc2;have hc1':=(hb.cell (p:=⟨b,off+j,none⟩) hb1).trans hc1;have hc2':=(hb.cell (p:=⟨b',off'+j,none⟩) hb2).trans hc2;have H1:Hid (l.getD j 0=d):=hd;have H2:Hid (m.getD j 0=e):=he;clear hd he hc1 hc2;have ei:((j+1:Nat):Int) - 1=(j:Int):=by omega
   rw[ei];by_cases hlt:d<e
   ·
    go_wp2;go_region
    all_goals
     go_wp2;go_ret;exact⟨by rw[Qce (by rw[←h1.num.eq,←h2.num.eq];exact Qc7 (by omega) h1.num.small j hjl hjm HD.out (by rw[H1.out,H2.out];exact hlt))];rfl,hb.drew⟩
   by_cases hgt:e<d
   ·
    go_wp2;go_region
    all_goals
     go_wp2;go_region
    all_goals
     go_wp2;go_ret;exact⟨by rw[Qc6 (by rw[←h1.num.eq,←h2.num.eq];exact Qc7 (by omega) h2.num.small j hjm hjl HD.out.symm (by rw[H1.out,H2.out];omega))];rfl,hb.drew.drew⟩
   ·
    go_wp2;go_region
    all_goals
     go_wp2;go_region
    all_goals
     go_wp2;go_roundw
     case rel=>exact⟨j,by omega,by go_num,Qf0 hjl hjm HD.out (H1.out.trans ((show d=e by omega).trans H2.out.symm)),hb.drew.drew⟩
     case measure=>simp[intOf]
theorem Ql1(k c d e r c':Nat)(rs l m:List Nat)(hk:k<rs.length)(hd:l.getD k 0=d)(he:m.getD k 0=e)(hr:r+18446744073709551616*c'=d+e+c)
 (h:val 18446744073709551616 (rs.take k)+18446744073709551616 ^ k*c=val 18446744073709551616 (l.take k)+val 18446744073709551616 (m.take k)):
 val 18446744073709551616 ((rs.set k r).take (k+1))+18446744073709551616 ^ (k+1)*c'=val 18446744073709551616 (l.take (k+1))+val 18446744073709551616 (m.take (k+1)):=by
 rw[take_set _ _ _ hk,Qak,List.length_take,Nat.min_eq_left (by omega),Qad,Qad,hd,he,Nat.pow_succ];have e2:18446744073709551616 ^ k*(r+18446744073709551616*c')=18446744073709551616 ^ k*(d+e+c):=by rw[hr]
 rw[Nat.mul_add,Nat.mul_add,Nat.mul_add,←Nat.mul_assoc] at e2;omega
set_option maxHeartbeats 1000000 in
theorem Ql2(a1 a2:Option Addr)(c1 c2:Nat)(l m:List Nat)(x y:Nat)(w:World)(h1:U64 w a1 c1 l x)(h2:U64 w a2 c2 m y)(hl:l.length<1099511627776)(hm:m.length<1099511627776):
 Calls Tryz.prog 161 #[.slice a1 l.length c1,.slice a2 m.length c2] w fun e w'=>(∃a cap r,e=.returned (.slice a r.length cap)∧U64 w' a cap r (x+y))∧Below w.heap.size w w':=by
 obtain⟨n,hn,hnl,hnm⟩:∃n,max l.length m.length=n∧l.length≤n∧m.length≤n:=⟨_,rfl,by omega,by omega⟩;have hmx:max (l.length:Int) (m.length:Int)=(n:Int):=by omega
 have hmk:∀w,(Instr.makeSlice 60 (.int .i64 ((n:Int)+1)) (.int .i64 ((n:Int)+1))).run Tryz.prog w=.ok (.slice (some ⟨w.heap.size,0,none⟩) (n+1) (n+1)) (w.alloc (.cells (wordCells .u64 (zeros (n+1))) 81)):=
  fun w=>Qcj _ (n+1) (by omega) (by omega) w
 have hnb:n<1099511627776:=by omega
 have H1:=Hi h1;have H2:=Hi h2;clear h1 h2 hn;go_enter Tryz.func161,Tryz.ntmps161;go_wp2;clear hmk;go_loopw [7,18] (fun c i wr=>∃(k c':Nat) (rs:List Nat),k≤n∧c'≤1∧c=.int .u64 c'∧i=.int .i64 k∧Blk .u64 81 wr w.heap.size rs∧rs.length=n+1∧Small 18446744073709551616 rs∧
  val 18446744073709551616 (rs.take k)+18446744073709551616 ^ k*c'=val 18446744073709551616 (l.take k)+val 18446744073709551616 (m.take k)∧Below w.heap.size w wr) (fun _ i _=>n - (intOf i).toNat)
 case atStart=>exact⟨0,0,zeros (n+1),by omega,by omega,rfl,rfl,Blk.new _ _ _ _,Qac _,Qah _ _ (by omega),by simp[val],(Below.refl _ _).alloc (Nat.le_refl _) _⟩
 case round=>
  obtain⟨k,c,rs,hk,hc,rfl,rfl,hB,hrl,hrs,hv,hb⟩:=hrel;have HV:=Hi hv;have HRL:=Hi hrl;have HB:=Hi hB;have HRS:=Hi hrs;have HBL:=Hi hb;clear hv hrs hb;by_cases hlt:k<n
  ·
   obtain⟨d,hd⟩:∃d,l.getD k 0=d:=⟨_,rfl⟩;obtain⟨e,he⟩:∃e,m.getD k 0=e:=⟨_,rfl⟩;have hdb:d<18446744073709551616:=by rw[←hd];exact H1.out.num.small.getD (by omega) k
   have heb:e<18446744073709551616:=by rw[←he];exact H2.out.num.small.getD (by omega) k
   obtain⟨r,c',hr,hc',hrc,hcall⟩:=add64 d e c hdb heb hc;obtain⟨z,hz⟩:∃z,rs.getD k 0=z:=⟨_,rfl⟩;have g1:=hB.free k;have g2:=hB.cell k (by omega);rw[hz] at g2;have HC1:=Hi (Qbh a1 c1 l k wr (H1.out.row.below HBL.out) (by omega) (by omega));have HC2:=Hi (Qbh a2 c2 m k wr (H2.out.row.below HBL.out) (by omega) (by omega));rw[hd] at HC1;rw[he] at HC2;have HD1:=Hi hd;have HD2:=Hi he;have HRC:=Hi hrc;clear hd he hz hB hrl hrc;go_wp2_with fail;refine HC1.out.mono ?_;rintro e1 w1 ⟨rfl,hw1⟩;subst hw1;go_wp2_with fail;refine HC2.out.mono ?_;rintro e1 w2 ⟨rfl,hw2⟩;subst hw2;clear HC1 HC2;go_wp2_with (simp only[hcall]);go_roundw
   case rel=>exact⟨k+1,c',rs.set k r,by omega,hc',rfl,by go_num,HB.out.set k _,by rw[List.length_set];exact HRL.out,HRS.out.set k hr,Ql1 k c d e r c' rs l m (by have:=HRL.out;omega) HD1.out HD2.out HRC.out HV.out,HBL.out.setCell (Nat.le_refl _) _⟩
   case measure=>simp[intOf];omega
  ·
   obtain⟨z,hz⟩:∃z,rs.getD n 0=z:=⟨_,rfl⟩;have g1:=hB.free n;have g2:=hB.cell n (by omega);rw[hz] at g2;clear hz hB hrl;go_wp2_with fail;have hl1:(rs.set n c).length=n+1:=by rw[List.length_set];exact HRL.out
   have hB2:Blk .u64 81 (wr.setCell ⟨w.heap.size,n,none⟩ (.int .u64 (c:Int))) w.heap.size (rs.set n c):=HB.out.set n c;have hvv:val 18446744073709551616 (rs.set n c)=x+y:=by
    rw[Qd3 _ _ _ _ HRL.out];have e1:k=n:=by omega
    have e2:=HV.out;rw[e1,Qa2 _ l _ hnl,Qa2 _ m _ hnm,H1.out.num.eq,H2.out.num.eq] at e2;omega
   refine(Qcl w.heap.size (n+1) (n+1) (x+y) (rs.set n c) _ hB2 hl1 (HRS.out.set _ (by omega)) (Nat.le_refl _) (by omega) hvv).mono ?_;rintro e w1 ⟨⟨r,rfl,hu⟩,rfl⟩;go_wp2;go_ret;exact⟨⟨_,_,r,rfl,hu⟩,HBL.out.setCell (Nat.le_refl _) _⟩
set_option maxHeartbeats 1000000 in
theorem Ql3(a1 a2:Option Addr)(c1 c2:Nat)(l m:List Nat)(x y:Nat)(w:World)(h1:U64 w a1 c1 l x)(h2:U64 w a2 c2 m y)(hyx:y≤x):
 Calls Tryz.prog 162 #[.slice a1 l.length c1,.slice a2 m.length c2] w fun e w'=>(∃a cap r,e=.returned (.slice a r.length cap)∧U64 w' a cap r (x - y))∧Below w.heap.size w w':=by
 have s1:=h1.short;have s2:=h2.short;have hml:m.length≤l.length:=by
  apply Classical.byContradiction;intro hc;have:=Qaq (B:=18446744073709551616) (by decide) h1.num.small h2.num.trim (by omega);rw[h1.num.eq,h2.num.eq] at this;omega
 have hmk:∀w,(Instr.makeSlice 60 (.int .i64 (l.length:Int)) (.int .i64 (l.length:Int))).run Tryz.prog w=.ok (.slice (some ⟨w.heap.size,0,none⟩) l.length l.length) (w.alloc (.cells (wordCells .u64 (zeros l.length)) 81)):=
  fun w=>Qcj _ l.length rfl (by omega) w
 have H1:=Hi h1;have H2:=Hi h2;clear h1 h2;go_enter Tryz.func162,Tryz.ntmps162;go_wp2;clear hmk;go_loopw [7,14] (fun c i wr=>∃(k c':Nat) (rs:List Nat),k≤l.length∧c'≤1∧c=.int .u64 c'∧i=.int .i64 k∧Blk .u64 81 wr w.heap.size rs∧rs.length=l.length∧Small 18446744073709551616 rs∧
  val 18446744073709551616 (rs.take k)+val 18446744073709551616 (m.take k)=val 18446744073709551616 (l.take k)+18446744073709551616 ^ k*c'∧Below w.heap.size w wr) (fun _ i _=>l.length - (intOf i).toNat)
 case atStart=>exact⟨0,0,zeros l.length,by omega,by omega,rfl,rfl,Blk.new _ _ _ _,Qac _,Qah _ _ (by omega),by simp[val],(Below.refl _ _).alloc (Nat.le_refl _) _⟩
 case round=>
  obtain⟨k,c,rs,hk,hc,rfl,rfl,hB,hrl,hrs,hv,hb⟩:=hrel;have HV:=Hi hv;have HRL:=Hi hrl;have HB:=Hi hB;have HRS:=Hi hrs;have HBL:=Hi hb;clear hv hrs hb;by_cases hlt:k<l.length
  ·
   obtain⟨b,off,rfl,hb1,hc1⟩:=H1.out.row.cell k hlt;obtain⟨d,hd⟩:∃d,l.getD k 0=d:=⟨_,rfl⟩;obtain⟨e,he⟩:∃e,m.getD k 0=e:=⟨_,rfl⟩;have hdb:d<18446744073709551616:=by rw[←hd];exact H1.out.num.small.getD (by omega) k
   have heb:e<18446744073709551616:=by rw[←he];exact H2.out.num.small.getD (by omega) k
   rw[hd] at hc1;have hc1':=(HBL.out.cell (p:=⟨b,off+k,none⟩) hb1).trans hc1;obtain⟨r,c',hr,hc',hrc,hcall⟩:=sub64 d e c hdb heb hc;obtain⟨z,hz⟩:∃z,rs.getD k 0=z:=⟨_,rfl⟩;have g1:=hB.free k;have g2:=hB.cell k (by omega);rw[hz] at g2;have HC2:=Hi (Qbh a2 c2 m k wr.drew (H2.out.row.below HBL.out.drew) (by omega) (by omega));rw[he] at HC2;have HD1:=Hi hd;have HD2:=Hi he;have HRC:=Hi hrc;have i0:(0:Int)≤(k:Int):=by omega
   have i1:(k:Int)<(l.length:Int):=by omega
   have hst:=(((HBL.out.setCell (p:=⟨w.heap.size,k,none⟩) (Nat.le_refl _) (.int .u64 (r:Int))).drew).cell (p:=⟨b,off+k,none⟩) hb1).trans hc1;clear hd he hz hB hrl hrc hc1;go_wp2_with fail;go_region_held3 (fun w'=>w'.cell? ⟨b,off+k,none⟩=some (.int .u64 d)) ((simp [*])) (first
    |(
     go_at_call 113;refine HC2.out.mono ?_;rintro e1 w2 ⟨rfl,hw2⟩
     subst hw2)
    |simp only[hcall])
   go_wp2;go_roundw
   case rel=>exact⟨k+1,c',rs.set k r,by omega,hc',rfl,by go_num,(HB.out.set k _).drew,by rw[List.length_set];exact HRL.out,HRS.out.set k hr,Qd4 _ k c d e r c' rs l m (by have:=HRL.out;omega) HD1.out HD2.out HRC.out HV.out,(HBL.out.setCell (Nat.le_refl _) _).drew⟩
   case measure=>simp[intOf];omega
  ·
   have e1:k=l.length:=by omega
   go_wp2_with fail;have hvv:val 18446744073709551616 rs=x - y:=by
    have e2:=HV.out;have hlt2:=Qaa (B:=18446744073709551616) (by decide) HRS.out;rw[HRL.out] at hlt2;rw[e1,List.take_of_length_le (by have:=HRL.out;omega),Qa2 _ m _ hml,List.take_length,H1.out.num.eq,H2.out.num.eq] at e2;have hc0:c=0:=by
     rcases Nat.eq_zero_or_pos c with h|h
     · exact h
     ·
      have:c=1:=by omega
      subst this;omega
    subst hc0;omega
   refine(Qcl w.heap.size l.length l.length (x - y) rs _ HB.out HRL.out HRS.out (Nat.le_refl _) (by omega) hvv).mono ?_;rintro e w1 ⟨⟨r,rfl,hu⟩,rfl⟩;go_wp2;go_ret;exact⟨⟨_,_,r,rfl,hu⟩,HBL.out⟩
end Go.Proofs.YtodfmpjhcmapmaaGreatDoor
