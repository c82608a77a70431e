import Derived.Test.YtgnmjaponiclhaaGreatDoorC11Shelf
import Derived.Lib.SliceRun
import Derived.Deep.DeepFit
namespace Go.Proofs.YtgnmjaponiclhaaGreatDoor
open Go.RowKit
set_option linter.unusedVariables false
set_option linter.unusedSimpArgs false
structure U64 (w:World) (a:Option Addr) (cap:Nat) (l:List Nat) (n:Nat):Prop where
 row:Row .u64 w a cap l
 num:Num 18446744073709551616 l n
 short:l.length≤1099511627776
theorem U64.below{w w':World}{a:Option Addr}{cap:Nat}{l:List Nat}{n:Nat}(h:U64 w a cap l n)(hb:Below w.heap.size w w'):U64 w' a cap l n:=⟨h.row.below hb,h.num,h.short⟩
theorem U64.drew{w:World}{a:Option Addr}{cap:Nat}{l:List Nat}{n:Nat}(h:U64 w a cap l n):U64 w.drew a cap l n:=h.below (Below.refl _ _).drew
theorem U64.nil(w:World):U64 w none 0 [] 0:=⟨Row.nil _ _,Num.zero _,by simp⟩
theorem Qcf(L:Int)(n:Nat)(hL:L=n)(hn:n≤2199023255552)(w:World):
 (Instr.makeSlice 126 (.int .i64 L) (.int .i64 L)).run Tryz.prog w=.ok (.slice (some ⟨w.heap.size,0,none⟩) n n) (w.alloc (.cells (wordCells .u64 (zeros n)) 222)):=by
 subst hL
 rw[←Qdd]
 exact Go.run_make_row' 126 222 (.int .u64 0) 8 Tryz.underlying126 Tryz.info64 rfl .i64 .i64 n (by omega) (by omega) w
theorem add64(x y c:Nat)(hx:x<18446744073709551616)(hy:y<18446744073709551616)(hc:c≤1):∃r d:Nat,r<18446744073709551616∧d≤1∧r+18446744073709551616*d=x+y+c∧
 ∀w,(callFunc 309 #[.int .u64 x,.int .u64 y,.int .u64 c]).run Tryz.prog w=.ok (.value (.tuple #[.int .u64 (r:Int),.int .u64 (d:Int)])) w:=
 ⟨(x+y+c) % 18446744073709551616,(x+y+c) / 18446744073709551616,by omega,by omega,by omega,fun w=>Any7.bits_Add64 Tryz.lays25 x y c hc w⟩
theorem Qcg(x y:Nat)(hx:x<18446744073709551616)(hy:y<18446744073709551616):∃r d:Nat,r<18446744073709551616∧d≤1∧r+18446744073709551616*d=x+y∧
 ∀w,(callFunc 309 #[.int .u64 x,.int .u64 y,.int .u64 0]).run Tryz.prog w=.ok (.value (.tuple #[.int .u64 (r:Int),.int .u64 (d:Int)])) w:=
 add64 x y 0 hx hy (by decide)
theorem sub64(x y c:Nat)(hx:x<18446744073709551616)(hy:y<18446744073709551616)(hc:c≤1):∃r d:Nat,r<18446744073709551616∧d≤1∧r+c+y=x+18446744073709551616*d∧
 ∀w,(callFunc 310 #[.int .u64 x,.int .u64 y,.int .u64 c]).run Tryz.prog w=.ok (.value (.tuple #[.int .u64 (r:Int),.int .u64 (d:Int)])) w:=by
 refine⟨(x+18446744073709551616 - y - c) % 18446744073709551616,if x<y+c then 1 else 0,by omega,by split<;>omega,by split<;>omega,fun w=>Any7.bits_Sub64 Tryz.lays26 x y c hc w⟩
theorem Qhf(x y:Nat)(hx:x<18446744073709551616)(hy:y<18446744073709551616):∃r d:Nat,r<18446744073709551616∧d≤1∧r+y=x+18446744073709551616*d∧
 ∀w,(callFunc 310 #[.int .u64 x,.int .u64 y,.int .u64 0]).run Tryz.prog w=.ok (.value (.tuple #[.int .u64 (r:Int),.int .u64 (d:Int)])) w:=
 sub64 x y 0 hx hy (by decide)
theorem mul64(x y:Nat)(hx:x<18446744073709551616)(hy:y<18446744073709551616):∃h l:Nat,h<18446744073709551616∧l<18446744073709551616∧l+18446744073709551616*h=x*y∧
 ∀w,Calls Tryz.prog 311 #[.int .u64 x,.int .u64 y] w fun e w'=>e=.returned (.tuple #[.int .u64 (h:Int),.int .u64 (l:Int)])∧w'=w:=by
 refine⟨x*y / 18446744073709551616,x*y % 18446744073709551616,?_,Nat.mod_lt _ (by decide),Nat.mod_add_div _ _,fun w=>Any.bits_Mul64 Tryz.lays264 x y hx hy w⟩
 rw[Nat.div_lt_iff_lt_mul (by decide)]
 exact Nat.mul_lt_mul'' hx hy
set_option maxHeartbeats 400000 in
theorem Qbj(a:Option Addr)(cap:Nat)(l:List Nat)(i:Nat)(w:World)(h:Row .u64 w a cap l)(hl:l.length≤1099511627776)(hi:i≤2199023255552):
 Calls Tryz.prog 277 #[.slice a l.length cap,.int .i64 i] w fun e w'=>e=.returned (.int .u64 ((l.getD i 0:Nat):Int))∧w'=w:=by
 by_cases hlt:i<l.length
 ·
  obtain⟨b,off,rfl,hb,hc⟩:=h.cell i hlt
  obtain⟨d,hd⟩:∃d,l.getD i 0=d:=⟨_,rfl⟩
  rw[hd] at hc
  rw[hd]
  clear hd h
  go_enter Tryz.func277,Tryz.ntmps277
  go_wp2
  go_ret
  exact⟨rfl,rfl⟩
 ·
  rw[Qbu l i (by omega)]
  clear h
  go_enter Tryz.func277,Tryz.ntmps277
  go_wp2
  go_ret
  exact⟨rfl,rfl⟩
theorem Qmx(l:List Nat)(k:Nat)(hk:k≤l.length)(h:k=0∨l.getD (k - 1) 0≠0):Trim (l.take k):=by
 rcases h with rfl|h
 · left;simp
 ·
  by_cases h0:k=0
  · left;subst h0;simp
  ·
   right
   rw[List.length_take,Nat.min_eq_left hk,List.getD_eq_getElem?_getD,List.getElem?_take_of_lt (by omega),←List.getD_eq_getElem?_getD]
   exact h
theorem Qmy(l:List Nat)(k:Nat)(hk:k<l.length)(h:l.getD k 0=0):val 18446744073709551616 (l.take (k+1))=val 18446744073709551616 (l.take k):=by
 rw[Qbs _ l k hk,h];simp
set_option maxHeartbeats 400000 in
theorem Qew(a:Option Addr)(cap:Nat)(l:List Nat)(w:World)(h:Row .u64 w a cap l)(hl:l.length≤1099511627776):
 Calls Tryz.prog 271 #[.slice a l.length cap] w fun e w'=>(∃k,k≤l.length∧e=.returned (.slice a k cap)∧val 18446744073709551616 (l.take k)=val 18446744073709551616 l∧Trim (l.take k))∧w'=w:=by
 have hcap:=h.fit
 go_enter Tryz.func271,Tryz.ntmps271
 go_wp2
 go_loop [3] (fun n=>∃k:Nat,k≤l.length∧n=.int .i64 k∧val 18446744073709551616 (l.take k)=val 18446744073709551616 l) (fun n=>(intOf n).toNat)
 case atStart=>exact⟨l.length,Nat.le_refl _,rfl,by rw[List.take_length]⟩
 case round=>
  obtain⟨k,hk,rfl,hv⟩:=hrel
  have HV:Hid (val 18446744073709551616 (l.take k)=val 18446744073709551616 l):=hv
  clear hv
  by_cases h0:k=0
  ·
   subst h0
   rcases h.shape with ⟨rfl,rfl⟩|⟨b,off,rfl,hb⟩
   all_goals
    go_wp2
    go_ret
    exact⟨⟨0,by omega,by simp,HV.out,.inl (by simp)⟩,rfl⟩
  ·
   obtain⟨b,off,rfl,hb,hc⟩:=h.cell (k - 1) (by omega)
   obtain⟨j,rfl⟩:∃j,k=j+1:=⟨k - 1,by omega⟩
   simp only[Nat.add_sub_cancel] at hc
   obtain⟨d,hd⟩:∃d,l.getD j 0=d:=⟨_,rfl⟩
   rw[hd] at hc
   have HD:Hid (l.getD j 0=d):=hd
   clear hd
   by_cases hz:d=0
   ·
    subst hz
    go_wp2
    go_round
    case rel=>exact⟨j,by omega,by go_num,(Qmy l j (by omega) HD.out).symm.trans HV.out⟩
    case measure=>simp[intOf]
   ·
    have hz':((d:Int) == 0)=false:=by simp;omega
    go_wp2
    go_ret
    exact⟨⟨j+1,hk,by simp,HV.out,Qmx l (j+1) hk (.inr (by rw[Nat.add_sub_cancel,HD.out];exact hz))⟩,rfl⟩
theorem Qch(g n cap x:Nat)(rs:List Nat)(w:World)(h:Blk .u64 222 w g rs)(hl:rs.length=n)(hs:Small 18446744073709551616 rs)(hc:n≤cap)(hn:n≤1099511627776)(hx:val 18446744073709551616 rs=x):
 Calls Tryz.prog 271 #[.slice (some ⟨g,0,none⟩) n cap] w fun e w'=>(∃r,e=.returned (.slice (some ⟨g,0,none⟩) r.length cap)∧U64 w (some ⟨g,0,none⟩) cap r x)∧w'=w:=by
 have hR:=h.row n (by omega) cap hc
 rw[List.take_of_length_le (by omega)] at hR
 have hT:=Qew (some ⟨g,0,none⟩) cap rs w hR (by omega)
 rw[hl] at hT
 refine hT.mono ?_
 rintro e w1 ⟨⟨q,hq,rfl,hqv,hqt⟩,rfl⟩
 have hql:(rs.take q).length=q:=by rw[List.length_take];omega
 exact⟨⟨rs.take q,by rw[hql],hR.take q (by omega),⟨hs.take q,hqt,hqv.trans hx⟩,by rw[hql];omega⟩,rfl⟩
theorem Qmz{l:List Nat}(h:Num 18446744073709551616 l 1):l= [1]:=h.inj (by decide) ⟨fun d hd=>by simp at hd;omega,.inr (by simp),by simp[val]⟩
set_option maxHeartbeats 400000 in
theorem Qci(a:Option Addr)(cap:Nat)(l:List Nat)(n:Nat)(w:World)(h:U64 w a cap l n):
 Calls Tryz.prog 265 #[.slice a l.length cap] w fun e w'=>e=.returned (.bool (decide (n=1)))∧w'=w:=by
 have hs:=h.short
 by_cases h1:l.length=1
 ·
  obtain⟨b,off,rfl,hb,hc⟩:=h.row.cell 0 (by omega)
  obtain⟨d,hd⟩:∃d,l.getD 0 0=d:=⟨_,rfl⟩
  rw[hd] at hc
  have hn:n=d:=by
   rw[←h.num.eq]
   match l,h1 with
   | [x],_=>simp at hd;simp[val,hd]
  subst hn
  rw[Nat.add_zero] at hc
  by_cases hd1:n=1
  ·
   subst hd1
   clear h hd
   go_enter Tryz.func265,Tryz.ntmps265
   go_wp2
   go_ret
   exact⟨rfl,rfl⟩
  ·
   have q1:((n:Int) == 1)=false:=by rw[beq_eq_false_iff_ne];omega
   rw[show decide (n=1)=false by simpa using hd1]
   clear h hd hd1
   go_enter Tryz.func265,Tryz.ntmps265
   go_wp2
   go_ret
   exact⟨by simp[q1],rfl⟩
 ·
  have hn1:n≠1:=fun hc=>h1 (by subst hc;rw[Qmz h.num];rfl)
  have q1:((l.length:Int) == 1)=false:=by rw[beq_eq_false_iff_ne];omega
  rw[show decide (n=1)=false by simpa using hn1]
  clear h h1 hn1
  go_enter Tryz.func265,Tryz.ntmps265
  go_wp2
  go_ret
  exact⟨rfl,rfl⟩
set_option maxHeartbeats 1000000 in
theorem Qcj(a1 a2:Option Addr)(c1 c2:Nat)(l m:List Nat)(x y:Nat)(w:World)(h1:U64 w a1 c1 l x)(h2:U64 w a2 c2 m y):
 Calls Tryz.prog 259 #[.slice a1 l.length c1,.slice a2 m.length c2] w fun e w'=>e=.returned (.int .i64 (cmp3 x y))∧Below w.heap.size w w':=by
 have s1:=h1.short
 have s2:=h2.short
 by_cases hlt:l.length<m.length
 ·
  have hne:((l.length:Int) != (m.length:Int))=true:=by rw[bne_iff_ne];omega
  have hr:cmp3 x y= -1:=Qb7 (by rw[←h1.num.eq,←h2.num.eq];exact Qat (by omega) h1.num.small h2.num.trim hlt)
  have HR:Hid (cmp3 x y= -1):=hr
  clear hr h1 h2
  go_enter Tryz.func259,Tryz.ntmps259
  go_wp2
  go_ret
  exact⟨by rw[HR.out];rfl,Below.refl _ _⟩
 by_cases hgt:m.length<l.length
 ·
  have hne:((l.length:Int) != (m.length:Int))=true:=by rw[bne_iff_ne];omega
  have hr:cmp3 x y=1:=Qcz (by rw[←h1.num.eq,←h2.num.eq];exact Qat (by omega) h2.num.small h1.num.trim hgt)
  have HR:Hid (cmp3 x y=1):=hr
  clear hr h1 h2
  go_enter Tryz.func259,Tryz.ntmps259
  go_wp2
  go_ret
  exact⟨by rw[HR.out];rfl,Below.refl _ _⟩
 have heq:m.length=l.length:=by omega
 have HE:Hid (m.length=l.length):=heq
 rw[heq]
 have hne:((l.length:Int) != (l.length:Int))=false:=by simp
 clear hlt hgt heq
 go_enter Tryz.func259,Tryz.ntmps259
 go_wp2
 go_loopw [5] (fun i wr=>∃k:Nat,k≤l.length∧i=.int .i64 ((k:Int) - 1)∧l.drop k=m.drop k∧Below w.heap.size w wr) (fun i _=>(intOf i+1).toNat)
 case atStart=>exact⟨l.length,Nat.le_refl _,rfl,by rw[List.drop_of_length_le (Nat.le_refl _),List.drop_of_length_le (by rw[HE.out];exact Nat.le_refl _)],Below.refl _ _⟩
 case round=>
  obtain⟨k,hk,rfl,hd,hb⟩:=hrel
  have HD:Hid (l.drop k=m.drop k):=hd
  clear hd
  by_cases h0:k=0
  ·
   subst h0
   go_wp2
   go_ret
   exact⟨by rw[Qgc (by rw[←h1.num.eq,←h2.num.eq];have:=HD.out;simp at this;rw[this])];rfl,hb⟩
  ·
   obtain⟨j,rfl⟩:∃j,k=j+1:=⟨k - 1,by omega⟩
   have hjl:j<l.length:=by omega
   have hjm:j<m.length:=by have:=HE.out;omega
   obtain⟨b,off,rfl,hb1,hc1⟩:=h1.row.cell j hjl
   obtain⟨b',off',rfl,hb2,hc2⟩:=h2.row.cell j hjm
   obtain⟨d,hd⟩:∃d,l.getD j 0=d:=⟨_,rfl⟩
   obtain⟨e,he⟩:∃e,m.getD j 0=e:=⟨_,rfl⟩
   rw[hd] at hc1
   rw[he] at hc2
   have hc1':=(hb.cell (p:=⟨b,off+j,none⟩) hb1).trans hc1
   have hc2':=(hb.cell (p:=⟨b',off'+j,none⟩) hb2).trans hc2
   have H1:Hid (l.getD j 0=d):=hd
   have H2:Hid (m.getD j 0=e):=he
   clear hd he hc1 hc2
   have ei:((j+1:Nat):Int) - 1=(j:Int):=by omega
   rw[ei]
   by_cases hlt:d<e
   ·
    go_wp2
    go_region
    all_goals
     go_wp2
     go_ret
     exact⟨by rw[Qb7 (by rw[←h1.num.eq,←h2.num.eq];exact Qc0 (by omega) h1.num.small j hjl hjm HD.out (by rw[H1.out,H2.out];exact hlt))];rfl,hb.drew⟩
   by_cases hgt:e<d
   ·
    go_wp2
    go_region
    all_goals
     go_wp2
     go_region
    all_goals
     go_wp2
     go_ret
     exact⟨by rw[Qcz (by rw[←h1.num.eq,←h2.num.eq];exact Qc0 (by omega) h2.num.small j hjm hjl HD.out.symm (by rw[H1.out,H2.out];omega))];rfl,hb.drew.drew⟩
   ·
    go_wp2
    go_region
    all_goals
     go_wp2
     go_region
    all_goals
     go_wp2
     go_roundw
     case rel=>exact⟨j,by omega,by go_num,Qgd hjl hjm HD.out (H1.out.trans ((show d=e by omega).trans H2.out.symm)),hb.drew.drew⟩
     case measure=>simp[intOf]
theorem Qm0(k c d e r c':Nat)(rs l m:List Nat)(hk:k<rs.length)(hd:l.getD k 0=d)(he:m.getD k 0=e)(hr:r+18446744073709551616*c'=d+e+c)
 (h:val 18446744073709551616 (rs.take k)+18446744073709551616 ^ k*c=val 18446744073709551616 (l.take k)+val 18446744073709551616 (m.take k)):
 val 18446744073709551616 ((rs.set k r).take (k+1))+18446744073709551616 ^ (k+1)*c'=val 18446744073709551616 (l.take (k+1))+val 18446744073709551616 (m.take (k+1)):=by
 rw[take_set _ _ _ hk,Qah,List.length_take,Nat.min_eq_left (by omega),Qac,Qac,hd,he,Nat.pow_succ]
 have e2:18446744073709551616 ^ k*(r+18446744073709551616*c')=18446744073709551616 ^ k*(d+e+c):=by rw[hr]
 rw[Nat.mul_add,Nat.mul_add,Nat.mul_add,←Nat.mul_assoc] at e2
 omega
set_option maxHeartbeats 1000000 in
theorem Qm1(a1 a2:Option Addr)(c1 c2:Nat)(l m:List Nat)(x y:Nat)(w:World)(h1:U64 w a1 c1 l x)(h2:U64 w a2 c2 m y)(hl:l.length<1099511627776)(hm:m.length<1099511627776):
 Calls Tryz.prog 268 #[.slice a1 l.length c1,.slice a2 m.length c2] w fun e w'=>(∃a cap r,e=.returned (.slice a r.length cap)∧U64 w' a cap r (x+y))∧Below w.heap.size w w':=by
 obtain⟨n,hn,hnl,hnm⟩:∃n,max l.length m.length=n∧l.length≤n∧m.length≤n:=⟨_,rfl,by omega,by omega⟩
 have hmx:max (l.length:Int) (m.length:Int)=(n:Int):=by omega
 have hmk:∀w,(Instr.makeSlice 126 (.int .i64 ((n:Int)+1)) (.int .i64 ((n:Int)+1))).run Tryz.prog w=.ok (.slice (some ⟨w.heap.size,0,none⟩) (n+1) (n+1)) (w.alloc (.cells (wordCells .u64 (zeros (n+1))) 222)):=
  fun w=>Qcf _ (n+1) (by omega) (by omega) w
 have hnb:n<1099511627776:=by omega
 have H1:=Hi h1
 have H2:=Hi h2
 clear h1 h2 hn
 go_enter Tryz.func268,Tryz.ntmps268
 go_wp2
 clear hmk
 go_loopw [7,18] (fun c i wr=>∃(k c':Nat) (rs:List Nat),k≤n∧c'≤1∧c=.int .u64 c'∧i=.int .i64 k∧Blk .u64 222 wr w.heap.size rs∧rs.length=n+1∧Small 18446744073709551616 rs∧
  val 18446744073709551616 (rs.take k)+18446744073709551616 ^ k*c'=val 18446744073709551616 (l.take k)+val 18446744073709551616 (m.take k)∧Below w.heap.size w wr) (fun _ i _=>n - (intOf i).toNat)
 case atStart=>exact⟨0,0,zeros (n+1),by omega,by omega,rfl,rfl,Blk.new _ _ _ _,Qaf _,Qal _ _ (by omega),by simp[val],(Below.refl _ _).alloc (Nat.le_refl _) _⟩
 case round=>
  obtain⟨k,c,rs,hk,hc,rfl,rfl,hB,hrl,hrs,hv,hb⟩:=hrel
  have HV:=Hi hv
  have HRL:=Hi hrl
  have HB:=Hi hB
  have HRS:=Hi hrs
  have HBL:=Hi hb
  clear hv hrs hb
  by_cases hlt:k<n
  ·
   obtain⟨d,hd⟩:∃d,l.getD k 0=d:=⟨_,rfl⟩
   obtain⟨e,he⟩:∃e,m.getD k 0=e:=⟨_,rfl⟩
   have hdb:d<18446744073709551616:=by rw[←hd];exact H1.out.num.small.getD (by omega) k
   have heb:e<18446744073709551616:=by rw[←he];exact H2.out.num.small.getD (by omega) k
   obtain⟨r,c',hr,hc',hrc,hcall⟩:=add64 d e c hdb heb hc
   obtain⟨z,hz⟩:∃z,rs.getD k 0=z:=⟨_,rfl⟩
   have g1:=hB.free k
   have g2:=hB.cell k (by omega)
   rw[hz] at g2
   have HC1:=Hi (Qbj a1 c1 l k wr (H1.out.row.below HBL.out) (by omega) (by omega))
   have HC2:=Hi (Qbj a2 c2 m k wr (H2.out.row.below HBL.out) (by omega) (by omega))
   rw[hd] at HC1
   rw[he] at HC2
   have HD1:=Hi hd
   have HD2:=Hi he
   have HRC:=Hi hrc
   clear hd he hz hB hrl hrc
   go_wp2_with fail
   refine HC1.out.mono ?_
   rintro e1 w1 ⟨rfl,hw1⟩
   subst hw1
   go_wp2_with fail
   refine HC2.out.mono ?_
   rintro e1 w2 ⟨rfl,hw2⟩
   subst hw2
   clear HC1 HC2
   go_wp2_with (simp only[hcall])
   go_roundw
   case rel=>exact⟨k+1,c',rs.set k r,by omega,hc',rfl,by go_num,HB.out.set k _,by rw[List.length_set];exact HRL.out,HRS.out.set k hr,Qm0 k c d e r c' rs l m (by have:=HRL.out;omega) HD1.out HD2.out HRC.out HV.out,HBL.out.setCell (Nat.le_refl _) _⟩
   case measure=>simp[intOf];omega
  ·
   obtain⟨z,hz⟩:∃z,rs.getD n 0=z:=⟨_,rfl⟩
   have g1:=hB.free n
   have g2:=hB.cell n (by omega)
   rw[hz] at g2
   clear hz hB hrl
   go_wp2_with fail
   have hl1:(rs.set n c).length=n+1:=by rw[List.length_set];exact HRL.out
   have hB2:Blk .u64 222 (wr.setCell ⟨w.heap.size,n,none⟩ (.int .u64 (c:Int))) w.heap.size (rs.set n c):=HB.out.set n c
   have hvv:val 18446744073709551616 (rs.set n c)=x+y:=by
    rw[Qea _ _ _ _ HRL.out]
    have e1:k=n:=by omega
    have e2:=HV.out
    rw[e1,Qa4 _ l _ hnl,Qa4 _ m _ hnm,H1.out.num.eq,H2.out.num.eq] at e2
    omega
   refine(Qch w.heap.size (n+1) (n+1) (x+y) (rs.set n c) _ hB2 hl1 (HRS.out.set _ (by omega)) (Nat.le_refl _) (by omega) hvv).mono ?_
   rintro e w1 ⟨⟨r,rfl,hu⟩,rfl⟩
   go_wp2
   go_ret
   exact⟨⟨_,_,r,rfl,hu⟩,HBL.out.setCell (Nat.le_refl _) _⟩
set_option maxHeartbeats 1000000 in
theorem Qm2(a1 a2:Option Addr)(c1 c2:Nat)(l m:List Nat)(x y:Nat)(w:World)(h1:U64 w a1 c1 l x)(h2:U64 w a2 c2 m y)(hyx:y≤x):
 Calls Tryz.prog 269 #[.slice a1 l.length c1,.slice a2 m.length c2] w fun e w'=>(∃a cap r,e=.returned (.slice a r.length cap)∧U64 w' a cap r (x - y))∧Below w.heap.size w w':=by
 have s1:=h1.short
 have s2:=h2.short
 have hml:m.length≤l.length:=by
  apply Classical.byContradiction
  intro hc
  have:=Qat (B:=18446744073709551616) (by decide) h1.num.small h2.num.trim (by omega)
  rw[h1.num.eq,h2.num.eq] at this
  omega
 have hmk:∀w,(Instr.makeSlice 126 (.int .i64 (l.length:Int)) (.int .i64 (l.length:Int))).run Tryz.prog w=.ok (.slice (some ⟨w.heap.size,0,none⟩) l.length l.length) (w.alloc (.cells (wordCells .u64 (zeros l.length)) 222)):=
  fun w=>Qcf _ l.length rfl (by omega) w
 have H1:=Hi h1
 have H2:=Hi h2
 clear h1 h2
 go_enter Tryz.func269,Tryz.ntmps269
 go_wp2
 clear hmk
 go_loopw [7,14] (fun c i wr=>∃(k c':Nat) (rs:List Nat),k≤l.length∧c'≤1∧c=.int .u64 c'∧i=.int .i64 k∧Blk .u64 222 wr w.heap.size rs∧rs.length=l.length∧Small 18446744073709551616 rs∧
  val 18446744073709551616 (rs.take k)+val 18446744073709551616 (m.take k)=val 18446744073709551616 (l.take k)+18446744073709551616 ^ k*c'∧Below w.heap.size w wr) (fun _ i _=>l.length - (intOf i).toNat)
 case atStart=>exact⟨0,0,zeros l.length,by omega,by omega,rfl,rfl,Blk.new _ _ _ _,Qaf _,Qal _ _ (by omega),by simp[val],(Below.refl _ _).alloc (Nat.le_refl _) _⟩
 case round=>
  obtain⟨k,c,rs,hk,hc,rfl,rfl,hB,hrl,hrs,hv,hb⟩:=hrel
  have HV:=Hi hv
  have HRL:=Hi hrl
  have HB:=Hi hB
  have HRS:=Hi hrs
  have HBL:=Hi hb
  clear hv hrs hb
  by_cases hlt:k<l.length
  ·
   obtain⟨b,off,rfl,hb1,hc1⟩:=H1.out.row.cell k hlt
   obtain⟨d,hd⟩:∃d,l.getD k 0=d:=⟨_,rfl⟩
   obtain⟨e,he⟩:∃e,m.getD k 0=e:=⟨_,rfl⟩
   have hdb:d<18446744073709551616:=by rw[←hd];exact H1.out.num.small.getD (by omega) k
   have heb:e<18446744073709551616:=by rw[←he];exact H2.out.num.small.getD (by omega) k
   rw[hd] at hc1
   have hc1':=(HBL.out.cell (p:=⟨b,off+k,none⟩) hb1).trans hc1
   obtain⟨r,c',hr,hc',hrc,hcall⟩:=sub64 d e c hdb heb hc
   obtain⟨z,hz⟩:∃z,rs.getD k 0=z:=⟨_,rfl⟩
   have g1:=hB.free k
   have g2:=hB.cell k (by omega)
   rw[hz] at g2
   have HC2:=Hi (Qbj a2 c2 m k wr.drew (H2.out.row.below HBL.out.drew) (by omega) (by omega))
   rw[he] at HC2
   have HD1:=Hi hd
   have HD2:=Hi he
   have HRC:=Hi hrc
   have i0:(0:Int)≤(k:Int):=by omega
   have i1:(k:Int)<(l.length:Int):=by omega
   have hst:=(((HBL.out.setCell (p:=⟨w.heap.size,k,none⟩) (Nat.le_refl _) (.int .u64 (r:Int))).drew).cell (p:=⟨b,off+k,none⟩) hb1).trans hc1
   clear hd he hz hB hrl hrc hc1
   go_wp2_with fail
   go_region_held3 (fun w'=>w'.cell? ⟨b,off+k,none⟩=some (.int .u64 d)) ((simp [*])) (first
    |(
     go_at_call 277
     refine HC2.out.mono ?_
     rintro e1 w2 ⟨rfl,hw2⟩
     subst hw2)
    |simp only[hcall])
   go_wp2
   go_roundw
   case rel=>exact⟨k+1,c',rs.set k r,by omega,hc',rfl,by go_num,(HB.out.set k _).drew,by rw[List.length_set];exact HRL.out,HRS.out.set k hr,Qk7 _ k c d e r c' rs l m (by have:=HRL.out;omega) HD1.out HD2.out HRC.out HV.out,(HBL.out.setCell (Nat.le_refl _) _).drew⟩
   case measure=>simp[intOf];omega
  ·
   have e1:k=l.length:=by omega
   go_wp2_with fail
   have hvv:val 18446744073709551616 rs=x - y:=by
    have e2:=HV.out
    have hlt2:=Qab (B:=18446744073709551616) (by decide) HRS.out
    rw[HRL.out] at hlt2
    rw[e1,List.take_of_length_le (by have:=HRL.out;omega),Qa4 _ m _ hml,List.take_length,H1.out.num.eq,H2.out.num.eq] at e2
    have hc0:c=0:=by
     rcases Nat.eq_zero_or_pos c with h|h
     · exact h
     ·
      have:c=1:=by omega
      subst this
      omega
    subst hc0
    omega
   refine(Qch w.heap.size l.length l.length (x - y) rs _ HB.out HRL.out HRS.out (Nat.le_refl _) (by omega) hvv).mono ?_
   rintro e w1 ⟨⟨r,rfl,hu⟩,rfl⟩
   go_wp2
   go_ret
   exact⟨⟨_,_,r,rfl,hu⟩,HBL.out⟩
structure RowDone (w w':World) (g off n:Nat) (rs rs':List Nat):Prop where
 blk:Blk .u64 222 w' g rs'
 len:rs'.length=rs.length
 small:Small 18446744073709551616 rs'
 only:Only g w w'
 out:∀p,p<off∨off+n≤p→rs'.getD p 0=rs.getD p 0
theorem Row.onlyG{k:IntKind}{w w':World}{a:Option Addr}{cap:Nat}{l:List Nat}{g:Nat}(h:Row k w a cap l)(ho:Only g w w')(hne:∀b off,a=some ⟨b,off,none⟩→b≠g):Row k w' a cap l:=by
 refine⟨h.fit,?_,fun i hi=>?_⟩
 ·
  rcases h.shape with h1|⟨b',off,rfl,h2⟩
  · exact .inl h1
  · exact .inr ⟨b',off,rfl,by have:=ho.size;omega⟩
 · obtain⟨b',off,h1,h2,h3⟩:=h.cell i hi
   exact⟨b',off,h1,by have:=ho.size;omega,(World.cell?_of_block (w:=w) (ho.block b' h2 (hne b' off h1))).trans h3⟩
theorem U64.onlyG{w w':World}{a:Option Addr}{cap:Nat}{l:List Nat}{n g:Nat}(h:U64 w a cap l n)(ho:Only g w w')(hne:∀b off,a=some ⟨b,off,none⟩→b≠g):U64 w' a cap l n:=⟨h.row.onlyG ho hne,h.num,h.short⟩
theorem Qey{rs rs':List Nat}{off j x:Nat}(h:∀p,p<off∨off+j≤p→rs'.getD p 0=rs.getD p 0):∀p,p<off∨off+(j+1)≤p→(rs'.set (off+j) x).getD p 0=rs.getD p 0:=by
 intro p hp
 rw[getD_set_ne _ _ _ _ (by omega)]
 exact h p (by omega)
theorem Qhq(B p a new over over' t R:Nat)(rs:List Nat)(hp:p<rs.length)(ha:rs.getD p 0=a)(hn:new+B*over'=a+t+over)(h:val B rs+B ^ p*over=R):
 val B (rs.set p new)+B ^ (p+1)*over'=R+B ^ p*t:=by
 have h1:=Qa5 B rs p new hp
 rw[ha] at h1
 have h2:B ^ p*(new+B*over')=B ^ p*(a+t+over):=by rw[hn]
 rw[Nat.mul_add,Nat.mul_add,Nat.mul_add,←Nat.mul_assoc] at h2
 rw[Nat.pow_succ]
 omega
theorem Qns(B p a new lack lack' t R S:Nat)(rs:List Nat)(hp:p<rs.length)(ha:rs.getD p 0=a)(hn:new+t+lack=a+B*lack')(h:val B rs+S=R+B ^ p*lack):
 val B (rs.set p new)+(S+B ^ p*t)=R+B ^ (p+1)*lack':=by
 have h1:=Qa5 B rs p new hp
 rw[ha] at h1
 have h2:B ^ p*(new+t+lack)=B ^ p*(a+B*lack'):=by rw[hn]
 rw[Nat.mul_add,Nat.mul_add,Nat.mul_add,←Nat.mul_assoc] at h2
 rw[Nat.pow_succ]
 omega
theorem Qez{v d over:Nat}(hv:v<18446744073709551616)(hd:d<18446744073709551616):v*d≤18446744073709551615*18446744073709551615:=Nat.mul_le_mul (by omega) (by omega)
theorem Qe0(B off j d:Nat)(m:List Nat):B ^ off*(d*val B (m.take (j+1)))=B ^ off*(d*val B (m.take j))+B ^ (off+j)*(m.getD j 0*d):=by
 rw[Qac,Nat.mul_add,Nat.mul_add,Nat.pow_add]
 congr 1
 rw[Nat.mul_assoc,Nat.mul_comm (m.getD j 0) d,←Nat.mul_assoc d,Nat.mul_comm d (B ^ j),Nat.mul_assoc]
set_option maxHeartbeats 1000000 in
theorem Qnt(g off cap:Nat)(rs:List Nat)(a2:Option Addr)(c2:Nat)(m:List Nat)(d:Nat)(w:World)(hB:Blk .u64 222 w g rs)(hsm:Small 18446744073709551616 rs)(hm:Row .u64 w a2 c2 m)(hms:Small 18446744073709551616 m)(hml:m.length≤1099511627776)(hd:d<18446744073709551616)
 (hoff:off+m.length≤rs.length) (hcap:m.length≤cap) (hne:∀b o,a2=some ⟨b,o,none⟩→b≠g):
 Calls Tryz.prog 270 #[.slice (some ⟨g,off,none⟩) m.length cap,.slice a2 m.length c2,.int .u64 d] w fun e w'=>∃over rs',e=.returned (.int .u64 ((over:Nat):Int))∧over<18446744073709551616∧RowDone w w' g off m.length rs rs'∧val 18446744073709551616 rs'+18446744073709551616 ^ (off+m.length)*over=val 18446744073709551616 rs+18446744073709551616 ^ off*(d*val 18446744073709551616 m):=by
 have HB0:=Hi hB
 have HSM:=Hi hsm
 have HM:=Hi hm
 have HMS:=Hi hms
 have HNE:=Hi hne
 clear hB hsm hm hms hne
 go_enter Tryz.func270,Tryz.ntmps270
 go_wp2
 go_loopw [7,19] (fun o i wr=>∃(k over:Nat) (rk:List Nat),k≤m.length∧over<18446744073709551616∧o=.int .u64 over∧i=.int .i64 k∧RowDone w wr g off k rs rk∧val 18446744073709551616 rk+18446744073709551616 ^ (off+k)*over=val 18446744073709551616 rs+18446744073709551616 ^ off*(d*val 18446744073709551616 (m.take k))) (fun _ i _=>m.length - (intOf i).toNat)
 case atStart=>exact⟨0,0,rs,by omega,by omega,rfl,rfl,⟨HB0.out,rfl,HSM.out,Only.refl _ _,fun _ _=>rfl⟩,by simp[val]⟩
 case round=>
  obtain⟨k,over,rk,hk,hov,rfl,rfl,hr,hv⟩:=hrel
  have HR:=Hi hr
  have HV:=Hi hv
  clear hv
  by_cases hlt:k<m.length
  ·
   obtain⟨b,o,rfl,hb1,hc1⟩:=(HM.out.onlyG HR.out.only HNE.out).cell k hlt
   obtain⟨v,hv⟩:∃v,m.getD k 0=v:=⟨_,rfl⟩
   rw[hv] at hc1
   have hvb:v<18446744073709551616:=by rw[←hv];exact HMS.out.getD (by omega) k
   obtain⟨z,hz⟩:∃z,rk.getD (off+k) 0=z:=⟨_,rfl⟩
   have hzb:z<18446744073709551616:=by rw[←hz];exact HR.out.small.getD (by omega) _
   have g1:=hr.blk.free (off+k)
   have g2:=hr.blk.cell (off+k) (by rw[hr.len];omega)
   rw[hz] at g2
   obtain⟨h,l,hh,hl,hhl,hcm⟩:=mul64 v d hvb hd
   obtain⟨l',c1,hl',hc1b,hlc,hca⟩:=Qcg l over hl hov
   obtain⟨z',c2',hz',hc2b,hzc,hcb⟩:=Qcg z l' hzb hl'
   have hfit:=Qez (over:=over) hvb hd
   have hsum:z'+18446744073709551616*(h+c1+c2')=z+v*d+over:=by omega
   have hob:h+c1+c2'<18446744073709551616:=by omega
   have hob1:h+c1<18446744073709551616:=by omega
   have HCM:=Hi hcm
   have HSUM:=Hi hsum
   have HV1:=Hi hv
   have HZ1:=Hi hz
   clear hr hv hz hcm hsum hhl hlc hzc hfit
   go_wp2_with (first|(go_at_call 311;refine(HCM.out _).mono ?_;rintro e w2 ⟨rfl,hw2⟩;subst hw2)|simp only[hca]|simp only[hcb])
   go_roundw
   case rel=>
    refine⟨k+1,h+c1+c2',rk.set (off+k) z',by omega,hob,by go_num,by go_num,⟨HR.out.blk.set _ _,by rw[List.length_set];exact HR.out.len,HR.out.small.set _ hz',HR.out.only.setCell _ _,Qey HR.out.out⟩,?_⟩
    have h1:=Qhq 18446744073709551616 (off+k) z z' over (h+c1+c2') (v*d) _ rk (by rw[HR.out.len];omega) HZ1.out (by rw[HSUM.out]) HV.out
    rw[Nat.add_assoc] at h1
    rw[h1,Qe0,HV1.out]
    omega
   case measure=>simp[intOf];omega
  ·
   have e1:k=m.length:=by omega
   subst e1
   clear hr
   go_wp2
   go_ret
   exact⟨over,rk,rfl,hov,HR.out,by have:=HV.out;rw[List.take_length] at this;exact this⟩
set_option maxHeartbeats 1000000 in
theorem Qnu(g off cap:Nat)(rs:List Nat)(a2:Option Addr)(c2:Nat)(m:List Nat)(d:Nat)(w:World)(hB:Blk .u64 222 w g rs)(hsm:Small 18446744073709551616 rs)(hm:Row .u64 w a2 c2 m)(hms:Small 18446744073709551616 m)(hml:m.length≤1099511627776)(hd:d<18446744073709551616)
 (hoff:off+m.length≤rs.length) (hcap:m.length≤cap) (hne:∀b o,a2=some ⟨b,o,none⟩→b≠g):
 Calls Tryz.prog 324 #[.slice (some ⟨g,off,none⟩) m.length cap,.slice a2 m.length c2,.int .u64 d] w fun e w'=>∃over rs',e=.returned (.int .u64 ((over:Nat):Int))∧over<18446744073709551616∧RowDone w w' g off m.length rs rs'∧val 18446744073709551616 rs'+18446744073709551616 ^ off*(d*val 18446744073709551616 m)=val 18446744073709551616 rs+18446744073709551616 ^ (off+m.length)*over:=by
 have HB0:=Hi hB
 have HSM:=Hi hsm
 have HM:=Hi hm
 have HMS:=Hi hms
 have HNE:=Hi hne
 clear hB hsm hm hms hne
 go_enter Tryz.func324,Tryz.ntmps324
 go_wp2
 go_loopw [7,19] (fun o i wr=>∃(k over:Nat) (rk:List Nat),k≤m.length∧over<18446744073709551616∧o=.int .u64 over∧i=.int .i64 k∧RowDone w wr g off k rs rk∧val 18446744073709551616 rk+18446744073709551616 ^ off*(d*val 18446744073709551616 (m.take k))=val 18446744073709551616 rs+18446744073709551616 ^ (off+k)*over) (fun _ i _=>m.length - (intOf i).toNat)
 case atStart=>exact⟨0,0,rs,by omega,by omega,rfl,rfl,⟨HB0.out,rfl,HSM.out,Only.refl _ _,fun _ _=>rfl⟩,by simp[val]⟩
 case round=>
  obtain⟨k,over,rk,hk,hov,rfl,rfl,hr,hv⟩:=hrel
  have HR:=Hi hr
  have HV:=Hi hv
  clear hv
  by_cases hlt:k<m.length
  ·
   obtain⟨b,o,rfl,hb1,hc1⟩:=(HM.out.onlyG HR.out.only HNE.out).cell k hlt
   obtain⟨v,hv⟩:∃v,m.getD k 0=v:=⟨_,rfl⟩
   rw[hv] at hc1
   have hvb:v<18446744073709551616:=by rw[←hv];exact HMS.out.getD (by omega) k
   obtain⟨z,hz⟩:∃z,rk.getD (off+k) 0=z:=⟨_,rfl⟩
   have hzb:z<18446744073709551616:=by rw[←hz];exact HR.out.small.getD (by omega) _
   have g1:=hr.blk.free (off+k)
   have g2:=hr.blk.cell (off+k) (by rw[hr.len];omega)
   rw[hz] at g2
   obtain⟨h,l,hh,hl,hhl,hcm⟩:=mul64 v d hvb hd
   obtain⟨l',c1,hl',hc1b,hlc,hca⟩:=Qcg l over hl hov
   obtain⟨z',c2',hz',hc2b,hzc,hcb⟩:=Qhf z l' hzb hl'
   have hfit:=Qez (over:=over) hvb hd
   have hsum:z'+v*d+over=z+18446744073709551616*(h+c1+c2'):=by omega
   have hob:h+c1+c2'<18446744073709551616:=by omega
   have hob1:h+c1<18446744073709551616:=by omega
   have HCM:=Hi hcm
   have HSUM:=Hi hsum
   have HV1:=Hi hv
   have HZ1:=Hi hz
   clear hr hv hz hcm hsum hhl hlc hzc hfit
   go_wp2_with (first|(go_at_call 311;refine(HCM.out _).mono ?_;rintro e w2 ⟨rfl,hw2⟩;subst hw2)|simp only[hca]|simp only[hcb])
   go_roundw
   case rel=>
    refine⟨k+1,h+c1+c2',rk.set (off+k) z',by omega,hob,by go_num,by go_num,⟨HR.out.blk.set _ _,by rw[List.length_set];exact HR.out.len,HR.out.small.set _ hz',HR.out.only.setCell _ _,Qey HR.out.out⟩,?_⟩
    have h1:=Qns 18446744073709551616 (off+k) z z' over (h+c1+c2') (v*d) _ _ rk (by rw[HR.out.len];omega) HZ1.out HSUM.out HV.out
    rw[Nat.add_assoc off] at h1
    rw[Qe0,HV1.out]
    exact h1
   case measure=>simp[intOf];omega
  ·
   have e1:k=m.length:=by omega
   subst e1
   clear hr
   go_wp2
   go_ret
   exact⟨over,rk,rfl,hov,HR.out,by have:=HV.out;rw[List.take_length] at this;exact this⟩
set_option maxHeartbeats 1000000 in
theorem Qnv(g off cap:Nat)(rs:List Nat)(a2:Option Addr)(c2:Nat)(m:List Nat)(w:World)(hB:Blk .u64 222 w g rs)(hsm:Small 18446744073709551616 rs)(hm:Row .u64 w a2 c2 m)(hms:Small 18446744073709551616 m)(hml:m.length≤1099511627776)
 (hoff:off+m.length≤rs.length) (hcap:m.length≤cap) (hne:∀b o,a2=some ⟨b,o,none⟩→b≠g):
 Calls Tryz.prog 325 #[.slice (some ⟨g,off,none⟩) m.length cap,.slice a2 m.length c2] w fun e w'=>∃over rs',e=.returned (.int .u64 ((over:Nat):Int))∧over≤1∧RowDone w w' g off m.length rs rs'∧val 18446744073709551616 rs'+18446744073709551616 ^ (off+m.length)*over=val 18446744073709551616 rs+18446744073709551616 ^ off*(1*val 18446744073709551616 m):=by
 have HB0:=Hi hB
 have HSM:=Hi hsm
 have HM:=Hi hm
 have HMS:=Hi hms
 have HNE:=Hi hne
 clear hB hsm hm hms hne
 go_enter Tryz.func325,Tryz.ntmps325
 go_wp2
 go_loopw [5,14] (fun o i wr=>∃(k over:Nat) (rk:List Nat),k≤m.length∧over≤1∧o=.int .u64 over∧i=.int .i64 k∧RowDone w wr g off k rs rk∧val 18446744073709551616 rk+18446744073709551616 ^ (off+k)*over=val 18446744073709551616 rs+18446744073709551616 ^ off*(1*val 18446744073709551616 (m.take k))) (fun _ i _=>m.length - (intOf i).toNat)
 case atStart=>exact⟨0,0,rs,by omega,by omega,rfl,rfl,⟨HB0.out,rfl,HSM.out,Only.refl _ _,fun _ _=>rfl⟩,by simp[val]⟩
 case round=>
  obtain⟨k,over,rk,hk,hov,rfl,rfl,hr,hv⟩:=hrel
  have HR:=Hi hr
  have HV:=Hi hv
  clear hv
  by_cases hlt:k<m.length
  ·
   obtain⟨b,o,rfl,hb1,hc1⟩:=(HM.out.onlyG HR.out.only HNE.out).cell k hlt
   obtain⟨v,hv⟩:∃v,m.getD k 0=v:=⟨_,rfl⟩
   rw[hv] at hc1
   have hvb:v<18446744073709551616:=by rw[←hv];exact HMS.out.getD (by omega) k
   obtain⟨z,hz⟩:∃z,rk.getD (off+k) 0=z:=⟨_,rfl⟩
   have hzb:z<18446744073709551616:=by rw[←hz];exact HR.out.small.getD (by omega) _
   have g1:=hr.blk.free (off+k)
   have g2:=hr.blk.cell (off+k) (by rw[hr.len];omega)
   rw[hz] at g2
   obtain⟨z',c2',hz',hc2b,hzc,hcb⟩:=add64 z v over hzb hvb hov
   have HSUM:=Hi hzc
   have HV1:=Hi hv
   have HZ1:=Hi hz
   clear hr hv hz hzc
   go_wp2_with (simp only[hcb])
   go_roundw
   case rel=>
    refine⟨k+1,c2',rk.set (off+k) z',by omega,hc2b,by go_num,by go_num,⟨HR.out.blk.set _ _,by rw[List.length_set];exact HR.out.len,HR.out.small.set _ hz',HR.out.only.setCell _ _,Qey HR.out.out⟩,?_⟩
    have h1:=Qhq 18446744073709551616 (off+k) z z' over c2' (v*1) _ rk (by rw[HR.out.len];omega) HZ1.out (by rw[HSUM.out];omega) HV.out
    rw[Nat.add_assoc] at h1
    rw[h1,Qe0,HV1.out]
    omega
   case measure=>simp[intOf];omega
  ·
   have e1:k=m.length:=by omega
   subst e1
   clear hr
   go_wp2
   go_ret
   exact⟨over,rk,rfl,hov,HR.out,by have:=HV.out;rw[List.take_length] at this;exact this⟩
set_option maxHeartbeats 1000000 in
theorem Qhp(a1 a2:Option Addr)(c1 c2:Nat)(l m:List Nat)(x y:Nat)(w:World)(h1:U64 w a1 c1 l x)(h2:U64 w a2 c2 m y)(hlm:l.length+m.length≤1099511627776):
 Calls Tryz.prog 217 #[.slice a1 l.length c1,.slice a2 m.length c2] w fun e w'=>(∃a cap r,e=.returned (.slice a r.length cap)∧U64 w' a cap r (x*y))∧Below w.heap.size w w':=by
 have H1:=Hi h1
 have H2:=Hi h2
 by_cases hx0:l.length=0
 ·
  have hx:x=0:=(h1.num.len_zero (by decide)).2 hx0
  have q1:((l.length:Int) == 0)=true:=by simp[hx0]
  subst hx
  clear h1 h2
  go_enter Tryz.func217,Tryz.ntmps217
  go_wp2
  go_ret
  exact⟨⟨none,0,[],rfl,by rw[Nat.zero_mul];exact U64.nil _⟩,Below.refl _ _⟩
 by_cases hy0:m.length=0
 ·
  have hy:y=0:=(h2.num.len_zero (by decide)).2 hy0
  have q1:((l.length:Int) == 0)=false:=by rw[beq_eq_false_iff_ne];omega
  have q2:((m.length:Int) == 0)=true:=by simp[hy0]
  subst hy
  clear h1 h2
  go_enter Tryz.func217,Tryz.ntmps217
  go_wp2
  go_ret
  exact⟨⟨none,0,[],rfl,by rw[Nat.mul_zero];exact U64.nil _⟩,Below.refl _ _⟩
 have q1:((l.length:Int) == 0)=false:=by rw[beq_eq_false_iff_ne];omega
 have q2:((m.length:Int) == 0)=false:=by rw[beq_eq_false_iff_ne];omega
 have HO1:=Hi (Qci a1 c1 l x w h1)
 have HO2:=Hi (Qci a2 c2 m y w h2)
 clear h1 h2
 by_cases hx1:x=1
 ·
  rw[show decide (x=1)=true by simpa using hx1] at HO1
  go_enter Tryz.func217,Tryz.ntmps217
  go_wp2_with fail
  refine HO1.out.mono ?_
  rintro e w1 ⟨rfl,hw1⟩
  subst hw1
  clear HO1 HO2
  go_wp2
  go_ret
  exact⟨⟨a2,c2,m,rfl,by rw[hx1,Nat.one_mul];exact H2.out⟩,Below.refl _ _⟩
 rw[show decide (x=1)=false by simpa using hx1] at HO1
 by_cases hy1:y=1
 ·
  rw[show decide (y=1)=true by simpa using hy1] at HO2
  go_enter Tryz.func217,Tryz.ntmps217
  go_wp2_with fail
  refine HO1.out.mono ?_
  rintro e w1 ⟨rfl,hw1⟩
  subst hw1
  go_wp2_with fail
  refine HO2.out.mono ?_
  rintro e w1 ⟨rfl,hw1⟩
  subst hw1
  clear HO1 HO2
  go_wp2
  go_ret
  exact⟨⟨a1,c1,l,rfl,by rw[hy1,Nat.mul_one];exact H1.out⟩,Below.refl _ _⟩
 rw[show decide (y=1)=false by simpa using hy1] at HO2
 have hmk:∀w,(Instr.makeSlice 126 (.int .i64 ((l.length:Int)+(m.length:Int))) (.int .i64 ((l.length:Int)+(m.length:Int)))).run Tryz.prog w=.ok (.slice (some ⟨w.heap.size,0,none⟩) (l.length+m.length) (l.length+m.length)) (w.alloc (.cells (wordCells .u64 (zeros (l.length+m.length))) 222)):=
  fun w=>Qcf _ (l.length+m.length) (by omega) (by omega) w
 go_enter Tryz.func217,Tryz.ntmps217
 go_wp2_with fail
 refine HO1.out.mono ?_
 rintro e w1 ⟨rfl,hw1⟩
 subst hw1
 go_wp2_with fail
 refine HO2.out.mono ?_
 rintro e w ⟨rfl,hw1⟩
 subst hw1
 clear HO1 HO2
 go_wp2
 clear hmk
 go_loopw [30] (fun i wr=>∃(k:Nat) (rs:List Nat),k≤l.length∧i=.int .i64 k∧Blk .u64 222 wr w.heap.size rs∧rs.length=l.length+m.length∧Small 18446744073709551616 rs∧val 18446744073709551616 rs=val 18446744073709551616 (l.take k)*y∧(∀p,k+m.length≤p→rs.getD p 0=0)∧Below w.heap.size w wr) (fun i _=>l.length - (intOf i).toNat)
 case atStart=>exact⟨0,zeros (l.length+m.length),by omega,rfl,Blk.new _ _ _ _,Qaf _,Qal _ _ (by omega),by rw[Qdc];simp[val],fun p _=>Qbi _ _,(Below.refl _ _).alloc (Nat.le_refl _) _⟩
 case round=>
  obtain⟨k,rs,hk,rfl,hB,hrl,hrs,hv,hz,hb⟩:=hrel
  have HB:=Hi hB
  have HRL:=Hi hrl
  have HRS:=Hi hrs
  have HV:=Hi hv
  have HZ:=Hi hz
  have HBL:=Hi hb
  clear hB hrl hrs hv hz hb
  by_cases hlt:k<l.length
  ·
   obtain⟨b,off,rfl,hb1,hc1⟩:=(H1.out.row.below HBL.out).cell k hlt
   obtain⟨d,hd⟩:∃d,l.getD k 0=d:=⟨_,rfl⟩
   rw[hd] at hc1
   have hdb:d<18446744073709551616:=by rw[←hd];exact H1.out.num.small.getD (by omega) k
   have HD:=Hi hd
   have HC:=Hi (Qnt w.heap.size k (l.length+m.length - k) rs a2 c2 m d wr HB.out HRS.out (H2.out.row.below HBL.out) H2.out.num.small H2.out.short hdb (by have:=HRL.out;omega) (by omega) (fun b o hbo=>by
    rcases H2.out.row.shape with ⟨h,_⟩|⟨b',o',h,hlt'⟩
    · rw[h] at hbo;cases hbo
    ·
     rw[h] at hbo
     obtain⟨rfl,rfl⟩:b'=b∧o'=o:=by simpa using hbo
     omega))
   clear hd
   go_wp2_with fail
   refine HC.out.mono ?_
   rintro e w2 ⟨over,rs',rfl,hov,hdone,hval⟩
   have g1:=hdone.blk.free (k+m.length)
   have g2:=hdone.blk.cell (k+m.length) (by rw[hdone.len,HRL.out];omega)
   have hz0:rs'.getD (k+m.length) 0=0:=by rw[hdone.out _ (.inr (Nat.le_refl _))];exact HZ.out _ (Nat.le_refl _)
   rw[hz0] at g2
   have HDO:=Hi hdone
   have HVA:=Hi hval
   have HZ0:=Hi hz0
   clear hdone hval hz0 HC
   go_wp2
   go_roundw
   case rel=>
    have hlen:rs'.length=l.length+m.length:=by rw[HDO.out.len];exact HRL.out
    refine⟨k+1,rs'.set (k+m.length) over,by omega,by go_num,HDO.out.blk.set _ _,by rw[List.length_set];exact hlen,HDO.out.small.set _ hov,?_,?_,(HBL.out.trans (HDO.out.only.below (Nat.le_refl _) HBL.out.size)).setCell (Nat.le_refl _) _⟩
    ·
     have h3:=Qa5 18446744073709551616 rs' (k+m.length) over (by omega)
     rw[HZ0.out,Nat.mul_zero,Nat.add_zero] at h3
     rw[h3,HVA.out,HV.out,Qac,HD.out,H2.out.num.eq,Nat.add_mul,Nat.mul_assoc]
    ·
     intro p hp
     rw[getD_set_ne _ _ _ _ (by omega),HDO.out.out p (.inr (by omega))]
     exact HZ.out p (by omega)
   case measure=>simp[intOf];omega
  ·
   have e1:k=l.length:=by omega
   go_wp2_with fail
   refine(Qch w.heap.size (l.length+m.length) (l.length+m.length) (x*y) rs _ HB.out HRL.out HRS.out (Nat.le_refl _) (by omega) (by rw[HV.out,e1,List.take_length,H1.out.num.eq])).mono ?_
   rintro e w1 ⟨⟨r,rfl,hu⟩,rfl⟩
   go_wp2
   go_ret
   exact⟨⟨_,_,r,rfl,hu⟩,HBL.out⟩
end Go.Proofs.YtgnmjaponiclhaaGreatDoor
namespace Go.Proofs.YtgnmjaponiclhaaGreatDoor
set_option linter.unusedVariables false
theorem Qao{yn1 yn0 u n1 q r Y:Nat}(hY:Y=4294967296*yn1+yn0)(hq:q*yn1+r=u):q*yn0≤4294967296*r+n1↔q*Y≤4294967296*u+n1:=by
 have e1:q*Y=4294967296*(q*yn1)+q*yn0:=by rw[hY,Nat.mul_add,Nat.mul_left_comm]
 generalize q*yn1=A at*
 generalize q*yn0=T at*
 omega
theorem Qc3{yn1 yn0 u n1 Y:Nat}(hY:Y=4294967296*yn1+yn0)(hn:n1<4294967296)(h0:0<yn1):(4294967296*u+n1) / Y≤u / yn1:=by
 have h1:(4294967296*u+n1) / Y≤(4294967296*u+n1) / (4294967296*yn1):=Nat.div_le_div_left (by omega) (by omega)
 rw[←Nat.div_div_eq_div_mul] at h1
 have h2:(4294967296*u+n1) / 4294967296=u:=by omega
 rw[h2] at h1
 exact h1
theorem Qad{u n1 Y:Nat}(hu:u<Y)(hn:n1<4294967296):(4294967296*u+n1) / Y<4294967296:=by
 rw[Nat.div_lt_iff_lt_mul (by omega)]
 omega
theorem Qap{u n1 q Y:Nat}(hY:0<Y)(h1:q*Y≤4294967296*u+n1)(h2:(4294967296*u+n1) / Y≤q):(4294967296*u+n1) / Y=q:=
 Nat.le_antisymm h2 ((Nat.le_div_iff_mul_le hY).2 h1)
theorem Qc4{u n1 q Y:Nat}(hY:0<Y)(h1:¬q*Y≤4294967296*u+n1):(4294967296*u+n1) / Y<q:=by
 rw[Nat.div_lt_iff_lt_mul hY]
 omega
theorem Qa7{yn1 yn0 u q r Y:Nat}(hY:Y=4294967296*yn1+yn0)(h0:yn0<4294967296)(hu:u<Y)(hq:q*yn1+r=u)(hr:4294967296≤r)(h1:0<yn1):q<4294967296∧q*yn0≤4294967295*4294967295:=by
 have h2:q*yn1<4294967296*yn1:=by omega
 have h3:q<4294967296:=Nat.lt_of_mul_lt_mul_right h2
 exact⟨h3,Nat.mul_le_mul (by omega) (by omega)⟩
theorem Qbg{s:Nat}(hs:s≤64):2 ^ s*2 ^ (64 - s)=18446744073709551616:=by
 rw[←Nat.pow_add,show s+(64 - s)=64 by omega]
theorem low64{lo s:Nat}(hs:s≤64):lo*2 ^ s=18446744073709551616*(lo / 2 ^ (64 - s))+lo*2 ^ s % 18446744073709551616:=by
 have h1:=Nat.div_add_mod (lo*2 ^ s) 18446744073709551616
 have h2:lo*2 ^ s / 18446744073709551616=lo / 2 ^ (64 - s):=by
  rw[←Qbg hs,Nat.mul_comm lo,Nat.mul_div_mul_left _ _ (Nat.two_pow_pos s)]
 rw[h2] at h1
 exact h1.symm
theorem Qef{lo s:Nat}(hs:s≤64)(hl:lo<18446744073709551616):lo / 2 ^ (64 - s)<2 ^ s:=by
 rw[Nat.div_lt_iff_lt_mul (Nat.two_pow_pos _),Qbg hs]
 exact hl
open Go.RowKit
set_option linter.unusedSimpArgs false
theorem Qec(x:Int)(w:World)(h0:0≤x)(h1:x≤18446744073709551615):
 Calls Tryz.prog 303 #[.int .u64 x] w fun e w'=>e=.returned (.int .i64 (64 - (Lib.bitLen x.toNat:Int)))∧w'=w:=Any.bits_LeadingZeros64 Tryz.lays134 x w h0 h1
set_option maxRecDepth 100000 in
set_option maxHeartbeats 1000000 in
theorem Qla(lo y:Nat)(w:World)(hl:lo<18446744073709551616)(hy:y<18446744073709551616)(h0:0<y):
 Calls Tryz.prog 308 #[.int .u64 0,.int .u64 lo,.int .u64 y] w fun e w'=>e=.returned (.tuple #[.int .u64 ((lo / y:Nat):Int),.int .u64 ((lo % y:Nat):Int)])∧∃n,w'=w.drewN n:=by
 have q0:((y:Int) == 0)=false:=by rw[beq_eq_false_iff_ne];omega
 have q1:¬((y:Int)≤0):=by omega
 obtain⟨Q,hQ⟩:∃Q,lo / y=Q:=⟨_,rfl⟩
 obtain⟨R,hR⟩:∃R,lo % y=R:=⟨_,rfl⟩
 have hQb:Q<18446744073709551616:=by rw[←hQ];exact Nat.lt_of_le_of_lt (Nat.div_le_self _ _) hl
 have d1:(lo:Int) / (y:Int)=(Q:Int):=by rw[←hQ];rfl
 have d2:(lo:Int) % (y:Int)=(R:Int):=by rw[←hR];rfl
 have d1':Int.tdiv (lo:Int) (y:Int)=(Q:Int):=by rw[←hQ];rfl
 have d2':Int.tmod (lo:Int) (y:Int)=(R:Int):=by rw[←hR];rfl
 rw[hQ,hR]
 clear hQ hR
 go_enter Tryz.func308,Tryz.ntmps308
 go_wp2
 go_quiet (fail)
 go_wp2
 go_ret2
 exact⟨rfl,_,rfl⟩
theorem Qed(y:Nat)(h0:0<y)(hy:y<18446744073709551616):∃s:Nat,s<64∧64 - (Lib.bitLen (y:Int).toNat:Int)=s∧9223372036854775808≤y*2 ^ s∧y*2 ^ s<18446744073709551616:=by
 rw[Int.toNat_natCast]
 have key:∀(k:Nat),k≤64→∀z,2 ^ (64 - k)≤z→z<18446744073709551616→True:=fun _ _ _ _ _=>trivial
 have hn:=Qd9 y
 have hp:=Qgb (n:=y) (k:=nb y - 1) (by have:=Qcy h0;omega)
 have hnb:nb y≤64:=nb_le hy
 have hpos:=Qcy h0
 have e:Lib.bitLen y=nb y:=by
  have h1:=Lib.bitLen_shift (nb y - 1) y hp hy
  have h2:y / 2 ^ (nb y - 1)=1:=by
   apply Nat.le_antisymm
   ·
    have:y / 2 ^ (nb y - 1)<2:=by
     rw[Nat.div_lt_iff_lt_mul (Nat.two_pow_pos _),←Nat.pow_succ',show (nb y - 1).succ=nb y by omega]
     exact hn
    omega
   · exact(Nat.one_le_div_iff (Nat.two_pow_pos _)).2 hp
  rw[h2] at h1
  have h3:Lib.bitLen 1=1:=by decide
  rw[h1,h3];omega
 refine⟨64 - nb y,by omega,by rw[e];omega,?_,?_⟩
 ·
  have:2 ^ (nb y - 1)*2 ^ (64 - nb y)≤y*2 ^ (64 - nb y):=Nat.mul_le_mul_right _ hp
  rw[←Nat.pow_add,show nb y - 1+(64 - nb y)=63 by omega] at this
  exact this
 ·
  have:y*2 ^ (64 - nb y)<2 ^ nb y*2 ^ (64 - nb y):=Nat.mul_lt_mul_of_pos_right hn (Nat.two_pow_pos _)
  rw[←Nat.pow_add,show nb y+(64 - nb y)=64 by omega] at this
  exact this
theorem Qee(u yn1:Nat)(hy:2147483648≤yn1)(hy':yn1<4294967296)(hu:u<18446744073709551616):∃q p r:Nat,u / yn1=q∧q*yn1=p∧p+r=u∧r<yn1∧q<8589934592∧Int.tdiv (u:Int) (yn1:Int)=(q:Int)∧(u:Int) / (yn1:Int)=(q:Int)∧(q:Int)*(yn1:Int)=(p:Int)∧(u:Int) - (p:Int)=(r:Int):=by
 have hpr:u / yn1*yn1+u % yn1=u:=by rw[Nat.mul_comm];exact Nat.div_add_mod u yn1
 refine⟨u / yn1,u / yn1*yn1,u % yn1,rfl,rfl,hpr,Nat.mod_lt _ (by omega),?_,rfl,rfl,rfl,?_⟩
 · rw[Nat.div_lt_iff_lt_mul (by omega)];omega
 · have:((u / yn1*yn1:Nat):Int)+((u % yn1:Nat):Int)=(u:Int):=by rw[←Int.natCast_add,hpr]
   omega
theorem Qan(u un1 q Y:Nat)(hY:Y<18446744073709551616)(hY0:0<Y)(hn:un1<4294967296)(hQ:(4294967296*u+un1) / Y=q):
 ∃a1 P b1 v:Nat,a1+un1<18446744073709551616∧b1<18446744073709551616∧v<Y∧v+q*Y=4294967296*u+un1∧(IntKind.u64.wrap ((u:Int)*4294967296)=(a1:Int))∧((q:Int)*(Y:Int)=(P:Int))∧(IntKind.u64.wrap (P:Int)=(b1:Int))∧IntKind.u64.wrap ((a1:Int)+(un1:Int) - (b1:Int))=(v:Int):=by
 have hv:(4294967296*u+un1) % Y+q*Y=4294967296*u+un1:=by
  have h:=Nat.mod_add_div (4294967296*u+un1) Y
  rw[hQ,Nat.mul_comm Y q] at h
  exact h
 have hvb:(4294967296*u+un1) % Y<Y:=Nat.mod_lt _ hY0
 refine⟨u*4294967296 % 18446744073709551616,q*Y,q*Y % 18446744073709551616,(4294967296*u+un1) % Y,by omega,by omega,hvb,hv,?_,rfl,?_,?_⟩
 · rw[Qam];omega
 · rw[Qam];rfl
 ·
  rw[Qam]
  generalize q*Y=P at*
  generalize (4294967296*u+un1) % Y=v at*
  omega
theorem Qay{hi lo y s u H l2 un10 un1 un0 Y Q Q0 v v2:Nat}(hY:y*2 ^ s=Y)(hH:hi*2 ^ s=H)(hu:H+l2=u)(hlow:lo*2 ^ s=18446744073709551616*l2+un10)(hun:un10=4294967296*un1+un0)(h1:v+Q*Y=4294967296*u+un1)(h2:v2+Q0*Y=4294967296*v+un0)(hv2:v2<Y):
 (18446744073709551616*hi+lo) / y=Q*4294967296+Q0∧(18446744073709551616*hi+lo) % y=v2 / 2 ^ s:=by
 have h:=Qel (X:=(18446744073709551616*hi+lo)*2 ^ s) (V:=Y) (x:=18446744073709551616*hi+lo) (y:=y) (p:=2 ^ s) (Q:=Q*4294967296+Q0) (R:=v2) (Nat.two_pow_pos s) rfl hY (by
  rw[Nat.add_mul,Nat.mul_assoc,hH,hlow,Nat.mul_add,Nat.mul_comm Y (Q*4294967296),Nat.mul_comm Y Q0,Nat.mul_assoc Q,Nat.mul_comm 4294967296 Y,←Nat.mul_assoc]
  generalize Q*Y=A at*
  generalize Q0*Y=B at*
  omega) hv2
 exact⟨h.1.symm,h.2.symm⟩
set_option maxRecDepth 100000 in
set_option maxHeartbeats 4000000 in
theorem Qlb(hi lo y QQ RR:Nat)(w:World)(hQQ:(18446744073709551616*hi+lo) / y=QQ)(hRR:(18446744073709551616*hi+lo) % y=RR)(hh:0<hi)(hhy:hi<y)(hl:lo<18446744073709551616)(hy:y<18446744073709551616):
 Calls Tryz.prog 308 #[.int .u64 hi,.int .u64 lo,.int .u64 y] w fun e w'=>e=.returned (.tuple #[.int .u64 (QQ:Int),.int .u64 (RR:Int)])∧∃n,w'=w.drewN n:=by
 have HQQ:=Hi hQQ
 have HRR:=Hi hRR
 clear hQQ hRR
 have q0:((y:Int) == 0)=false:=by rw[beq_eq_false_iff_ne];omega
 have q1:¬((y:Int)≤(hi:Int)):=by omega
 have q2:((hi:Int) == 0)=false:=by rw[beq_eq_false_iff_ne];omega
 obtain⟨s,hs64,hs,hY1,hY2⟩:=Qed y (by omega) hy
 have HL:=Hi (Qec y w (by omega) (by omega))
 rw[hs] at HL
 obtain⟨Y,hYe⟩:∃Y,y*2 ^ s=Y:=⟨_,rfl⟩
 rw[hYe] at hY1 hY2
 obtain⟨H,hHe⟩:∃H,hi*2 ^ s=H:=⟨_,rfl⟩
 have hHY:H<Y:=by rw[←hHe,←hYe];exact Nat.mul_lt_mul_of_pos_right hhy (Nat.two_pow_pos _)
 obtain⟨l2,hl2e⟩:∃l2,lo / 2 ^ (64 - s)=l2:=⟨_,rfl⟩
 have hl2:l2<2 ^ s:=by rw[←hl2e];exact Qef (by omega) hl
 obtain⟨un10,hun10⟩:∃z,lo*2 ^ s % 18446744073709551616=z:=⟨_,rfl⟩
 have hun10b:un10<18446744073709551616:=by rw[←hun10];exact Nat.mod_lt _ (by decide)
 have hlow:=low64 (lo:=lo) (s:=s) (by omega)
 rw[hl2e,hun10] at hlow
 have hu32b:H+l2<Y:=by
  have:(hi+1)*2 ^ s≤y*2 ^ s:=Nat.mul_le_mul_right _ hhy
  rw[Nat.add_mul,hHe,hYe,Nat.one_mul] at this
  omega
 have r1:IntKind.u64.wrap ((y:Int)*2 ^ s)=(Y:Int):=by
  rw[show (y:Int)*2 ^ s=((y*2 ^ s:Nat):Int) by rw[Int.natCast_mul,Int.natCast_pow];rfl,hYe];exact Qbp Y hY2
 have r4:IntKind.u64.wrap ((hi:Int)*2 ^ s)=(H:Int):=by
  rw[show (hi:Int)*2 ^ s=((hi*2 ^ s:Nat):Int) by rw[Int.natCast_mul,Int.natCast_pow];rfl,hHe];exact Qbp H (by omega)
 have r5:(lo:Int) / 2 ^ (64 - s)=(l2:Int):=by
  rw[←hl2e,Int.natCast_ediv,Int.natCast_pow];rfl
 have r7:IntKind.u64.wrap ((lo:Int)*2 ^ s)=(un10:Int):=by
  rw[show (lo:Int)*2 ^ s=((lo*2 ^ s:Nat):Int) by rw[Int.natCast_mul,Int.natCast_pow];rfl,Qam,←hun10];rfl
 obtain⟨u,hu⟩:∃u,H+l2=u:=⟨_,rfl⟩
 have r6:bits .or .u64 (H:Int) (l2:Int)=(u:Int):=by
  rw[or64 (H:Int) (l2:Int) hi l2 s (by rw[←hHe,Nat.mul_comm]) rfl hl2 (by rw[Nat.mul_comm,hHe];omega),Nat.mul_comm,hHe,hu]
 rw[hu] at hu32b
 obtain⟨yn1,hyn1⟩:∃z,Y / 4294967296=z:=⟨_,rfl⟩
 obtain⟨yn0,hyn0⟩:∃z,Y % 4294967296=z:=⟨_,rfl⟩
 have hYs:Y=4294967296*yn1+yn0:=by omega
 have hyn1b:2147483648≤yn1∧yn1<4294967296:=by omega
 have hyn0b:yn0<4294967296:=by omega
 have r2:(Y:Int) / 4294967296=(yn1:Int):=by omega
 have r3:bits .and .u64 (Y:Int) 4294967295=(yn0:Int):=by rw[Mul64.maskN Y hY2,hyn0]
 obtain⟨un1,hun1⟩:∃z,un10 / 4294967296=z:=⟨_,rfl⟩
 obtain⟨un0,hun0⟩:∃z,un10 % 4294967296=z:=⟨_,rfl⟩
 have hun1b:un1<4294967296:=by omega
 have hun0b:un0<4294967296:=by omega
 have r8:(un10:Int) / 4294967296=(un1:Int):=by omega
 have r9:bits .and .u64 (un10:Int) 4294967295=(un0:Int):=by rw[Mul64.maskN un10 hun10b,hun0]
 have q3:((yn1:Int) == 0)=false:=by rw[beq_eq_false_iff_ne];omega
 obtain⟨q,hq⟩:∃q,u / yn1=q:=⟨_,rfl⟩
 obtain⟨p,hp⟩:∃p,q*yn1=p:=⟨_,rfl⟩
 obtain⟨r,hr⟩:∃r,u % yn1=r:=⟨_,rfl⟩
 have hpr:p+r=u:=by rw[←hp,←hq,←hr,Nat.mul_comm];exact Nat.div_add_mod u yn1
 have hrb:r<yn1:=by rw[←hr];exact Nat.mod_lt _ (by omega)
 have r10:Int.tdiv (u:Int) (yn1:Int)=(q:Int):=by rw[←hq];rfl
 have r10':(u:Int) / (yn1:Int)=(q:Int):=by rw[←hq];rfl
 have r11:(q:Int)*(yn1:Int)=(p:Int):=by rw[←hp];rfl
 have hqb:q<8589934592:=by
  rw[←hq,Nat.div_lt_iff_lt_mul (by omega)]
  omega
 have HYS:=Hi hYs
 have HUN:=Hi (show un10=4294967296*un1+un0 by omega)
 have HLOW:=Hi hlow
 have HYE:=Hi hYe
 have HHE:=Hi hHe
 have HU:=Hi hu
 have HPR:=Hi hpr
 have HP:=Hi hp
 have HST:Hid ((4294967296*u+un1) / Y≤q):=Hi (by rw[←hq];exact Qc3 hYs hun1b (by omega))
 have r12:(u:Int) - (p:Int)=(r:Int):=by omega
 clear hYe hHe hl2e hun10 hl2 hu hq hr hp hYs hyn1 hyn0 hun1 hun0 hlow hpr hs
 go_enter Tryz.func308,Tryz.ntmps308
 go_wp2_with fail
 refine HL.out.mono ?_
 rintro e w ⟨rfl,hw⟩
 subst hw
 clear HL
 go_wp2_with fail
 have hY0:0<Y:=by omega
 go_loop [15,16] (fun qv rv=>∃q r:Nat,qv=.int .u64 q∧rv=.int .u64 r∧q*yn1+r=u∧(4294967296*u+un1) / Y≤q∧r<4294967296∧q<8589934592) (fun qv _=>(intOf qv).toNat)
 case atStart=>exact⟨q,r,rfl,rfl,by rw[HP.out];exact HPR.out,HST.out,by omega,hqb⟩
 case round=>
  clear hqb hrb r10 r10' r11 r12
  obtain⟨q,r,rfl,rfl,hqr,hQ,hrb,hqb⟩:=hrel
  have HQR:=Hi hqr
  have HQ:=Hi hQ
  clear hqr hQ
  by_cases hA:4294967296≤q
  ·
   have HLT:Hid ((4294967296*u+un1) / Y<q):=Hi (Nat.lt_of_lt_of_le (Qad hu32b hun1b) hA)
   have hA':(4294967296:Int)≤(q:Int):=by omega
   have hq1:1≤q:=by omega
   clear hA
   obtain⟨qm,hqm⟩:∃qm,q=qm+1:=⟨q - 1,by omega⟩
   have eq1:(q:Int) - 1=(qm:Int):=by omega
   have hqmb:qm<8589934592:=by omega
   have HQM:=Hi hqm
   have HQR1:Hid (qm*yn1+(r+yn1)=u):=Hi (by have:=HQR.out;rw[hqm,Nat.succ_mul] at this;omega)
   have HQ1:Hid ((4294967296*u+un1) / Y≤qm):=Hi (Nat.le_of_lt_succ (by have:=HLT.out;omega))
   clear hqm hq1
   by_cases hC:4294967296≤r+yn1
   ·
    have hbr:=Qa7 HYS.out hyn0b hu32b HQR1.out hC (by omega)
    have HQF:Hid ((4294967296*u+un1) / Y=qm):=Hi (Qap hY0 ((Qao (n1:=un1) HYS.out HQR1.out).1 (by omega)) HQ1.out)
    have hC':(4294967296:Int)≤(r:Int)+(yn1:Int):=by omega
    clear hC hbr
    obtain⟨a1,P,b1,v,ha1,hb1,hvY,hvq,z1,z2,z3,z4⟩:=Qan u un1 qm Y hY2 hY0 hun1b HQF.out
    obtain⟨q2',p2,r2',hq2,hp2,hpr2,hr2b,hq2b,x1,x2,x3,x4⟩:=Qee v yn1 hyn1b.1 hyn1b.2 (by omega)
    have HVQ:=Hi hvq
    have HQ2:=Hi hq2
    have HP2:=Hi hp2
    have HPR2:=Hi hpr2
    clear hvq r1 r2 r3 r4 r5 r6 r7 r8 r9 hq2 hp2 hpr2
    go_wp2_with fail
    clear z1 z2 z3 z4
    go_loop [18,16] (fun qv rv=>∃q r:Nat,qv=.int .u64 q∧rv=.int .u64 r∧q*yn1+r=v∧(4294967296*v+un0) / Y≤q∧r<4294967296∧q<8589934592) (fun qv _=>(intOf qv).toNat)
    case atStart=>exact⟨q2',r2',rfl,rfl,by rw[HP2.out];exact HPR2.out,by rw[←HQ2.out];exact Qc3 HYS.out hun0b (by omega),by omega,hq2b⟩
    case round=>
     clear x1 x2 x3 x4 hr2b hq2b
     obtain⟨q3,r3,rfl,rfl,hqr,hQ,hrb3,hqb3⟩:=hrel
     have HQR3:=Hi hqr
     have HQ3:=Hi hQ
     clear hqr hQ
     by_cases hA:4294967296≤q3
     ·
      have HLT2:Hid ((4294967296*v+un0) / Y<q3):=Hi (Nat.lt_of_lt_of_le (Qad hvY hun0b) hA)
      have hA2:(4294967296:Int)≤(q3:Int):=by omega
      have hq12:1≤q3:=by omega
      clear hA
      obtain⟨qm2,hqm⟩:∃qm2,q3=qm2+1:=⟨q3 - 1,by omega⟩
      have eq12:(q3:Int) - 1=(qm2:Int):=by omega
      have hqmb2:qm2<8589934592:=by omega
      have HQM2:=Hi hqm
      have HQR12:Hid (qm2*yn1+(r3+yn1)=v):=Hi (by have:=HQR3.out;rw[hqm,Nat.succ_mul] at this;omega)
      have HQ12:Hid ((4294967296*v+un0) / Y≤qm2):=Hi (Nat.le_of_lt_succ (by have:=HLT2.out;omega))
      clear hqm hq12
      by_cases hC:4294967296≤r3+yn1
      ·
       have hbr:=Qa7 HYS.out hyn0b hvY HQR12.out hC (by omega)
       have HQF2:Hid ((4294967296*v+un0) / Y=qm2):=Hi (Qap hY0 ((Qao (n1:=un0) HYS.out HQR12.out).1 (by omega)) HQ12.out)
       have hC':(4294967296:Int)≤(r3:Int)+(yn1:Int):=by omega
       clear hC hbr
       obtain⟨a1,P,b1,v2,ha1,hb1,hvY2,hvq,y1,y2,y3,y4⟩:=Qan v un0 qm2 Y hY2 hY0 hun0b HQF2.out
       have hQb:qm<4294967296:=by rw[←HQF.out];exact Qad hu32b hun1b
       have hQb2:qm2<4294967296:=by rw[←HQF2.out];exact Qad hvY hun0b
       obtain⟨R,hR⟩:∃R,v2 / 2 ^ s=R:=⟨_,rfl⟩
       have rR:(v2:Int) / 2 ^ s=(R:Int):=by rw[←hR,Int.natCast_ediv,Int.natCast_pow];rfl
       have HFIN:=Hi (Qay HYE.out HHE.out HU.out HLOW.out HUN.out HVQ.out hvq hvY2)
       rw[hR] at HFIN
       clear hvq hR
       go_wp2_with fail
       go_ret2
       have e1:(QQ:Int)=(qm:Int)*4294967296+(qm2:Int):=by have:=HFIN.out.1;rw[HQQ.out] at this;omega
       have e2:(RR:Int)=(R:Int):=by have:=HFIN.out.2;rw[HRR.out] at this;omega
       exact⟨by rw[e1,e2];rfl,0,rfl⟩
      ·
       have hC':¬((4294967296:Int)≤(r3:Int)+(yn1:Int)):=by omega
       have hC2:r3+yn1<4294967296:=by omega
       clear hC
       go_wp2_with fail
       go_round
       case rel=>exact⟨qm2,r3+yn1,by go_num,by go_num,HQR12.out,HQ12.out,hC2,by omega⟩
       case measure=>have:=HQM2.out;simp[intOf];omega
     ·
      obtain⟨t2,ht⟩:∃t,q3*yn0=t:=⟨_,rfl⟩
      have htb2:t2≤4294967295*4294967295:=by rw[←ht];exact Nat.mul_le_mul (by omega) (by omega)
      have rt2:(q3:Int)*(yn0:Int)=(t2:Int):=by rw[←ht];rfl
      have HIF2:=Hi (Qao (n1:=un0) HYS.out HQR3.out)
      rw[ht] at HIF2
      have hA2:¬((4294967296:Int)≤(q3:Int)):=by omega
      clear ht hA
      by_cases hB:t2≤4294967296*r3+un0
      ·
       have HQF2:=Hi (Qap hY0 (HIF2.out.1 hB) HQ3.out)
       have hB2:¬(4294967296*(r3:Int)+(un0:Int)<(t2:Int)):=by omega
       clear hB
       obtain⟨a1,P,b1,v2,ha1,hb1,hvY2,hvq,y1,y2,y3,y4⟩:=Qan v un0 q3 Y hY2 hY0 hun0b HQF2.out
       have hQb:qm<4294967296:=by rw[←HQF.out];exact Qad hu32b hun1b
       have hQb2:q3<4294967296:=by rw[←HQF2.out];exact Qad hvY hun0b
       obtain⟨R,hR⟩:∃R,v2 / 2 ^ s=R:=⟨_,rfl⟩
       have rR:(v2:Int) / 2 ^ s=(R:Int):=by rw[←hR,Int.natCast_ediv,Int.natCast_pow];rfl
       have HFIN:=Hi (Qay HYE.out HHE.out HU.out HLOW.out HUN.out HVQ.out hvq hvY2)
       rw[hR] at HFIN
       clear hvq hR
       go_wp2_with fail
       go_ret2
       have e1:(QQ:Int)=(qm:Int)*4294967296+(q3:Int):=by have:=HFIN.out.1;rw[HQQ.out] at this;omega
       have e2:(RR:Int)=(R:Int):=by have:=HFIN.out.2;rw[HRR.out] at this;omega
       exact⟨by rw[e1,e2];rfl,0,rfl⟩
      ·
       have HLT2:=Hi (Qc4 hY0 (fun h=>hB (HIF2.out.2 h)))
       have hB2:4294967296*(r3:Int)+(un0:Int)<(t2:Int):=by omega
       have hq12:1≤q3:=by
        rcases Nat.eq_zero_or_pos q3 with h|h
        ·
         exfalso
         subst h
         have:=rt2
         simp at this
         omega
        · exact h
       clear hB
       obtain⟨qm2,hqm⟩:∃qm2,q3=qm2+1:=⟨q3 - 1,by omega⟩
       have eq12:(q3:Int) - 1=(qm2:Int):=by omega
       have hqmb2:qm2<8589934592:=by omega
       have HQM2:=Hi hqm
       have HQR12:Hid (qm2*yn1+(r3+yn1)=v):=Hi (by have:=HQR3.out;rw[hqm,Nat.succ_mul] at this;omega)
       have HQ12:Hid ((4294967296*v+un0) / Y≤qm2):=Hi (Nat.le_of_lt_succ (by have:=HLT2.out;omega))
       clear hqm hq12
       by_cases hC:4294967296≤r3+yn1
       ·
        have hbr:=Qa7 HYS.out hyn0b hvY HQR12.out hC (by omega)
        have HQF2:Hid ((4294967296*v+un0) / Y=qm2):=Hi (Qap hY0 ((Qao (n1:=un0) HYS.out HQR12.out).1 (by omega)) HQ12.out)
        have hC':(4294967296:Int)≤(r3:Int)+(yn1:Int):=by omega
        clear hC hbr
        obtain⟨a1,P,b1,v2,ha1,hb1,hvY2,hvq,y1,y2,y3,y4⟩:=Qan v un0 qm2 Y hY2 hY0 hun0b HQF2.out
        have hQb:qm<4294967296:=by rw[←HQF.out];exact Qad hu32b hun1b
        have hQb2:qm2<4294967296:=by rw[←HQF2.out];exact Qad hvY hun0b
        obtain⟨R,hR⟩:∃R,v2 / 2 ^ s=R:=⟨_,rfl⟩
        have rR:(v2:Int) / 2 ^ s=(R:Int):=by rw[←hR,Int.natCast_ediv,Int.natCast_pow];rfl
        have HFIN:=Hi (Qay HYE.out HHE.out HU.out HLOW.out HUN.out HVQ.out hvq hvY2)
        rw[hR] at HFIN
        clear hvq hR
        go_wp2_with fail
        go_ret2
        have e1:(QQ:Int)=(qm:Int)*4294967296+(qm2:Int):=by have:=HFIN.out.1;rw[HQQ.out] at this;omega
        have e2:(RR:Int)=(R:Int):=by have:=HFIN.out.2;rw[HRR.out] at this;omega
        exact⟨by rw[e1,e2];rfl,0,rfl⟩
       ·
        have hC':¬((4294967296:Int)≤(r3:Int)+(yn1:Int)):=by omega
        have hC2:r3+yn1<4294967296:=by omega
        clear hC
        go_wp2_with fail
        go_round
        case rel=>exact⟨qm2,r3+yn1,by go_num,by go_num,HQR12.out,HQ12.out,hC2,by omega⟩
        case measure=>have:=HQM2.out;simp[intOf];omega
   ·
    have hC':¬((4294967296:Int)≤(r:Int)+(yn1:Int)):=by omega
    have hC2:r+yn1<4294967296:=by omega
    clear hC
    go_wp2_with fail
    go_round
    case rel=>exact⟨qm,r+yn1,by go_num,by go_num,HQR1.out,HQ1.out,hC2,by omega⟩
    case measure=>have:=HQM.out;simp[intOf];omega
  ·
   obtain⟨t,ht⟩:∃t,q*yn0=t:=⟨_,rfl⟩
   have htb:t≤4294967295*4294967295:=by rw[←ht];exact Nat.mul_le_mul (by omega) (by omega)
   have rt:(q:Int)*(yn0:Int)=(t:Int):=by rw[←ht];rfl
   have HIF:=Hi (Qao (n1:=un1) HYS.out HQR.out)
   rw[ht] at HIF
   have hA':¬((4294967296:Int)≤(q:Int)):=by omega
   clear ht hA
   by_cases hB:t≤4294967296*r+un1
   ·
    have HQF:=Hi (Qap hY0 (HIF.out.1 hB) HQ.out)
    have hB':¬(4294967296*(r:Int)+(un1:Int)<(t:Int)):=by omega
    clear hB
    obtain⟨a1,P,b1,v,ha1,hb1,hvY,hvq,z1,z2,z3,z4⟩:=Qan u un1 q Y hY2 hY0 hun1b HQF.out
    obtain⟨q2',p2,r2',hq2,hp2,hpr2,hr2b,hq2b,x1,x2,x3,x4⟩:=Qee v yn1 hyn1b.1 hyn1b.2 (by omega)
    have HVQ:=Hi hvq
    have HQ2:=Hi hq2
    have HP2:=Hi hp2
    have HPR2:=Hi hpr2
    clear hvq r1 r2 r3 r4 r5 r6 r7 r8 r9 hq2 hp2 hpr2
    go_wp2_with fail
    clear z1 z2 z3 z4
    go_loop [18,16] (fun qv rv=>∃q r:Nat,qv=.int .u64 q∧rv=.int .u64 r∧q*yn1+r=v∧(4294967296*v+un0) / Y≤q∧r<4294967296∧q<8589934592) (fun qv _=>(intOf qv).toNat)
    case atStart=>exact⟨q2',r2',rfl,rfl,by rw[HP2.out];exact HPR2.out,by rw[←HQ2.out];exact Qc3 HYS.out hun0b (by omega),by omega,hq2b⟩
    case round=>
     clear x1 x2 x3 x4 hr2b hq2b
     obtain⟨q3,r3,rfl,rfl,hqr,hQ,hrb3,hqb3⟩:=hrel
     have HQR3:=Hi hqr
     have HQ3:=Hi hQ
     clear hqr hQ
     by_cases hA:4294967296≤q3
     ·
      have HLT2:Hid ((4294967296*v+un0) / Y<q3):=Hi (Nat.lt_of_lt_of_le (Qad hvY hun0b) hA)
      have hA2:(4294967296:Int)≤(q3:Int):=by omega
      have hq12:1≤q3:=by omega
      clear hA
      obtain⟨qm2,hqm⟩:∃qm2,q3=qm2+1:=⟨q3 - 1,by omega⟩
      have eq12:(q3:Int) - 1=(qm2:Int):=by omega
      have hqmb2:qm2<8589934592:=by omega
      have HQM2:=Hi hqm
      have HQR12:Hid (qm2*yn1+(r3+yn1)=v):=Hi (by have:=HQR3.out;rw[hqm,Nat.succ_mul] at this;omega)
      have HQ12:Hid ((4294967296*v+un0) / Y≤qm2):=Hi (Nat.le_of_lt_succ (by have:=HLT2.out;omega))
      clear hqm hq12
      by_cases hC:4294967296≤r3+yn1
      ·
       have hbr:=Qa7 HYS.out hyn0b hvY HQR12.out hC (by omega)
       have HQF2:Hid ((4294967296*v+un0) / Y=qm2):=Hi (Qap hY0 ((Qao (n1:=un0) HYS.out HQR12.out).1 (by omega)) HQ12.out)
       have hC':(4294967296:Int)≤(r3:Int)+(yn1:Int):=by omega
       clear hC hbr
       obtain⟨a1,P,b1,v2,ha1,hb1,hvY2,hvq,y1,y2,y3,y4⟩:=Qan v un0 qm2 Y hY2 hY0 hun0b HQF2.out
       have hQb:q<4294967296:=by rw[←HQF.out];exact Qad hu32b hun1b
       have hQb2:qm2<4294967296:=by rw[←HQF2.out];exact Qad hvY hun0b
       obtain⟨R,hR⟩:∃R,v2 / 2 ^ s=R:=⟨_,rfl⟩
       have rR:(v2:Int) / 2 ^ s=(R:Int):=by rw[←hR,Int.natCast_ediv,Int.natCast_pow];rfl
       have HFIN:=Hi (Qay HYE.out HHE.out HU.out HLOW.out HUN.out HVQ.out hvq hvY2)
       rw[hR] at HFIN
       clear hvq hR
       go_wp2_with fail
       go_ret2
       have e1:(QQ:Int)=(q:Int)*4294967296+(qm2:Int):=by have:=HFIN.out.1;rw[HQQ.out] at this;omega
       have e2:(RR:Int)=(R:Int):=by have:=HFIN.out.2;rw[HRR.out] at this;omega
       exact⟨by rw[e1,e2];rfl,0,rfl⟩
      ·
       have hC':¬((4294967296:Int)≤(r3:Int)+(yn1:Int)):=by omega
       have hC2:r3+yn1<4294967296:=by omega
       clear hC
       go_wp2_with fail
       go_round
       case rel=>exact⟨qm2,r3+yn1,by go_num,by go_num,HQR12.out,HQ12.out,hC2,by omega⟩
       case measure=>have:=HQM2.out;simp[intOf];omega
     ·
      obtain⟨t2,ht⟩:∃t,q3*yn0=t:=⟨_,rfl⟩
      have htb2:t2≤4294967295*4294967295:=by rw[←ht];exact Nat.mul_le_mul (by omega) (by omega)
      have rt2:(q3:Int)*(yn0:Int)=(t2:Int):=by rw[←ht];rfl
      have HIF2:=Hi (Qao (n1:=un0) HYS.out HQR3.out)
      rw[ht] at HIF2
      have hA2:¬((4294967296:Int)≤(q3:Int)):=by omega
      clear ht hA
      by_cases hB:t2≤4294967296*r3+un0
      ·
       have HQF2:=Hi (Qap hY0 (HIF2.out.1 hB) HQ3.out)
       have hB2:¬(4294967296*(r3:Int)+(un0:Int)<(t2:Int)):=by omega
       clear hB
       obtain⟨a1,P,b1,v2,ha1,hb1,hvY2,hvq,y1,y2,y3,y4⟩:=Qan v un0 q3 Y hY2 hY0 hun0b HQF2.out
       have hQb:q<4294967296:=by rw[←HQF.out];exact Qad hu32b hun1b
       have hQb2:q3<4294967296:=by rw[←HQF2.out];exact Qad hvY hun0b
       obtain⟨R,hR⟩:∃R,v2 / 2 ^ s=R:=⟨_,rfl⟩
       have rR:(v2:Int) / 2 ^ s=(R:Int):=by rw[←hR,Int.natCast_ediv,Int.natCast_pow];rfl
       have HFIN:=Hi (Qay HYE.out HHE.out HU.out HLOW.out HUN.out HVQ.out hvq hvY2)
       rw[hR] at HFIN
       clear hvq hR
       go_wp2_with fail
       go_ret2
       have e1:(QQ:Int)=(q:Int)*4294967296+(q3:Int):=by have:=HFIN.out.1;rw[HQQ.out] at this;omega
       have e2:(RR:Int)=(R:Int):=by have:=HFIN.out.2;rw[HRR.out] at this;omega
       exact⟨by rw[e1,e2];rfl,0,rfl⟩
      ·
       have HLT2:=Hi (Qc4 hY0 (fun h=>hB (HIF2.out.2 h)))
       have hB2:4294967296*(r3:Int)+(un0:Int)<(t2:Int):=by omega
       have hq12:1≤q3:=by
        rcases Nat.eq_zero_or_pos q3 with h|h
        ·
         exfalso
         subst h
         have:=rt2
         simp at this
         omega
        · exact h
       clear hB
       obtain⟨qm2,hqm⟩:∃qm2,q3=qm2+1:=⟨q3 - 1,by omega⟩
       have eq12:(q3:Int) - 1=(qm2:Int):=by omega
       have hqmb2:qm2<8589934592:=by omega
       have HQM2:=Hi hqm
       have HQR12:Hid (qm2*yn1+(r3+yn1)=v):=Hi (by have:=HQR3.out;rw[hqm,Nat.succ_mul] at this;omega)
       have HQ12:Hid ((4294967296*v+un0) / Y≤qm2):=Hi (Nat.le_of_lt_succ (by have:=HLT2.out;omega))
       clear hqm hq12
       by_cases hC:4294967296≤r3+yn1
       ·
        have hbr:=Qa7 HYS.out hyn0b hvY HQR12.out hC (by omega)
        have HQF2:Hid ((4294967296*v+un0) / Y=qm2):=Hi (Qap hY0 ((Qao (n1:=un0) HYS.out HQR12.out).1 (by omega)) HQ12.out)
        have hC':(4294967296:Int)≤(r3:Int)+(yn1:Int):=by omega
        clear hC hbr
        obtain⟨a1,P,b1,v2,ha1,hb1,hvY2,hvq,y1,y2,y3,y4⟩:=Qan v un0 qm2 Y hY2 hY0 hun0b HQF2.out
        have hQb:q<4294967296:=by rw[←HQF.out];exact Qad hu32b hun1b
        have hQb2:qm2<4294967296:=by rw[←HQF2.out];exact Qad hvY hun0b
        obtain⟨R,hR⟩:∃R,v2 / 2 ^ s=R:=⟨_,rfl⟩
        have rR:(v2:Int) / 2 ^ s=(R:Int):=by rw[←hR,Int.natCast_ediv,Int.natCast_pow];rfl
        have HFIN:=Hi (Qay HYE.out HHE.out HU.out HLOW.out HUN.out HVQ.out hvq hvY2)
        rw[hR] at HFIN
        clear hvq hR
        go_wp2_with fail
        go_ret2
        have e1:(QQ:Int)=(q:Int)*4294967296+(qm2:Int):=by have:=HFIN.out.1;rw[HQQ.out] at this;omega
        have e2:(RR:Int)=(R:Int):=by have:=HFIN.out.2;rw[HRR.out] at this;omega
        exact⟨by rw[e1,e2];rfl,0,rfl⟩
       ·
        have hC':¬((4294967296:Int)≤(r3:Int)+(yn1:Int)):=by omega
        have hC2:r3+yn1<4294967296:=by omega
        clear hC
        go_wp2_with fail
        go_round
        case rel=>exact⟨qm2,r3+yn1,by go_num,by go_num,HQR12.out,HQ12.out,hC2,by omega⟩
        case measure=>have:=HQM2.out;simp[intOf];omega
   ·
    have HLT:=Hi (Qc4 hY0 (fun h=>hB (HIF.out.2 h)))
    have hB':4294967296*(r:Int)+(un1:Int)<(t:Int):=by omega
    have hq1:1≤q:=by
     rcases Nat.eq_zero_or_pos q with h|h
     ·
      exfalso
      subst h
      have:=rt
      simp at this
      omega
     · exact h
    clear hB
    obtain⟨qm,hqm⟩:∃qm,q=qm+1:=⟨q - 1,by omega⟩
    have eq1:(q:Int) - 1=(qm:Int):=by omega
    have hqmb:qm<8589934592:=by omega
    have HQM:=Hi hqm
    have HQR1:Hid (qm*yn1+(r+yn1)=u):=Hi (by have:=HQR.out;rw[hqm,Nat.succ_mul] at this;omega)
    have HQ1:Hid ((4294967296*u+un1) / Y≤qm):=Hi (Nat.le_of_lt_succ (by have:=HLT.out;omega))
    clear hqm hq1
    by_cases hC:4294967296≤r+yn1
    ·
     have hbr:=Qa7 HYS.out hyn0b hu32b HQR1.out hC (by omega)
     have HQF:Hid ((4294967296*u+un1) / Y=qm):=Hi (Qap hY0 ((Qao (n1:=un1) HYS.out HQR1.out).1 (by omega)) HQ1.out)
     have hC':(4294967296:Int)≤(r:Int)+(yn1:Int):=by omega
     clear hC hbr
     obtain⟨a1,P,b1,v,ha1,hb1,hvY,hvq,z1,z2,z3,z4⟩:=Qan u un1 qm Y hY2 hY0 hun1b HQF.out
     obtain⟨q2',p2,r2',hq2,hp2,hpr2,hr2b,hq2b,x1,x2,x3,x4⟩:=Qee v yn1 hyn1b.1 hyn1b.2 (by omega)
     have HVQ:=Hi hvq
     have HQ2:=Hi hq2
     have HP2:=Hi hp2
     have HPR2:=Hi hpr2
     clear hvq r1 r2 r3 r4 r5 r6 r7 r8 r9 hq2 hp2 hpr2
     go_wp2_with fail
     clear z1 z2 z3 z4
     go_loop [18,16] (fun qv rv=>∃q r:Nat,qv=.int .u64 q∧rv=.int .u64 r∧q*yn1+r=v∧(4294967296*v+un0) / Y≤q∧r<4294967296∧q<8589934592) (fun qv _=>(intOf qv).toNat)
     case atStart=>exact⟨q2',r2',rfl,rfl,by rw[HP2.out];exact HPR2.out,by rw[←HQ2.out];exact Qc3 HYS.out hun0b (by omega),by omega,hq2b⟩
     case round=>
      clear x1 x2 x3 x4 hr2b hq2b
      obtain⟨q3,r3,rfl,rfl,hqr,hQ,hrb3,hqb3⟩:=hrel
      have HQR3:=Hi hqr
      have HQ3:=Hi hQ
      clear hqr hQ
      by_cases hA:4294967296≤q3
      ·
       have HLT2:Hid ((4294967296*v+un0) / Y<q3):=Hi (Nat.lt_of_lt_of_le (Qad hvY hun0b) hA)
       have hA2:(4294967296:Int)≤(q3:Int):=by omega
       have hq12:1≤q3:=by omega
       clear hA
       obtain⟨qm2,hqm⟩:∃qm2,q3=qm2+1:=⟨q3 - 1,by omega⟩
       have eq12:(q3:Int) - 1=(qm2:Int):=by omega
       have hqmb2:qm2<8589934592:=by omega
       have HQM2:=Hi hqm
       have HQR12:Hid (qm2*yn1+(r3+yn1)=v):=Hi (by have:=HQR3.out;rw[hqm,Nat.succ_mul] at this;omega)
       have HQ12:Hid ((4294967296*v+un0) / Y≤qm2):=Hi (Nat.le_of_lt_succ (by have:=HLT2.out;omega))
       clear hqm hq12
       by_cases hC:4294967296≤r3+yn1
       ·
        have hbr:=Qa7 HYS.out hyn0b hvY HQR12.out hC (by omega)
        have HQF2:Hid ((4294967296*v+un0) / Y=qm2):=Hi (Qap hY0 ((Qao (n1:=un0) HYS.out HQR12.out).1 (by omega)) HQ12.out)
        have hC':(4294967296:Int)≤(r3:Int)+(yn1:Int):=by omega
        clear hC hbr
        obtain⟨a1,P,b1,v2,ha1,hb1,hvY2,hvq,y1,y2,y3,y4⟩:=Qan v un0 qm2 Y hY2 hY0 hun0b HQF2.out
        have hQb:qm<4294967296:=by rw[←HQF.out];exact Qad hu32b hun1b
        have hQb2:qm2<4294967296:=by rw[←HQF2.out];exact Qad hvY hun0b
        obtain⟨R,hR⟩:∃R,v2 / 2 ^ s=R:=⟨_,rfl⟩
        have rR:(v2:Int) / 2 ^ s=(R:Int):=by rw[←hR,Int.natCast_ediv,Int.natCast_pow];rfl
        have HFIN:=Hi (Qay HYE.out HHE.out HU.out HLOW.out HUN.out HVQ.out hvq hvY2)
        rw[hR] at HFIN
        clear hvq hR
        go_wp2_with fail
        go_ret2
        have e1:(QQ:Int)=(qm:Int)*4294967296+(qm2:Int):=by have:=HFIN.out.1;rw[HQQ.out] at this;omega
        have e2:(RR:Int)=(R:Int):=by have:=HFIN.out.2;rw[HRR.out] at this;omega
        exact⟨by rw[e1,e2];rfl,0,rfl⟩
       ·
        have hC':¬((4294967296:Int)≤(r3:Int)+(yn1:Int)):=by omega
        have hC2:r3+yn1<4294967296:=by omega
        clear hC
        go_wp2_with fail
        go_round
        case rel=>exact⟨qm2,r3+yn1,by go_num,by go_num,HQR12.out,HQ12.out,hC2,by omega⟩
        case measure=>have:=HQM2.out;simp[intOf];omega
      ·
       obtain⟨t2,ht⟩:∃t,q3*yn0=t:=⟨_,rfl⟩
       have htb2:t2≤4294967295*4294967295:=by rw[←ht];exact Nat.mul_le_mul (by omega) (by omega)
       have rt2:(q3:Int)*(yn0:Int)=(t2:Int):=by rw[←ht];rfl
       have HIF2:=Hi (Qao (n1:=un0) HYS.out HQR3.out)
       rw[ht] at HIF2
       have hA2:¬((4294967296:Int)≤(q3:Int)):=by omega
       clear ht hA
       by_cases hB:t2≤4294967296*r3+un0
       ·
        have HQF2:=Hi (Qap hY0 (HIF2.out.1 hB) HQ3.out)
        have hB2:¬(4294967296*(r3:Int)+(un0:Int)<(t2:Int)):=by omega
        clear hB
        obtain⟨a1,P,b1,v2,ha1,hb1,hvY2,hvq,y1,y2,y3,y4⟩:=Qan v un0 q3 Y hY2 hY0 hun0b HQF2.out
        have hQb:qm<4294967296:=by rw[←HQF.out];exact Qad hu32b hun1b
        have hQb2:q3<4294967296:=by rw[←HQF2.out];exact Qad hvY hun0b
        obtain⟨R,hR⟩:∃R,v2 / 2 ^ s=R:=⟨_,rfl⟩
        have rR:(v2:Int) / 2 ^ s=(R:Int):=by rw[←hR,Int.natCast_ediv,Int.natCast_pow];rfl
        have HFIN:=Hi (Qay HYE.out HHE.out HU.out HLOW.out HUN.out HVQ.out hvq hvY2)
        rw[hR] at HFIN
        clear hvq hR
        go_wp2_with fail
        go_ret2
        have e1:(QQ:Int)=(qm:Int)*4294967296+(q3:Int):=by have:=HFIN.out.1;rw[HQQ.out] at this;omega
        have e2:(RR:Int)=(R:Int):=by have:=HFIN.out.2;rw[HRR.out] at this;omega
        exact⟨by rw[e1,e2];rfl,0,rfl⟩
       ·
        have HLT2:=Hi (Qc4 hY0 (fun h=>hB (HIF2.out.2 h)))
        have hB2:4294967296*(r3:Int)+(un0:Int)<(t2:Int):=by omega
        have hq12:1≤q3:=by
         rcases Nat.eq_zero_or_pos q3 with h|h
         ·
          exfalso
          subst h
          have:=rt2
          simp at this
          omega
         · exact h
        clear hB
        obtain⟨qm2,hqm⟩:∃qm2,q3=qm2+1:=⟨q3 - 1,by omega⟩
        have eq12:(q3:Int) - 1=(qm2:Int):=by omega
        have hqmb2:qm2<8589934592:=by omega
        have HQM2:=Hi hqm
        have HQR12:Hid (qm2*yn1+(r3+yn1)=v):=Hi (by have:=HQR3.out;rw[hqm,Nat.succ_mul] at this;omega)
        have HQ12:Hid ((4294967296*v+un0) / Y≤qm2):=Hi (Nat.le_of_lt_succ (by have:=HLT2.out;omega))
        clear hqm hq12
        by_cases hC:4294967296≤r3+yn1
        ·
         have hbr:=Qa7 HYS.out hyn0b hvY HQR12.out hC (by omega)
         have HQF2:Hid ((4294967296*v+un0) / Y=qm2):=Hi (Qap hY0 ((Qao (n1:=un0) HYS.out HQR12.out).1 (by omega)) HQ12.out)
         have hC':(4294967296:Int)≤(r3:Int)+(yn1:Int):=by omega
         clear hC hbr
         obtain⟨a1,P,b1,v2,ha1,hb1,hvY2,hvq,y1,y2,y3,y4⟩:=Qan v un0 qm2 Y hY2 hY0 hun0b HQF2.out
         have hQb:qm<4294967296:=by rw[←HQF.out];exact Qad hu32b hun1b
         have hQb2:qm2<4294967296:=by rw[←HQF2.out];exact Qad hvY hun0b
         obtain⟨R,hR⟩:∃R,v2 / 2 ^ s=R:=⟨_,rfl⟩
         have rR:(v2:Int) / 2 ^ s=(R:Int):=by rw[←hR,Int.natCast_ediv,Int.natCast_pow];rfl
         have HFIN:=Hi (Qay HYE.out HHE.out HU.out HLOW.out HUN.out HVQ.out hvq hvY2)
         rw[hR] at HFIN
         clear hvq hR
         go_wp2_with fail
         go_ret2
         have e1:(QQ:Int)=(qm:Int)*4294967296+(qm2:Int):=by have:=HFIN.out.1;rw[HQQ.out] at this;omega
         have e2:(RR:Int)=(R:Int):=by have:=HFIN.out.2;rw[HRR.out] at this;omega
         exact⟨by rw[e1,e2];rfl,0,rfl⟩
        ·
         have hC':¬((4294967296:Int)≤(r3:Int)+(yn1:Int)):=by omega
         have hC2:r3+yn1<4294967296:=by omega
         clear hC
         go_wp2_with fail
         go_round
         case rel=>exact⟨qm2,r3+yn1,by go_num,by go_num,HQR12.out,HQ12.out,hC2,by omega⟩
         case measure=>have:=HQM2.out;simp[intOf];omega
    ·
     have hC':¬((4294967296:Int)≤(r:Int)+(yn1:Int)):=by omega
     have hC2:r+yn1<4294967296:=by omega
     clear hC
     go_wp2_with fail
     go_round
     case rel=>exact⟨qm,r+yn1,by go_num,by go_num,HQR1.out,HQ1.out,hC2,by omega⟩
     case measure=>have:=HQM.out;simp[intOf];omega
theorem div64(hi lo y:Nat)(hhy:hi<y)(hl:lo<18446744073709551616)(hy:y<18446744073709551616):∃q r:Nat,q<18446744073709551616∧r<y∧y*q+r=18446744073709551616*hi+lo∧
 ∀w,Calls Tryz.prog 308 #[.int .u64 hi,.int .u64 lo,.int .u64 y] w fun e w'=>e=.returned (.tuple #[.int .u64 (q:Int),.int .u64 (r:Int)])∧∃n,w'=w.drewN n:=by
 have h1:=Nat.div_add_mod (18446744073709551616*hi+lo) y
 refine⟨_,_,?_,Nat.mod_lt _ (by omega),h1,fun w=>?_⟩
 ·
  rw[Nat.div_lt_iff_lt_mul (by omega)]
  have:=Nat.mul_le_mul_left 18446744073709551616 (show hi+1≤y from hhy)
  omega
 ·
  by_cases h0:hi=0
  ·
   subst h0
   have:=Qla lo y w hl hy (by omega)
   rw[Nat.mul_zero,Nat.zero_add]
   exact this
  · exact Qlb hi lo y _ _ w rfl rfl (by omega) hhy hl hy
def Pre(w:World)(g:Nat)(rs:List Nat):Prop:=∃C,SB w g 222 C∧∀i,i<rs.length→C[i]?=some (.int .u64 ((rs.getD i 0:Nat):Int))
theorem Pre.lt{w:World}{g:Nat}{rs:List Nat}(h:Pre w g rs):g<w.heap.size:=by obtain⟨C,h,_⟩:=h;exact h.lt
theorem Pre.cell{w:World}{g:Nat}{rs:List Nat}(h:Pre w g rs)(i:Nat)(hi:i<rs.length):w.cell? ⟨g,i,none⟩=some (.int .u64 ((rs.getD i 0:Nat):Int)):=by
 obtain⟨C,h,hc⟩:=h;rw[h.cell];exact hc i hi
theorem Pre.free{w:World}{g:Nat}{rs:List Nat}(h:Pre w g rs)(i:Nat):w.frozen? ⟨g,i,none⟩=false:=by
 obtain⟨C,h,hc⟩:=h;exact h.free i
theorem Pre.set{w:World}{g:Nat}{rs:List Nat}(h:Pre w g rs)(i x:Nat)(hi:i<rs.length):Pre (w.setCell ⟨g,i,none⟩ (.int .u64 (x:Int))) g (rs.set i x):=by
 obtain⟨C,h,hc⟩:=h
 refine⟨_,h.set i _,fun j hj=>?_⟩
 rw[List.length_set] at hj
 have hsz:i<C.size:=by
  apply Classical.byContradiction
  intro hn
  have:=hc i hi
  rw[Array.getElem?_eq_none (by omega)] at this
  cases this
 rw[Array.getElem?_setIfInBounds]
 by_cases e:i=j
 · subst e
   rw[if_pos rfl,if_pos hsz,Qa6 _ _ _ hi]
 · rw[if_neg e,hc j hj,getD_set_ne _ _ _ _ e]
theorem Pre.drewN{w:World}{g:Nat}{rs:List Nat}(h:Pre w g rs)(n:Nat):Pre (w.drewN n) g rs:=h
theorem Pre.row{w:World}{g:Nat}{rs:List Nat}(h:Pre w g rs)(cap:Nat)(hc:rs.length≤cap):Row .u64 w (some ⟨g,0,none⟩) cap rs:=
 ⟨hc,.inr ⟨g,0,rfl,h.lt⟩,fun i hi=>⟨g,0,rfl,h.lt,by rw[Nat.zero_add];exact h.cell i hi⟩⟩
theorem Pre.below{w w':World}{g B:Nat}{rs:List Nat}(h:Pre w g rs)(hb:Below B w w')(hB:g<B):Pre w' g rs:=by
 obtain⟨C,h,hc⟩:=h;exact⟨C,h.below hb hB,hc⟩
set_option maxHeartbeats 1000000 in
theorem Qm8(g cap d:Nat)(rs:List Nat)(w:World)(hP:Pre w g rs)(hs:Small 18446744073709551616 rs)(hl:rs.length≤1099511627776)(hd0:0<d)(hd:d<18446744073709551616):
 Calls Tryz.prog 301 #[.slice (some ⟨g,0,none⟩) rs.length cap,.int .u64 d] w fun e w'=>∃rs' r,e=.returned (.int .u64 ((r:Nat):Int))∧r<d∧Pre w' g rs'∧rs'.length=rs.length∧Small 18446744073709551616 rs'∧val 18446744073709551616 rs'*d+r=val 18446744073709551616 rs∧Only g w w':=by
 have HP0:=Hi hP
 have HS0:=Hi hs
 clear hP hs
 go_enter Tryz.func301,Tryz.ntmps301
 go_wp2
 go_loopw [5,6] (fun r i wr=>∃(k r':Nat) (rk:List Nat),k≤rs.length∧r'<d∧r=.int .u64 r'∧i=.int .i64 ((k:Int) - 1)∧Pre wr g rk∧rk.length=rs.length∧Small 18446744073709551616 rk∧(∀p,p<k→rk.getD p 0=rs.getD p 0)∧
  val 18446744073709551616 (rk.drop k)*d+r'=val 18446744073709551616 (rs.drop k)∧Only g w wr) (fun _ i _=>(intOf i+1).toNat)
 case atStart=>exact⟨rs.length,0,rs,Nat.le_refl _,hd0,rfl,rfl,HP0.out,rfl,HS0.out,fun _ _=>rfl,by rw[List.drop_of_length_le (Nat.le_refl _)];simp[val],Only.refl _ _⟩
 case round=>
  obtain⟨k,r,rk,hk,hr,rfl,rfl,hP,hrl,hrs,hun,hv,hon⟩:=hrel
  have HP:=Hi hP
  have HRL:=Hi hrl
  have HRS:=Hi hrs
  have HUN:=Hi hun
  have HV:=Hi hv
  have HON:=Hi hon
  clear hrs hun hv hon
  by_cases h0:k=0
  ·
   subst h0
   clear hP hrl
   go_wp2
   go_ret
   exact⟨rk,r,rfl,hr,HP.out,HRL.out,HRS.out,by have:=HV.out;simpa using this,HON.out⟩
  ·
   obtain⟨j,rfl⟩:∃j,k=j+1:=⟨k - 1,by omega⟩
   obtain⟨z,hz⟩:∃z,rk.getD j 0=z:=⟨_,rfl⟩
   have hzb:z<18446744073709551616:=by rw[←hz];exact HRS.out.getD (by omega) j
   have g1:=hP.free j
   have g2:=hP.cell j (by omega)
   rw[hz] at g2
   obtain⟨q,r',hq,hr',hqr,hcd⟩:=div64 r z d hr hzb hd
   have HCD:=Hi hcd
   have HQR:=Hi hqr
   have HZ:=Hi hz
   have ei:((j+1:Nat):Int) - 1=(j:Int):=by omega
   rw[ei]
   clear ei hcd hqr hz hP hrl
   go_wp2_with fail
   refine(HCD.out _).mono ?_
   rintro e w2 ⟨rfl,n,hw2⟩
   have g1':w2.frozen? ⟨g,j,none⟩=false:=by rw[hw2];exact g1
   have g2':w2.cell? ⟨g,j,none⟩=some (.int .u64 (z:Int)):=by rw[hw2];exact g2
   have HP2:Hid (Pre w2 g rk):=Hi (by rw[hw2];exact HP.out.drewN n)
   have HON2:Hid (Only g w w2):=Hi (by rw[hw2];exact HON.out.drewN n)
   clear hw2 g1 g2 HCD
   go_wp2
   go_roundw
   case rel=>
    have hj:j<rk.length:=by rw[HRL.out];omega
    refine⟨j,r',rk.set j q,by omega,hr',rfl,by go_num,HP2.out.set j q hj,by rw[List.length_set];exact HRL.out,HRS.out.set j hq,?_,?_,HON2.out.setCell _ _⟩
    ·
     intro p hp
     rw[getD_set_ne _ _ _ _ (by omega)]
     exact HUN.out p (by omega)
    ·
     have e1:rs.getD j 0=z:=by rw[←HUN.out j (by omega)];exact HZ.out
     rw[Qak _ _ j (by rw[List.length_set];exact hj),Qa6 _ _ _ hj,Qak _ rs j (by have:=HRL.out;omega),e1,←HV.out]
     have e2:(rk.set j q).drop (j+1)=rk.drop (j+1):=by
      rw[List.drop_set,if_pos (by omega)]
     rw[e2]
     have:=HQR.out
     rw[Nat.add_mul,Nat.mul_assoc,Nat.mul_comm q d,Nat.mul_add]
     generalize val 18446744073709551616 (rk.drop (j+1))*d=A at*
     omega
   case measure=>simp[intOf]
set_option maxHeartbeats 400000 in
theorem Qm9(x:Nat)(w:World)(hx:x<18446744073709551616):
 Calls Tryz.prog 302 #[.int .u64 x] w fun e w'=>(∃a cap r,e=.returned (.slice a r.length cap)∧U64 w' a cap r x)∧Below w.heap.size w w':=by
 by_cases h0:x=0
 ·
  subst h0
  go_enter Tryz.func302,Tryz.ntmps302
  go_wp2
  go_ret
  exact⟨⟨none,0,[],rfl,U64.nil _⟩,Below.refl _ _⟩
 ·
  have q:((x:Int) == 0)=false:=by rw[beq_eq_false_iff_ne];omega
  go_enter Tryz.func302,Tryz.ntmps302
  go_wp2
  go_ret
  have hB:Blk .u64 222 (w.alloc (.cells (wordCells .u64 [x]) 222)) w.heap.size [x]:=Blk.new _ _ _ _
  refine⟨⟨some ⟨w.heap.size,0,none⟩,1,[x],rfl,hB.row 1 (by simp) 1 (by omega),⟨fun d hd=>by simp at hd;omega,.inr (by simpa using h0),by simp[val]⟩,by simp⟩,(Below.refl _ _).alloc (Nat.le_refl _) _⟩
set_option maxHeartbeats 400000 in
theorem Qex(a:Option Addr)(cap:Nat)(l:List Nat)(x:Nat)(w:World)(h:U64 w a cap l x)(hl:0<l.length):
 Calls Tryz.prog 260 #[.slice a l.length cap] w fun e w'=>(∃g cap',e=.returned (.slice (some ⟨g,0,none⟩) l.length cap')∧l.length≤cap'∧w.heap.size≤g∧Pre w' g l)∧Below w.heap.size w w':=by
 obtain⟨i0,hi,hz0,hz1,hz2⟩:=info_parts Tryz.info64
 have hs:=h.short
 have hq:∀(w:World) (a:Option Addr) (n c n' c':Nat),(binOp .eql 126 (.slice a n c) (.slice none n' c')).run Tryz.prog w=.ok (.bool a.isNone) w:=fun w a n c n' c'=>Lib.run_eql_slice_nil w _ _ a n c n' c' Tryz.underlying126
 obtain⟨b,off,rfl,hb,_⟩:=h.row.cell 0 hl
 have H:=Hi h
 clear h
 go_enter Tryz.func260,Tryz.ntmps260
 go_wp2_with (at_builtin;refine wpList_append_own _ rfl _ _ 126 rfl w.heap.size 222 i0 (.int .u64 0) 1 8 Tryz.underlying126 hi hz0 hz1 hz2 rfl (by decide) _ _ _ rfl (World.ownsRow_made w #[] 0 (Nat.le_refl _) (Nat.zero_le _) rfl) ⟨b,off,none⟩ l.length cap (l.map (fun n:Nat=>Value.int .u64 n)) rfl ?c1 ?c2 ?c3 ?c4 ?c5 ?c6 ?_)
 case c1=>simp
 case c2=>
  intro j u hj
  obtain⟨hlt,hu⟩:=List.getElem?_eq_some_iff.1 hj
  have hlt':j<l.length:=by simpa using hlt
  obtain⟨b',off',e1,hb',hc⟩:=H.out.row.cell j hlt'
  obtain⟨rfl,rfl⟩:b=b'∧off=off':=by simpa using e1
  rw[Qar]
  refine(((Below.refl w.heap.size w).alloc (Nat.le_refl _) _).cell (p:=⟨b,off+j,none⟩) hb').trans ?_
  rw[hc,←hu]
  simp[hlt']
 case c3=>intro u hu;obtain⟨n,_,rfl⟩:=List.mem_map.1 hu;rfl
 case c4=>unfold maxLen;omega
 case c5=>omega
 case c6=>simp
 intro v' w1 hown hgrow hnil
 obtain⟨g,cap',rfl,hg,hlt⟩:=hown.form (by omega)
 have HO:=Hi hown
 have HG:=Hi hgrow
 clear hown hgrow hnil
 go_wp2
 go_ret
 obtain⟨_,h2⟩:=HO.out
 rcases h2 with ⟨h2,_⟩|⟨g',cap2,cur,h2,h3,h4,h5,h6,h7,h8⟩
 · cases h2
 ·
  injection h2 with e1 e2 e3
  injection e1 with e1
  injection e1 with e1
  subst e1
  subst e3
  refine⟨⟨g,cap',by simp,by omega,h3,cur,h4,fun i hi=>?_⟩,((Below.refl _ w).alloc (Nat.le_refl _) _).grown HG.out (by simp) (by intro k hk;simp[Value.ownBlock] at hk;omega)⟩
  have e4:(cur.toList.take (l.length*1))[i]?=cur[i]?:=by
   rw[List.getElem?_take_of_lt (by omega)];simp
  rw[←e4,h8,List.getElem?_map,List.getD_eq_getElem?_getD,List.getElem?_eq_getElem hi]
  rfl
theorem Qnw(L:Int)(n:Nat)(hL:L=n)(hn:n≤2199023255552)(w:World):
 (Instr.makeSlice 125 (.int .i64 L) (.int .i64 L)).run Tryz.prog w=.ok (.slice (some ⟨w.heap.size,0,none⟩) n n) (w.alloc (.cells (wordCells .u64 (zeros n)) 222)):=by
 subst hL
 rw[←Qdd]
 exact Go.run_make_row' 125 222 (.int .u64 0) 8 Tryz.underlying125 Tryz.info64 rfl .i64 .i64 n (by omega) (by omega) w
theorem Qnx(d s z:Nat)(hs:s<64)(hd:d<18446744073709551616)(hz:z<2 ^ s):∃lo hi new:Nat,IntKind.u64.wrap ((d:Int)*2 ^ s)=(lo:Int)∧(d:Int) / 2 ^ (64 - s)=(hi:Int)∧bits .or .u64 (z:Int) (lo:Int)=(new:Int)∧hi<2 ^ s∧new<18446744073709551616∧hi<18446744073709551616∧new+18446744073709551616*hi=z+d*2 ^ s:=by
 have h1:=low64 (lo:=d) (s:=s) (by omega)
 have h2:=Qef (lo:=d) (s:=s) (by omega) hd
 have h3:d*2 ^ s % 18446744073709551616=2 ^ s*(d % 2 ^ (64 - s)):=by
  rw[←Qbg (s:=s) (by omega),Nat.mul_comm d,Nat.mul_mod_mul_left]
 have h4:d % 2 ^ (64 - s)+1≤2 ^ (64 - s):=Nat.mod_lt _ (Nat.two_pow_pos _)
 have h5:=Nat.mul_le_mul_left (2 ^ s) h4
 rw[Qbg (by omega),Nat.mul_add,Nat.mul_one,←h3] at h5
 have h6:2 ^ s≤9223372036854775808:=Nat.pow_le_pow_right (by decide) (show s≤63 by omega)
 refine⟨d*2 ^ s % 18446744073709551616,d / 2 ^ (64 - s),d*2 ^ s % 18446744073709551616+z,?_,?_,?_,h2,by omega,by omega,by omega⟩
 · rw[show (d:Int)*2 ^ s=((d*2 ^ s:Nat):Int) by rw[Int.natCast_mul,Int.natCast_pow];rfl,Qam];rfl
 · rw[Int.natCast_ediv,Int.natCast_pow];rfl
 · rw[or64' ((d*2 ^ s % 18446744073709551616:Nat):Int) (z:Int) (d % 2 ^ (64 - s)) z s (by rw[h3]) rfl hz (by rw[←h3];omega),h3]
theorem Qny(k d s z new hi:Nat)(rs l:List Nat)(hk:k+1<rs.length)(hd:l.getD k 0=d)(hz:rs.getD k 0=z)(hn:new+18446744073709551616*hi=z+d*2 ^ s)(h:val 18446744073709551616 (rs.take (k+1))=val 18446744073709551616 (l.take k)*2 ^ s):
 val 18446744073709551616 (((rs.set k new).set (k+1) hi).take (k+1+1))=val 18446744073709551616 (l.take (k+1))*2 ^ s:=by
 rw[take_set _ _ _ (by simp;omega),Qah,List.length_take,Nat.min_eq_left (by simp;omega),take_set _ _ _ (by omega),Qah,List.length_take,Nat.min_eq_left (by omega)]
 rw[Qac,hz] at h
 rw[Qac _ l,hd,Nat.add_mul,←h,Nat.pow_succ,Nat.mul_assoc (18446744073709551616 ^ k) d]
 have e2:18446744073709551616 ^ k*(new+18446744073709551616*hi)=18446744073709551616 ^ k*(z+d*2 ^ s):=by rw[hn]
 rw[Nat.mul_add,Nat.mul_add,←Nat.mul_assoc] at e2
 omega
theorem Qnz(d e s:Nat)(hs:s<64)(hd:d<18446744073709551616)(he:e<18446744073709551616):∃lo hi new:Nat,(d:Int) / 2 ^ s=(lo:Int)∧IntKind.u64.wrap ((e:Int)*2 ^ (64 - s))=(hi:Int)∧bits .or .u64 (lo:Int) (hi:Int)=(new:Int)∧new<18446744073709551616∧new*2 ^ s+d % 2 ^ s=d+18446744073709551616*(e % 2 ^ s):=by
 have h0:=Qbg (s:=s) (by omega)
 have h0':2 ^ (64 - s)*2 ^ s=18446744073709551616:=by rw[Nat.mul_comm];exact h0
 have h3:e*2 ^ (64 - s) % 18446744073709551616=2 ^ (64 - s)*(e % 2 ^ s):=by
  rw[←h0',Nat.mul_comm e,Nat.mul_mod_mul_left]
 have h1:d / 2 ^ s<2 ^ (64 - s):=by
  rw[Nat.div_lt_iff_lt_mul (Nat.two_pow_pos _),h0'];exact hd
 have h4:e % 2 ^ s+1≤2 ^ s:=Nat.mod_lt _ (Nat.two_pow_pos _)
 have h5:=Nat.mul_le_mul_left (2 ^ (64 - s)) h4
 rw[h0',Nat.mul_add,Nat.mul_one] at h5
 refine⟨d / 2 ^ s,e*2 ^ (64 - s) % 18446744073709551616,2 ^ (64 - s)*(e % 2 ^ s)+d / 2 ^ s,?_,?_,?_,by omega,?_⟩
 · rw[Int.natCast_ediv,Int.natCast_pow];rfl
 · rw[show (e:Int)*2 ^ (64 - s)=((e*2 ^ (64 - s):Nat):Int) by rw[Int.natCast_mul,Int.natCast_pow];rfl,Qam];rfl
 · rw[or64' ((e*2 ^ (64 - s) % 18446744073709551616:Nat):Int) ((d / 2 ^ s:Nat):Int) (e % 2 ^ s) (d / 2 ^ s) (64 - s) (by rw[h3]) rfl h1 (by omega)]
 ·
  have h6:=Nat.div_add_mod d (2 ^ s)
  rw[Nat.add_mul,Nat.mul_right_comm,h0',Nat.mul_comm (d / 2 ^ s)]
  omega
theorem Qn0(k d e s new m0:Nat)(rs l:List Nat)(hk:k<rs.length)(hd:l.getD k 0=d)(he:l.getD (k+1) 0=e)(hn:new*2 ^ s+d % 2 ^ s=d+18446744073709551616*(e % 2 ^ s))
 (h:val 18446744073709551616 (rs.take k)*2 ^ s+m0=val 18446744073709551616 (l.take k)+18446744073709551616 ^ k*(l.getD k 0 % 2 ^ s)):
 val 18446744073709551616 ((rs.set k new).take (k+1))*2 ^ s+m0=val 18446744073709551616 (l.take (k+1))+18446744073709551616 ^ (k+1)*(l.getD (k+1) 0 % 2 ^ s):=by
 rw[hd] at h
 rw[take_set _ _ _ hk,Qah,List.length_take,Nat.min_eq_left (by omega),Qac,hd,he,Nat.pow_succ,Nat.add_mul]
 have e2:18446744073709551616 ^ k*(new*2 ^ s+d % 2 ^ s)=18446744073709551616 ^ k*(d+18446744073709551616*(e % 2 ^ s)):=by rw[hn]
 rw[Nat.mul_add,Nat.mul_add,←Nat.mul_assoc,←Nat.mul_assoc] at e2
 omega
set_option maxRecDepth 100000 in
set_option maxHeartbeats 1000000 in
theorem Qhr(a:Option Addr)(cap s:Nat)(l:List Nat)(x:Nat)(w:World)(h:U64 w a cap l x)(hl:l.length<1099511627776)(hs:s<64):
 Calls Tryz.prog 304 #[.slice a l.length cap,.int .i64 s] w fun e w'=>(∃rs,e=.returned (.slice (some ⟨w.heap.size,0,none⟩) (l.length+1) (l.length+1))∧Blk .u64 222 w' w.heap.size rs∧rs.length=l.length+1∧Small 18446744073709551616 rs∧val 18446744073709551616 rs=x*2 ^ s)∧Below w.heap.size w w':=by
 have hmk:∀w,(Instr.makeSlice 125 (.int .i64 ((l.length:Int)+1)) (.int .i64 ((l.length:Int)+1))).run Tryz.prog w=.ok (.slice (some ⟨w.heap.size,0,none⟩) (l.length+1) (l.length+1)) (w.alloc (.cells (wordCells .u64 (zeros (l.length+1))) 222)):=
  fun w=>Qnw _ (l.length+1) (by omega) (by omega) w
 have H:=Hi h
 clear h
 go_enter Tryz.func304,Tryz.ntmps304
 go_wp2
 clear hmk
 go_loopw [14] (fun i wr=>∃(k:Nat) (rs:List Nat),k≤l.length∧i=.int .i64 k∧Blk .u64 222 wr w.heap.size rs∧rs.length=l.length+1∧Small 18446744073709551616 rs∧rs.getD k 0<2 ^ s∧(∀j,k<j→rs.getD j 0=0)∧
  val 18446744073709551616 (rs.take (k+1))=val 18446744073709551616 (l.take k)*2 ^ s∧Below w.heap.size w wr) (fun i _=>l.length - (intOf i).toNat)
 case atStart=>exact⟨0,zeros (l.length+1),by omega,rfl,Blk.new _ _ _ _,Qaf _,Qal _ _ (by omega),by rw[Qbi];exact Nat.pow_pos (by omega),fun j _=>Qbi _ j,by rw[Qac,Qbi];simp[val],(Below.refl _ _).alloc (Nat.le_refl _) _⟩
 case round=>
  obtain⟨k,rs,hk,rfl,hB,hrl,hrs,hz1,hz2,hv,hb⟩:=hrel
  have HV:=Hi hv
  have HRL:=Hi hrl
  have HB:=Hi hB
  have HRS:=Hi hrs
  have HBL:=Hi hb
  clear hv hrs hb
  by_cases hlt:k<l.length
  ·
   obtain⟨b,off,rfl,hb1,hc1⟩:=H.out.row.cell k hlt
   obtain⟨d,hd⟩:∃d,l.getD k 0=d:=⟨_,rfl⟩
   have hdb:d<18446744073709551616:=by rw[←hd];exact H.out.num.small.getD (by omega) k
   rw[hd] at hc1
   have hc1':=(HBL.out.cell (p:=⟨b,off+k,none⟩) hb1).trans hc1
   have g1:=hB.free k
   have g2:=hB.cell k (by omega)
   have g3:=hB.free (k+1)
   have g4:=hB.cell (k+1) (by omega)
   rw[hz2 (k+1) (by omega)] at g4
   obtain⟨z,hz⟩:∃z,rs.getD k 0=z:=⟨_,rfl⟩
   rw[hz] at g2 hz1
   obtain⟨lo,hi,new,u1,u2,u3,hhi,hnew,hhib,hsum⟩:=Qnx d s z hs hdb hz1
   have HST:=Hi (Qny k d s z new hi rs l (by omega) hd hz hsum HV.out)
   have HZ:=Hi hz2
   have HHI:=Hi hhi
   clear hd hc1 hz hB hrl hz1 hz2 hsum hhi
   have i0:(0:Int)≤(k:Int):=by omega
   have i1:(k:Int)<(l.length:Int)+1:=by omega
   go_wp2_with fail
   go_region
   all_goals
    go_wp2
    go_roundw
    case rel=>
     refine⟨k+1,(rs.set k new).set (k+1) hi,by omega,by go_num,((HB.out.set k _).drew).set (k+1) _,by rw[List.length_set,List.length_set];exact HRL.out,(HRS.out.set k hnew).set (k+1) hhib,?_,fun j hj=>?_,HST.out,((HBL.out.setCell (Nat.le_refl _) _).drew).setCell (Nat.le_refl _) _⟩
     · rw[Qa6 _ _ _ (by rw[List.length_set,HRL.out];omega)];exact HHI.out
     · rw[getD_set_ne _ _ _ _ (by omega),getD_set_ne _ _ _ _ (by omega)];exact HZ.out j (by omega)
    case measure=>simp[intOf];omega
  ·
   have e1:k=l.length:=by omega
   have HQ:Hid (val 18446744073709551616 rs=x*2 ^ s):=Hi (by
    have e2:=HV.out
    rw[e1,List.take_length,List.take_of_length_le (by have:=HRL.out;omega),H.out.num.eq] at e2
    exact e2)
   clear hrl hB hz1 hz2
   go_wp2
   go_ret
   exact⟨⟨rs,rfl,HB.out,HRL.out,HRS.out,HQ.out⟩,HBL.out⟩
theorem wrap_i64(n:Int)(h0: -9223372036854775808≤n)(h1:n<9223372036854775808):IntKind.i64.wrap n=n:=by
 simp[IntKind.wrap,IntKind.signed,IntKind.bits]
 omega
structure ON (w:World) (g cap:Nat) (C l:List Nat) (n:Nat):Prop where
 pre:Pre w g C
 small:Small 18446744073709551616 C
 len:C.length≤1099511627776
 fro:C.take l.length=l
 num:Num 18446744073709551616 l n
 fit:l.length≤cap
theorem Blk.pre{w:World}{g:Nat}{C:List Nat}(h:Blk .u64 222 w g C):Pre w g C:=
 ⟨wordCells .u64 C,h,fun i hi=>by
   have h1:=SB.cell (w:=w) (b:=g) (t:=222) (C:=wordCells .u64 C) h i
   rw[←h1]
   exact h.cell i hi⟩
theorem Pre.rowN{w:World}{g:Nat}{C:List Nat}(h:Pre w g C)(n:Nat)(hn:n≤C.length)(cap:Nat)(hc:n≤cap):Row .u64 w (some ⟨g,0,none⟩) cap (C.take n):=by
 have hl:(C.take n).length=n:=by rw[List.length_take];omega
 refine⟨by omega,.inr ⟨g,0,rfl,h.lt⟩,fun i hi=>⟨g,0,rfl,h.lt,?_⟩⟩
 rw[Nat.zero_add,Qeb _ _ _ (by omega)]
 exact h.cell i (by omega)
theorem ON.le{w:World}{g cap n:Nat}{C l:List Nat}(h:ON w g cap C l n):l.length≤C.length:=by
 have:=congrArg List.length h.fro
 rw[List.length_take] at this
 omega
theorem ON.u64{w:World}{g cap n:Nat}{C l:List Nat}(h:ON w g cap C l n):U64 w (some ⟨g,0,none⟩) cap l n:=by
 have hr:=h.pre.rowN l.length h.le cap h.fit
 rw[h.fro] at hr
 exact⟨hr,h.num,Nat.le_trans h.le h.len⟩
theorem ON.below{w w':World}{g cap n:Nat}{C l:List Nat}(h:ON w g cap C l n)(hb:Below w.heap.size w w'):ON w' g cap C l n:=⟨h.pre.below hb h.pre.lt,h.small,h.len,h.fro,h.num,h.fit⟩
theorem Qck(g n cap x:Nat)(C:List Nat)(w:World)(h:Pre w g C)(hs:Small 18446744073709551616 C)(hb:C.length≤1099511627776)(hn:n≤C.length)(hc:n≤cap)(hx:val 18446744073709551616 (C.take n)=x):
 Calls Tryz.prog 271 #[.slice (some ⟨g,0,none⟩) n cap] w fun e w'=>(∃r,e=.returned (.slice (some ⟨g,0,none⟩) r.length cap)∧ON w g cap C r x∧r.length≤n)∧w'=w:=by
 have hR:=h.rowN n hn cap hc
 have hl:(C.take n).length=n:=by rw[List.length_take];omega
 have hT:=Qew (some ⟨g,0,none⟩) cap (C.take n) w hR (by omega)
 rw[hl] at hT
 refine hT.mono ?_
 rintro e w1 ⟨⟨q,hq,rfl,hqv,hqt⟩,rfl⟩
 have hqn:q≤n:=by omega
 have htt:(C.take n).take q=C.take q:=by rw[List.take_take,Nat.min_eq_left hqn]
 rw[htt] at hqv hqt
 have hql:(C.take q).length=q:=by rw[List.length_take];omega
 exact⟨⟨C.take q,by rw[hql],⟨h,hs,hb,by rw[hql],⟨hs.take q,hqt,hqv.trans hx⟩,by omega⟩,by omega⟩,rfl⟩
set_option maxRecDepth 100000 in
set_option maxHeartbeats 1000000 in
theorem Qnb(a:Option Addr)(cap s:Nat)(l:List Nat)(w:World)(h:Row .u64 w a cap l)(hsm:Small 18446744073709551616 l)(hl:l.length<1099511627776)(hs:s<64):
 Calls Tryz.prog 306 #[.slice a l.length cap,.int .i64 s] w fun e w'=>(∃rs r,e=.returned (.slice (some ⟨w.heap.size,0,none⟩) r.length l.length)∧ON w' w.heap.size l.length rs r (val 18446744073709551616 l / 2 ^ s))∧Below w.heap.size w w':=by
 have hmk:∀w,(Instr.makeSlice 126 (.int .i64 (l.length:Int)) (.int .i64 (l.length:Int))).run Tryz.prog w=.ok (.slice (some ⟨w.heap.size,0,none⟩) l.length l.length) (w.alloc (.cells (wordCells .u64 (zeros l.length)) 222)):=
  fun w=>Qcf _ l.length rfl (by omega) w
 have H:=Hi h
 have HSM:=Hi hsm
 clear h hsm
 go_enter Tryz.func306,Tryz.ntmps306
 go_wp2
 clear hmk
 go_loopw [12] (fun i wr=>∃(k:Nat) (rs:List Nat),k≤l.length∧i=.int .i64 k∧Blk .u64 222 wr w.heap.size rs∧rs.length=l.length∧Small 18446744073709551616 rs∧
  val 18446744073709551616 (rs.take k)*2 ^ s+l.getD 0 0 % 2 ^ s=val 18446744073709551616 (l.take k)+18446744073709551616 ^ k*(l.getD k 0 % 2 ^ s)∧Below w.heap.size w wr) (fun i _=>l.length - (intOf i).toNat)
 case atStart=>exact⟨0,zeros l.length,by omega,rfl,Blk.new _ _ _ _,Qaf _,Qal _ _ (by omega),by simp[val],(Below.refl _ _).alloc (Nat.le_refl _) _⟩
 case round=>
  obtain⟨k,rs,hk,rfl,hB,hrl,hrs,hv,hb⟩:=hrel
  have HV:=Hi hv
  have HRL:=Hi hrl
  have HB:=Hi hB
  have HRS:=Hi hrs
  have HBL:=Hi hb
  clear hv hrs hb
  by_cases hlt:k<l.length
  ·
   obtain⟨b,off,rfl,hb1,hc1⟩:=H.out.cell k hlt
   obtain⟨d,hd⟩:∃d,l.getD k 0=d:=⟨_,rfl⟩
   obtain⟨e,he⟩:∃e,l.getD (k+1) 0=e:=⟨_,rfl⟩
   have hdb:d<18446744073709551616:=by rw[←hd];exact HSM.out.getD (by omega) k
   have heb:e<18446744073709551616:=by rw[←he];exact HSM.out.getD (by omega) (k+1)
   rw[hd] at hc1
   have hc1':=(HBL.out.cell (p:=⟨b,off+k,none⟩) hb1).trans hc1
   obtain⟨z,hz⟩:∃z,rs.getD k 0=z:=⟨_,rfl⟩
   have g1:=hB.free k
   have g2:=hB.cell k (by omega)
   rw[hz] at g2
   obtain⟨lo,hi,new,u1,u2,u3,hnew,hsum⟩:=Qnz d e s hs hdb heb
   have HST:=Hi (Qn0 k d e s new _ rs l (by omega) hd he hsum HV.out)
   have hcw:=Qbj (some ⟨b,off,none⟩) cap l (k+1) wr.drew (H.out.below HBL.out.drew) (by omega) (by omega)
   rw[he,show ((k+1:Nat):Int)=(k:Int)+1 by omega] at hcw
   have wk:IntKind.i64.wrap ((k:Int)+1)=(k:Int)+1:=wrap_i64 _ (by omega) (by omega)
   obtain⟨t,ht⟩:∃t,64 - s=t:=⟨_,rfl⟩
   have ws:IntKind.i64.wrap (64 - (s:Int))=(t:Int):=by rw[wrap_i64 _ (by omega) (by omega)];omega
   have ht64:t≤64:=by omega
   rw[ht] at u2
   clear ht
   have HC:=Hi hcw
   clear hcw
   have i0:(0:Int)≤(k:Int):=by omega
   have i1:(k:Int)<(l.length:Int):=by omega
   have hst:=(((HBL.out.setCell (p:=⟨w.heap.size,k,none⟩) (Nat.le_refl _) (.int .u64 (new:Int))).drew).cell (p:=⟨b,off+k,none⟩) hb1).trans hc1
   clear hd he hc1 hz hB hrl hsum
   go_wp2_with fail
   go_region_held3 (fun w'=>w'.cell? ⟨b,off+k,none⟩=some (.int .u64 d)) ((simp [*])) (first
    |(
     go_at_call 277
     go_fit (HC.out)
     rintro e1 w2 ⟨rfl,hw2⟩
     subst hw2))
   go_wp2
   go_roundw
   case rel=>exact⟨k+1,rs.set k new,by omega,by go_num,(HB.out.set k _).drew,by rw[List.length_set];exact HRL.out,HRS.out.set k hnew,HST.out,(HBL.out.setCell (Nat.le_refl _) _).drew⟩
   case measure=>simp[intOf];omega
  ·
   have e1:k=l.length:=by omega
   have hvv:val 18446744073709551616 rs=val 18446744073709551616 l / 2 ^ s:=by
    have e2:=HV.out
    rw[e1,List.take_of_length_le (by have:=HRL.out;omega),List.take_length,Qbu l l.length (Nat.le_refl _),Nat.zero_mod,Nat.mul_zero,Nat.add_zero] at e2
    have e3:l.getD 0 0 % 2 ^ s<2 ^ s:=Nat.mod_lt _ (Nat.two_pow_pos _)
    rw[←e2,Nat.mul_comm,Nat.mul_add_div (Nat.two_pow_pos _),Nat.div_eq_of_lt e3,Nat.add_zero]
   have HQ:=Hi hvv
   clear hrl hB hvv
   go_wp2_with fail
   refine(Qck w.heap.size l.length l.length (val 18446744073709551616 l / 2 ^ s) rs _ HB.out.pre HRS.out (by rw[HRL.out];omega) (by rw[HRL.out];exact Nat.le_refl _) (Nat.le_refl _) (by rw[List.take_of_length_le (by rw[HRL.out];exact Nat.le_refl _)];exact HQ.out)).mono ?_
   rintro e w1 ⟨⟨r,rfl,hu,_⟩,rfl⟩
   have HU:=Hi hu
   clear hu
   go_wp2
   go_ret
   exact⟨⟨rs,r,rfl,HU.out⟩,HBL.out⟩
structure Tops (a2 a1 a0 d1 d0 P lw lv W V:Nat):Prop where
 hP:0<P
 hW:W=(a2*18446744073709551616+a1)*(18446744073709551616*P)+a0*P+lw
 hV:V=d1*(18446744073709551616*P)+d0*P+lv
 hlw:lw<P
 hd1:0<d1
 hWV:W<18446744073709551616*V
 b2:a2<18446744073709551616
 b1:a1<18446744073709551616
 b0:a0<18446744073709551616
 c1:d1<18446744073709551616
 c0:d0<18446744073709551616
theorem Tops.pos{a2 a1 a0 d1 d0 P lw lv W V:Nat}(t:Tops a2 a1 a0 d1 d0 P lw lv W V):0<V:=by
 have:=t.hWV
 rcases Nat.eq_zero_or_pos V with h|h
 · subst h;omega
 · exact h
theorem Tops.all{a2 a1 a0 d1 d0 P lw lv W V:Nat}(t:Tops a2 a1 a0 d1 d0 P lw lv W V):W / V≤18446744073709551615:=by
 have h:=t.hWV
 have:W / V<18446744073709551616:=by rw[Nat.div_lt_iff_lt_mul t.pos];exact h
 omega
theorem Qni{high low r a0 t:Nat}(ht:low+18446744073709551616*high=t)(hl:low<18446744073709551616)(ha:a0<18446744073709551616):(high<r∨(high=r∧low≤a0))↔t≤r*18446744073709551616+a0:=by omega
set_option maxRecDepth 100000 in
set_option maxHeartbeats 2000000 in
theorem Qnj(a2 a1 a0 d1 d0 P lw lv W V:Nat)(w:World)(t:Tops a2 a1 a0 d1 d0 P lw lv W V):
 Calls Tryz.prog 323 #[.int .u64 a2,.int .u64 a1,.int .u64 a0,.int .u64 d1,.int .u64 d0] w fun e w'=>∃q:Nat,e=.returned (.int .u64 (q:Int))∧q<18446744073709551616∧W / V≤q∧∃n,w'=w.drewN n:=by
 have HT:=Hi t
 have b2:=t.b2
 have b1:=t.b1
 have b0:=t.b0
 have c1:=t.c1
 have c0:=t.c0
 clear t
 by_cases hA:d1≤a2
 ·
  go_enter Tryz.func323,Tryz.ntmps323
  go_wp2
  go_ret
  exact⟨18446744073709551615,rfl,by omega,HT.out.all,0,rfl⟩
 ·
  obtain⟨q,r,hq,hr,hqr,hcd⟩:=div64 a2 a1 d1 (by omega) b1 c1
  have HCD:=Hi hcd
  have HST:Hid (W / V≤q):=Hi (by
   have h1:=Qgw 18446744073709551616 P (a2*18446744073709551616+a1) a0 lw d1 d0 lv W V HT.out.hP (by decide) HT.out.hW HT.out.hV HT.out.hlw b0 HT.out.hd1
   have h2:(a2*18446744073709551616+a1) / d1=q:=by
    rw[show a2*18446744073709551616+a1=d1*q+r by omega,Nat.mul_add_div HT.out.hd1,Nat.div_eq_of_lt hr,Nat.add_zero]
   rw[h2] at h1
   exact h1)
  have HQR:Hid (q*d1+r=a2*18446744073709551616+a1):=Hi (by rw[Nat.mul_comm];omega)
  clear hcd hqr
  go_enter Tryz.func323,Tryz.ntmps323
  go_wp2_with fail
  refine(HCD.out _).mono ?_
  rintro e w1 ⟨rfl,n1,hw1⟩
  go_wp2_with fail
  go_loop [11,12] (fun qv rv=>∃q r:Nat,qv=.int .u64 q∧rv=.int .u64 r∧q<18446744073709551616∧r<18446744073709551616∧q*d1+r=a2*18446744073709551616+a1∧W / V≤q) (fun qv _=>(intOf qv).toNat)
  case atStart=>exact⟨q,r,rfl,rfl,hq,by omega,HQR.out,HST.out⟩
  case round=>
   clear hq hr HCD HST HQR
   obtain⟨q,r,rfl,rfl,hq,hr,hqr,hle⟩:=hrel
   obtain⟨high,low,hh,hl,hhl,hcm⟩:=mul64 q d0 hq c0
   have HCM:=Hi hcm
   have HLE:=Hi hle
   have HQR:=Hi hqr
   have HIF:=Hi (Qni (r:=r) hhl hl b0)
   clear hcm hle hqr hhl
   by_cases hc1:high<r
   ·
    have hc1':(high:Int)<(r:Int):=by omega
    go_wp2_with fail
    refine(HCM.out _).mono ?_
    rintro e w2 ⟨rfl,hw2⟩
    go_wp2
    go_ret
    exact⟨q,rfl,hq,HLE.out,n1,rfl⟩
   by_cases hc2:high=r
   ·
    subst hc2
    have hc1':¬((high:Int)<(high:Int)):=by omega
    by_cases hc3:low≤a0
    ·
     have hc3':(low:Int)≤(a0:Int):=by omega
     go_wp2_with fail
     refine(HCM.out _).mono ?_
     rintro e w2 ⟨rfl,hw2⟩
     go_wp2
     go_ret
     exact⟨q,rfl,hq,HLE.out,n1,rfl⟩
    ·
     have hc3':¬((low:Int)≤(a0:Int)):=by omega
     have HGT:Hid (high*18446744073709551616+a0<q*d0):=Hi (Nat.lt_of_not_le (fun h=>by have:=HIF.out.2 h;omega))
     have HLT:Hid (W / V<q):=Hi (Qej 18446744073709551616 P (a2*18446744073709551616+a1) a0 lw d1 d0 lv W V q high HT.out.hP HT.out.hW HT.out.hV HT.out.hlw HT.out.pos HQR.out HGT.out)
     obtain⟨qm,hqm⟩:∃qm,q=qm+1:=⟨q - 1,by have:=Nat.lt_of_le_of_lt (Nat.zero_le _) HLT.out;omega⟩
     have eq1:(q:Int) - 1=(qm:Int):=by omega
     have hqmb:qm<18446744073709551616:=by omega
     have HQM:=Hi hqm
     have HQR1:Hid (qm*d1+(high+d1)=a2*18446744073709551616+a1):=Hi (by have:=HQR.out;rw[hqm,Nat.succ_mul] at this;omega)
     have HQ1:Hid (W / V≤qm):=Hi (by have h:=HLT.out;rw[hqm] at h;exact Nat.le_of_lt_succ h)
     clear hqm
     by_cases hov:high+d1<18446744073709551616
     ·
      have hov':¬((high:Int)+(d1:Int)<(d1:Int)):=by omega
      go_wp2_with fail
      refine(HCM.out _).mono ?_
      rintro e w2 ⟨rfl,hw2⟩
      subst hw2
      go_wp2_with fail
      go_round
      case rel=>exact⟨qm,high+d1,by go_num,by go_num,hqmb,hov,HQR1.out,HQ1.out⟩
      case measure=>have:=HQM.out;simp[intOf];omega
     ·
      obtain⟨r2,hr2⟩:∃r2,high+d1=r2+18446744073709551616:=⟨high+d1 - 18446744073709551616,by omega⟩
      have ew:IntKind.u64.wrap ((high:Int)+(d1:Int))=(r2:Int):=by rw[Qam];omega
      have hlt2:(r2:Int)<(d1:Int):=by omega
      clear hr2 hov
      go_wp2_with fail
      refine(HCM.out _).mono ?_
      rintro e w2 ⟨rfl,hw2⟩
      go_wp2
      go_ret
      exact⟨qm,rfl,hqmb,HQ1.out,n1,rfl⟩
   ·
    have hc1':¬((high:Int)<(r:Int)):=by omega
    have hc2':((high:Int) == (r:Int))=false:=by rw[beq_eq_false_iff_ne];omega
    have HGT:Hid (r*18446744073709551616+a0<q*d0):=Hi (Nat.lt_of_not_le (fun h=>by have:=HIF.out.2 h;omega))
    have HLT:Hid (W / V<q):=Hi (Qej 18446744073709551616 P (a2*18446744073709551616+a1) a0 lw d1 d0 lv W V q r HT.out.hP HT.out.hW HT.out.hV HT.out.hlw HT.out.pos HQR.out HGT.out)
    obtain⟨qm,hqm⟩:∃qm,q=qm+1:=⟨q - 1,by have:=Nat.lt_of_le_of_lt (Nat.zero_le _) HLT.out;omega⟩
    have eq1:(q:Int) - 1=(qm:Int):=by omega
    have hqmb:qm<18446744073709551616:=by omega
    have HQM:=Hi hqm
    have HQR1:Hid (qm*d1+(r+d1)=a2*18446744073709551616+a1):=Hi (by have:=HQR.out;rw[hqm,Nat.succ_mul] at this;omega)
    have HQ1:Hid (W / V≤qm):=Hi (by have h:=HLT.out;rw[hqm] at h;exact Nat.le_of_lt_succ h)
    clear hqm
    by_cases hov:r+d1<18446744073709551616
    ·
     have hov':¬((r:Int)+(d1:Int)<(d1:Int)):=by omega
     go_wp2_with fail
     refine(HCM.out _).mono ?_
     rintro e w2 ⟨rfl,hw2⟩
     subst hw2
     go_wp2_with fail
     go_round
     case rel=>exact⟨qm,r+d1,by go_num,by go_num,hqmb,hov,HQR1.out,HQ1.out⟩
     case measure=>have:=HQM.out;simp[intOf];omega
    ·
     obtain⟨r2,hr2⟩:∃r2,r+d1=r2+18446744073709551616:=⟨r+d1 - 18446744073709551616,by omega⟩
     have ew:IntKind.u64.wrap ((r:Int)+(d1:Int))=(r2:Int):=by rw[Qam];omega
     have hlt2:(r2:Int)<(d1:Int):=by omega
     clear hr2 hov
     go_wp2_with fail
     refine(HCM.out _).mono ?_
     rintro e w2 ⟨rfl,hw2⟩
     go_wp2
     go_ret
     exact⟨qm,rfl,hqmb,HQ1.out,n1,rfl⟩
end Go.Proofs.YtgnmjaponiclhaaGreatDoor
