/- Division of three half words by two: plain. -/
import Derived.Test.YtldjeecnapgakaaGreatDoorV12RatNeg
namespace Go.Proofs.YtldjeecnapgakaaGreatDoor
open Go.RowKit
open Go.Proofs.Tryz
set_option linter.unusedSimpArgs false
set_option linter.unusedVariables false
set_option maxHeartbeats 8000000
set_option maxRecDepth 1000000
theorem SB.other{w:World}{b g:Nat}{t:TypeId}{C:Array Value}(h:SB w b t C)(hne:b≠g)(i:Nat)(v:Value):SB (w.setCell ⟨g,i,none⟩ v) b t C:=by
 unfold SB at h ⊢;rw[Below.heap_setCell _ _ _ _ hne];exact h
structure U64 (w:World) (a:Option Addr) (cap:Nat) (l:List Nat) (n:Nat):Prop where
 row:Row .u64 w a cap l
 num:Num 18446744073709551616 l n
 short:l.length<=1099511627776
theorem U64.below{w w':World}{a:Option Addr}{cap:Nat}{l:List Nat}{n:Nat}(h:U64 w a cap l n)(hb:Below w.heap.size w w'):U64 w' a cap l n:=⟨h.row.below hb,h.num,h.short⟩
theorem U64.drew{w:World}{a:Option Addr}{cap:Nat}{l:List Nat}{n:Nat}(h:U64 w a cap l n):U64 w.drew a cap l n:=h.below bR.drew
theorem U64.nil(w:World):U64 w none 0 [] 0:=⟨Row.nil _ _,Num.zero _,by simp⟩
theorem Qcn(L:Int)(n:Nat)(hL:L=n)(hn:n<=2199023255552)(w:World):
 (Instr.makeSlice 61 (.int .i64 L) (.int .i64 L)).run prog w=.ok (.slice (some ⟨w.heap.size,0,none⟩) n n) (w.alloc (.cells (wordCells .u64 (zeros n)) 119)):=by
 subst hL;rw[<-Qdr];exact Go.run_make_row' 61 119 (.int .u64 0) 8 underlying61 Tryz.info64 rfl .i64 .i64 n (by omega) (by omega) w
theorem add64(x y c:Nat)(hx:x<18446744073709551616)(hy:y<18446744073709551616)(hc:c<=1):∃r d:Nat,r<18446744073709551616/\d<=1/\r+18446744073709551616*d=x+y+c/\
 ∀w,(callFunc 159 #[.int .u64 x,.int .u64 y,.int .u64 c]).run prog w=.ok (.value (.tuple #[.int .u64 (r:Int),.int .u64 (d:Int)])) w:=
 ⟨(x+y+c) % 18446744073709551616,(x+y+c) / 18446744073709551616,by omega,by omega,by omega,fun w=>Any7.bits_Add64 Tryz.lays25 x y c hc w⟩
theorem Qco(x y:Nat)(hx:x<18446744073709551616)(hy:y<18446744073709551616):∃r d:Nat,r<18446744073709551616/\d<=1/\r+18446744073709551616*d=x+y/\
 ∀w,(callFunc 159 #[.int .u64 x,.int .u64 y,.int .u64 0]).run prog w=.ok (.value (.tuple #[.int .u64 (r:Int),.int .u64 (d:Int)])) w:=
 add64 x y 0 hx hy (by decide)
theorem sub64(x y c:Nat)(hx:x<18446744073709551616)(hy:y<18446744073709551616)(hc:c<=1):∃r d:Nat,r<18446744073709551616/\d<=1/\r+c+y=x+18446744073709551616*d/\
 ∀w,(callFunc 178 #[.int .u64 x,.int .u64 y,.int .u64 c]).run prog w=.ok (.value (.tuple #[.int .u64 (r:Int),.int .u64 (d:Int)])) w:=by
 refine⟨(x+18446744073709551616 - y - c) % 18446744073709551616,if x<y+c then 1 else 0,by omega,by split<;>omega,by split<;>omega,fun w=>Any7.bits_Sub64 Tryz.lays26 x y c hc w⟩
theorem Qid(x y:Nat)(hx:x<18446744073709551616)(hy:y<18446744073709551616):∃r d:Nat,r<18446744073709551616/\d<=1/\r+y=x+18446744073709551616*d/\
 ∀w,(callFunc 178 #[.int .u64 x,.int .u64 y,.int .u64 0]).run prog w=.ok (.value (.tuple #[.int .u64 (r:Int),.int .u64 (d:Int)])) w:=
 sub64 x y 0 hx hy (by decide)
theorem mul64(x y:Nat)(hx:x<18446744073709551616)(hy:y<18446744073709551616):∃h l:Nat,h<18446744073709551616/\l<18446744073709551616/\l+18446744073709551616*h=x*y/\
 ∀w,Calls prog 158 #[.int .u64 x,.int .u64 y] w fun e w'=>e=.returned (.tuple #[.int .u64 (h:Int),.int .u64 (l:Int)])/\w'=w:=by
 refine⟨x*y / 18446744073709551616,x*y % 18446744073709551616,?_,Nat.mod_lt _ (by decide),Nat.mod_add_div _ _,fun w=>Any.bits_Mul64 Tryz.lays264 x y hx hy w⟩;rw[Nat.div_lt_iff_lt_mul (by decide)];exact Nat.mul_lt_mul'' hx hy
theorem Qbv(a:Option Addr)(cap:Nat)(l:List Nat)(i:Nat)(w:World)(h:Row .u64 w a cap l)(hl:l.length<=1099511627776)(hi:i<=2199023255552):
 Calls prog 155 #[.slice a l.length cap,.int .i64 i] w fun e w'=>e=.returned (.int .u64 ((l.getD i 0:Nat):Int))/\w'=w:=by
 by_cases hlt:i<l.length
 .
  obtain⟨b,off,rfl,hb,hc⟩:=h.cell i hlt;obtain⟨d,hd⟩:=nm (l.getD i 0);rw[hd] at hc;rw[hd];clear hd h;go_enter func155,ntmps155;go_wp2;go_ret;exact⟨rfl,rfl⟩
 .
  rw[Qbq l i (by omega)];clear h;go_enter func155,ntmps155;go_wp2;go_ret;exact⟨rfl,rfl⟩
theorem Qpa(l:List Nat)(k:Nat)(hk:k<=l.length)(h:k=0∨l.getD (k - 1) 0≠0):Trim (l.take k):=by
 rcases h with rfl|h
 . left;simp
 .
  by_cases h0:k=0
  . left;subst h0;simp
  .
   right;rw[List.length_take,Nat.min_eq_left hk,List.getD_eq_getElem?_getD,List.getElem?_take_of_lt (by omega),<-List.getD_eq_getElem?_getD];exact h
theorem Qpb(l:List Nat)(k:Nat)(hk:k<l.length)(h:l.getD k 0=0):val 18446744073709551616 (l.take (k+1))=val 18446744073709551616 (l.take k):=by
 rw[Qbp _ l k hk,h];simp
theorem Qe6(a:Option Addr)(cap:Nat)(l:List Nat)(w:World)(h:Row .u64 w a cap l)(hl:l.length<=1099511627776):
 Calls prog 131 #[.slice a l.length cap] w fun e w'=>(∃k,k<=l.length/\e=.returned (.slice a k cap)/\val 18446744073709551616 (l.take k)=val 18446744073709551616 l/\Trim (l.take k))/\w'=w:=by
 have hcap:=h.fit;go_enter func131,ntmps131;go_wp2;go_loop [3] (fun n=>∃k:Nat,k<=l.length/\n=.int .i64 k/\val 18446744073709551616 (l.take k)=val 18446744073709551616 l) (fun n=>(intOf n).toNat)
 case atStart=>exact⟨l.length,Nat.le_refl _,rfl,by rw[List.take_length]⟩
 case round=>
  obtain⟨k,hk,rfl,hv⟩:=hrel;have HV:O (val 18446744073709551616 (l.take k)=val 18446744073709551616 l):=hv;clear hv;by_cases h0:k=0
  .
   subst h0;rcases h.shape with ⟨rfl,rfl⟩|⟨b,off,rfl,hb⟩
   all_goals
    go_wp2;go_ret;exact⟨⟨0,by omega,by simp,HV.o,.inl (by simp)⟩,rfl⟩
  .
   obtain⟨b,off,rfl,hb,hc⟩:=h.cell (k - 1) (by omega);obtain⟨j,rfl⟩:∃j,k=j+1:=⟨k - 1,by omega⟩;simp only[Nat.add_sub_cancel] at hc;obtain⟨d,hd⟩:=nm (l.getD j 0);rw[hd] at hc;have HD:O (l.getD j 0=d):=hd;clear hd;by_cases hz:d=0
   .
    subst hz;go_wp2;go_round
    case rel=>exact⟨j,by omega,by go_num,(Qpb l j (by omega) HD.o).symm.trans HV.o⟩
    case measure=>simp[intOf]
   .
    have hz':((d:Int) == 0)=false:=by simp;omega
    go_wp2;go_ret;exact⟨⟨j+1,hk,by simp,HV.o,Qpa l (j+1) hk (.inr (by rw[Nat.add_sub_cancel,HD.o];exact hz))⟩,rfl⟩
theorem Qcp(g n cap x:Nat)(rs:List Nat)(w:World)(h:Blk .u64 119 w g rs)(hl:rs.length=n)(hs:Small 18446744073709551616 rs)(hc:n<=cap)(hn:n<=1099511627776)(hx:val 18446744073709551616 rs=x):
 Calls prog 131 #[.slice (some ⟨g,0,none⟩) n cap] w fun e w'=>(∃r,e=.returned (.slice (some ⟨g,0,none⟩) r.length cap)/\U64 w (some ⟨g,0,none⟩) cap r x)/\w'=w:=by
 have hR:=h.row n (by omega) cap hc;rw[List.take_of_length_le (by omega)] at hR;have hT:=Qe6 (some ⟨g,0,none⟩) cap rs w hR (by omega);rw[hl] at hT;refine hT.mono ?_;rintro e w1 ⟨⟨q,hq,rfl,hqv,hqt⟩,rfl⟩;have hql:(rs.take q).length=q:=by rw[List.length_take];omega
 exact⟨⟨rs.take q,by rw[hql],hR.take q (by omega),⟨hs.take q,hqt,hqv.trans hx⟩,by rw[hql];omega⟩,rfl⟩
theorem Qpc{l:List Nat}(h:Num 18446744073709551616 l 1):l= [1]:=h.inj (by decide) ⟨fun d hd=>by simp at hd;omega,.inr (by simp),by simp[val]⟩
theorem Qcq(a:Option Addr)(cap:Nat)(l:List Nat)(n:Nat)(w:World)(h:U64 w a cap l n):
 Calls prog 119 #[.slice a l.length cap] w fun e w'=>e=.returned (.bool (decide (n=1)))/\w'=w:=by
 have hs:=h.short;by_cases h1:l.length=1
 .
  obtain⟨b,off,rfl,hb,hc⟩:=h.row.cell 0 (by omega);obtain⟨d,hd⟩:=nm (l.getD 0 0);rw[hd] at hc;have hn:n=d:=by
   rw[<-h.num.eq]
   match l,h1 with
   | [x],_=>simp at hd;simp[val,hd]
  subst hn;rw[Nat.add_zero] at hc;by_cases hd1:n=1
  .
   subst hd1;clear h hd;go_enter func119,ntmps119;go_wp2;go_ret;exact⟨rfl,rfl⟩
  .
   have q1:((n:Int) == 1)=false:=by rw[beq_eq_false_iff_ne];omega
   rw[show decide (n=1)=false by simpa using hd1];clear h hd hd1;go_enter func119,ntmps119;go_wp2;go_ret;exact⟨by simp[q1],rfl⟩
 .
  have hn1:n≠1:=fun hc=>h1 (by subst hc;rw[Qpc h.num];rfl)
  have q1:((l.length:Int) == 1)=false:=by rw[beq_eq_false_iff_ne];omega
  rw[show decide (n=1)=false by simpa using hn1];clear h h1 hn1;go_enter func119,ntmps119;go_wp2;go_ret;exact⟨rfl,rfl⟩
theorem Qcr(a1 a2:Option Addr)(c1 c2:Nat)(l m:List Nat)(x y:Nat)(w:World)(h1:U64 w a1 c1 l x)(h2:U64 w a2 c2 m y):
 Calls prog 87 #[.slice a1 l.length c1,.slice a2 m.length c2] w fun e w'=>e=.returned (.int .i64 (cmp3 x y))/\Below w.heap.size w w':=by
 have s1:=h1.short;have s2:=h2.short;by_cases hlt:l.length<m.length
 .
  have hne:((l.length:Int) != (m.length:Int))=true:=by rw[bne_iff_ne];omega
  have hr:cmp3 x y= -1:=Qcj (by rw[<-h1.num.eq,<-h2.num.eq];exact Qau (by omega) h1.num.small h2.num.trim hlt);have HR:O (cmp3 x y= -1):=hr;clear hr h1 h2;go_enter func87,ntmps87;go_wp2;go_ret;exact⟨by rw[HR.o];rfl,Below.refl _ _⟩
 by_cases hgt:m.length<l.length
 .
  have hne:((l.length:Int) != (m.length:Int))=true:=by rw[bne_iff_ne];omega
  have hr:cmp3 x y=1:=Qdf (by rw[<-h1.num.eq,<-h2.num.eq];exact Qau (by omega) h2.num.small h1.num.trim hgt);have HR:O (cmp3 x y=1):=hr;clear hr h1 h2;go_enter func87,ntmps87;go_wp2;go_ret;exact⟨by rw[HR.o];rfl,Below.refl _ _⟩
 have heq:m.length=l.length:=by omega
 have HE:O (m.length=l.length):=heq;rw[heq];have hne:((l.length:Int) != (l.length:Int))=false:=by simp
 clear hlt hgt heq;go_enter func87,ntmps87;go_wp2;go_loopw [5] (fun i wr=>∃k:Nat,k<=l.length/\i=.int .i64 ((k:Int) - 1)/\l.drop k=m.drop k/\Below w.heap.size w wr) (fun i _=>(intOf i+1).toNat)
 case atStart=>exact⟨l.length,Nat.le_refl _,rfl,by rw[List.drop_of_length_le lZ,List.drop_of_length_le (by rw[HE.o];exact Nat.le_refl _)],Below.refl _ _⟩
 case round=>
  obtain⟨k,hk,rfl,hd,hb⟩:=hrel;have HD:O (l.drop k=m.drop k):=hd;clear hd;by_cases h0:k=0
  .
   subst h0;go_wp2;go_ret;exact⟨by rw[Qg8 (by rw[<-h1.num.eq,<-h2.num.eq];have:=HD.o;simp at this;rw[this])];rfl,hb⟩
  .
   obtain⟨j,rfl⟩:∃j,k=j+1:=⟨k - 1,by omega⟩;have hjl:j<l.length:=by omega
   have hjm:j<m.length:=by have:=HE.o;omega
   obtain⟨b,off,rfl,hb1,hc1⟩:=h1.row.cell j hjl;obtain⟨b',off',rfl,hb2,hc2⟩:=h2.row.cell j hjm;obtain⟨d,hd⟩:=nm (l.getD j 0);obtain⟨e,he⟩:=nm (m.getD j 0);rw[hd] at hc1;rw[he] at hc2;have hc1':=ce hb hb1 hc1;have hc2':=ce hb hb2 hc2;have H1:O (l.getD j 0=d):=hd;have H2:O (m.getD j 0=e):=he;clear hd he hc1 hc2;have ei:((j+1:Nat):Int) - 1=(j:Int):=by omega
   rw[ei];by_cases hlt:d<e
   .
    go_wp2;go_region
    all_goals
     go_wp2;go_ret;exact⟨by rw[Qcj (by rw[<-h1.num.eq,<-h2.num.eq];exact Qdg (by omega) h1.num.small j hjl hjm HD.o (by rw[H1.o,H2.o];exact hlt))];rfl,hb.drew⟩
   by_cases hgt:e<d
   .
    go_wp2;go_region
    all_goals
     go_wp2;go_region
    all_goals
     go_wp2;go_ret;exact⟨by rw[Qdf (by rw[<-h1.num.eq,<-h2.num.eq];exact Qdg (by omega) h2.num.small j hjm hjl HD.o.symm (by rw[H1.o,H2.o];omega))];rfl,hb.drew.drew⟩
   .
    go_wp2;go_region
    all_goals
     go_wp2;go_region
    all_goals
     go_wp2;go_roundw
     case rel=>exact⟨j,by omega,by go_num,Qg9 hjl hjm HD.o (H1.o.trans ((show d=e by omega).trans H2.o.symm)),hb.drew.drew⟩
     case measure=>simp[intOf]
theorem Qpd(k c d e r c':Nat)(rs l m:List Nat)(hk:k<rs.length)(hd:l.getD k 0=d)(he:m.getD k 0=e)(hr:r+18446744073709551616*c'=d+e+c)
 (h:val 18446744073709551616 (rs.take k)+18446744073709551616 ^ k*c=val 18446744073709551616 (l.take k)+val 18446744073709551616 (m.take k)):
 val 18446744073709551616 ((rs.set k r).take (k+1))+18446744073709551616 ^ (k+1)*c'=val 18446744073709551616 (l.take (k+1))+val 18446744073709551616 (m.take (k+1)):=by
 rw[take_set _ _ _ hk,Qal,List.length_take,Nat.min_eq_left (by omega),Qae,Qae,hd,he,Nat.pow_succ];have e2:18446744073709551616 ^ k*(r+18446744073709551616*c')=18446744073709551616 ^ k*(d+e+c):=by rw[hr]
 rw[Nat.mul_add,Nat.mul_add,Nat.mul_add,<-Nat.mul_assoc] at e2;omega
theorem Qpe(a1 a2:Option Addr)(c1 c2:Nat)(l m:List Nat)(x y:Nat)(w:World)(h1:U64 w a1 c1 l x)(h2:U64 w a2 c2 m y)(hl:l.length<1099511627776)(hm:m.length<1099511627776):
 Calls prog 152 #[.slice a1 l.length c1,.slice a2 m.length c2] w fun e w'=>(∃a cap r,e=.returned (.slice a r.length cap)/\U64 w' a cap r (x+y))/\Below w.heap.size w w':=by
 obtain⟨n,hn,hnl,hnm⟩:∃n,max l.length m.length=n/\l.length<=n/\m.length<=n:=⟨_,rfl,by omega,by omega⟩;have hmx:max (l.length:Int) (m.length:Int)=(n:Int):=by omega
 have hmk:∀w,(Instr.makeSlice 61 (.int .i64 ((n:Int)+1)) (.int .i64 ((n:Int)+1))).run prog w=.ok (.slice (some ⟨w.heap.size,0,none⟩) (n+1) (n+1)) (w.alloc (.cells (wordCells .u64 (zeros (n+1))) 119)):=
  fun w=>Qcn _ (n+1) (by omega) (by omega) w
 have hnb:n<1099511627776:=by omega
 obtain⟨H1,H2⟩:=Ia h1 h2;clear h1 h2 hn;go_enter func152,ntmps152;go_wp2;clear hmk;go_loopw [7,18] (fun c i wr=>∃(k c':Nat) (rs:List Nat),k<=n/\c'<=1/\c=.int .u64 c'/\i=.int .i64 k/\Blk .u64 119 wr w.heap.size rs/\rs.length=n+1/\Small 18446744073709551616 rs/\
  val 18446744073709551616 (rs.take k)+18446744073709551616 ^ k*c'=val 18446744073709551616 (l.take k)+val 18446744073709551616 (m.take k)/\Below w.heap.size w wr) (fun _ i _=>n - (intOf i).toNat)
 case atStart=>exact⟨0,0,zeros (n+1),by omega,by omega,rfl,rfl,Blk.new _ _ _ _,Qag _,Qam _ _ (by omega),by simp[val],bR.alloc lZ _⟩
 case round=>
  obtain⟨k,c,rs,hk,hc,rfl,rfl,hB,hrl,hrs,hv,hb⟩:=hrel;obtain⟨HV,HRL,HB,HRS,HBL⟩:=Id hv hrl hB hrs hb;clear hv hrs hb;by_cases hlt:k<n
  .
   obtain⟨d,hd⟩:=nm (l.getD k 0);obtain⟨e,he⟩:=nm (m.getD k 0);have hdb:d<18446744073709551616:=by rw[<-hd];exact H1.o.num.small.getD (by omega) k
   have heb:e<18446744073709551616:=by rw[<-he];exact H2.o.num.small.getD (by omega) k
   obtain⟨r,c',hr,hc',hrc,hcall⟩:=add64 d e c hdb heb hc;obtain⟨z,hz⟩:=nm (rs.getD k 0);have g1:=hB.free k;have g2:=hB.cell k (by omega);rw[hz] at g2;obtain⟨HC1,HC2⟩:=Ia (Qbv a1 c1 l k wr (H1.o.row.below HBL.o) (by omega) (by omega)) (Qbv a2 c2 m k wr (H2.o.row.below HBL.o) (by omega) (by omega));rw[hd] at HC1;rw[he] at HC2;obtain⟨HD1,HD2,HRC⟩:=Ib hd he hrc;clear hd he hz hB hrl hrc;go_wp2_with fail;refine HC1.o.mono ?_;rintro e1 w1 ⟨rfl,hw1⟩;subst hw1;go_wp2_with fail;refine HC2.o.mono ?_;rintro e1 w2 ⟨rfl,hw2⟩;subst hw2;clear HC1 HC2;go_wp2_with (simp only[hcall]);go_roundw
   case rel=>exact⟨k+1,c',rs.set k r,by omega,hc',rfl,by go_num,HB.o.set k _,by rw[List.length_set];exact HRL.o,HRS.o.set k hr,Qpd k c d e r c' rs l m (by have:=HRL.o;omega) HD1.o HD2.o HRC.o HV.o,HBL.o.setCell lZ _⟩
   case measure=>simp[intOf];omega
  .
   obtain⟨z,hz⟩:=nm (rs.getD n 0);have g1:=hB.free n;have g2:=hB.cell n (by omega);rw[hz] at g2;clear hz hB hrl;go_wp2_with fail;have hl1:(rs.set n c).length=n+1:=by rw[List.length_set];exact HRL.o
   have hB2:Blk .u64 119 (wr.setCell ⟨w.heap.size,n,none⟩ (.int .u64 (c:Int))) w.heap.size (rs.set n c):=HB.o.set n c;have hvv:val 18446744073709551616 (rs.set n c)=x+y:=by
    rw[Qen _ _ _ _ HRL.o];have e1:k=n:=by omega
    have e2:=HV.o;rw[e1,Qa6 _ l _ hnl,Qa6 _ m _ hnm,H1.o.num.eq,H2.o.num.eq] at e2;omega
   refine(Qcp w.heap.size (n+1) (n+1) (x+y) (rs.set n c) _ hB2 hl1 (HRS.o.set _ (by omega)) lZ (by omega) hvv).mono ?_;rintro e w1 ⟨⟨r,rfl,hu⟩,rfl⟩;go_wp2;go_ret;exact⟨⟨_,_,r,rfl,hu⟩,HBL.o.setCell lZ _⟩
theorem Qpf(a1 a2:Option Addr)(c1 c2:Nat)(l m:List Nat)(x y:Nat)(w:World)(h1:U64 w a1 c1 l x)(h2:U64 w a2 c2 m y)(hyx:y<=x):
 Calls prog 153 #[.slice a1 l.length c1,.slice a2 m.length c2] w fun e w'=>(∃a cap r,e=.returned (.slice a r.length cap)/\U64 w' a cap r (x - y))/\Below w.heap.size w w':=by
 have s1:=h1.short;have s2:=h2.short;have hml:m.length<=l.length:=by
  apply bC;intro hc;have:=Qau (B:=18446744073709551616) (by decide) h1.num.small h2.num.trim (by omega);rw[h1.num.eq,h2.num.eq] at this;omega
 have hmk:∀w,(Instr.makeSlice 61 (.int .i64 (l.length:Int)) (.int .i64 (l.length:Int))).run prog w=.ok (.slice (some ⟨w.heap.size,0,none⟩) l.length l.length) (w.alloc (.cells (wordCells .u64 (zeros l.length)) 119)):=
  fun w=>Qcn _ l.length rfl (by omega) w
 obtain⟨H1,H2⟩:=Ia h1 h2;clear h1 h2;go_enter func153,ntmps153;go_wp2;clear hmk;go_loopw [7,14] (fun c i wr=>∃(k c':Nat) (rs:List Nat),k<=l.length/\c'<=1/\c=.int .u64 c'/\i=.int .i64 k/\Blk .u64 119 wr w.heap.size rs/\rs.length=l.length/\Small 18446744073709551616 rs/\
  val 18446744073709551616 (rs.take k)+val 18446744073709551616 (m.take k)=val 18446744073709551616 (l.take k)+18446744073709551616 ^ k*c'/\Below w.heap.size w wr) (fun _ i _=>l.length - (intOf i).toNat)
 case atStart=>exact⟨0,0,zeros l.length,by omega,by omega,rfl,rfl,Blk.new _ _ _ _,Qag _,Qam _ _ (by omega),by simp[val],bR.alloc lZ _⟩
 case round=>
  obtain⟨k,c,rs,hk,hc,rfl,rfl,hB,hrl,hrs,hv,hb⟩:=hrel;obtain⟨HV,HRL,HB,HRS,HBL⟩:=Id hv hrl hB hrs hb;clear hv hrs hb;by_cases hlt:k<l.length
  .
   obtain⟨b,off,rfl,hb1,hc1⟩:=H1.o.row.cell k hlt;obtain⟨d,hd⟩:=nm (l.getD k 0);obtain⟨e,he⟩:=nm (m.getD k 0);have hdb:d<18446744073709551616:=by rw[<-hd];exact H1.o.num.small.getD (by omega) k
   have heb:e<18446744073709551616:=by rw[<-he];exact H2.o.num.small.getD (by omega) k
   rw[hd] at hc1;have hc1':=ce HBL.o hb1 hc1;obtain⟨r,c',hr,hc',hrc,hcall⟩:=sub64 d e c hdb heb hc;obtain⟨z,hz⟩:=nm (rs.getD k 0);have g1:=hB.free k;have g2:=hB.cell k (by omega);rw[hz] at g2;have HC2:=Hi (Qbv a2 c2 m k wr.drew (H2.o.row.below HBL.o.drew) (by omega) (by omega));rw[he] at HC2;obtain⟨HD1,HD2,HRC⟩:=Ib hd he hrc;have i0:(0:Int)<=(k:Int):=by omega
   have i1:(k:Int)<(l.length:Int):=by omega
   have hst:=(((HBL.o.setCell (p:=⟨w.heap.size,k,none⟩) lZ (.int .u64 (r:Int))).drew).cell (p:=⟨b,off+k,none⟩) hb1).trans hc1;clear hd he hz hB hrl hrc hc1;go_wp2_with fail;go_region_held3 (fun w'=>w'.cell? ⟨b,off+k,none⟩=some (.int .u64 d)) ((simp [*])) (first
    |(
     go_at_call 155;refine HC2.o.mono ?_;rintro e1 w2 ⟨rfl,hw2⟩
     subst hw2)
    |simp only[hcall])
   go_wp2;go_roundw
   case rel=>exact⟨k+1,c',rs.set k r,by omega,hc',rfl,by go_num,(HB.o.set k _).drew,by rw[List.length_set];exact HRL.o,HRS.o.set k hr,Qeo _ k c d e r c' rs l m (by have:=HRL.o;omega) HD1.o HD2.o HRC.o HV.o,(HBL.o.setCell lZ _).drew⟩
   case measure=>simp[intOf];omega
  .
   have e1:k=l.length:=by omega
   go_wp2_with fail;have hvv:val 18446744073709551616 rs=x - y:=by
    have e2:=HV.o;have hlt2:=Qac (B:=18446744073709551616) (by decide) HRS.o;rw[HRL.o] at hlt2;rw[e1,List.take_of_length_le (by have:=HRL.o;omega),Qa6 _ m _ hml,List.take_length,H1.o.num.eq,H2.o.num.eq] at e2;have hc0:c=0:=by
     rcases Nat.eq_zero_or_pos c with h|h
     . exact h
     .
      have:c=1:=by omega
      subst this;omega
    subst hc0;omega
   refine(Qcp w.heap.size l.length l.length (x - y) rs _ HB.o HRL.o HRS.o lZ (by omega) hvv).mono ?_;rintro e w1 ⟨⟨r,rfl,hu⟩,rfl⟩;go_wp2;go_ret;exact⟨⟨_,_,r,rfl,hu⟩,HBL.o⟩
structure RowDone (w w':World) (g off n:Nat) (rs rs':List Nat):Prop where
 blk:Blk .u64 119 w' g rs'
 len:rs'.length=rs.length
 small:Small 18446744073709551616 rs'
 only:Only g w w'
 o:∀p,p<off∨off+n<=p->rs'.getD p 0=rs.getD p 0
theorem Row.onlyG{k:IntKind}{w w':World}{a:Option Addr}{cap:Nat}{l:List Nat}{g:Nat}(h:Row k w a cap l)(ho:Only g w w')(hne:∀b off,a=some ⟨b,off,none⟩->b≠g):Row k w' a cap l:=by
 refine⟨h.fit,?_,fun i hi=>?_⟩
 .
  rcases h.shape with h1|⟨b',off,rfl,h2⟩
  . exact .inl h1
  . exact .inr ⟨b',off,rfl,by have:=ho.size;omega⟩
 . obtain⟨b',off,h1,h2,h3⟩:=h.cell i hi
   exact⟨b',off,h1,by have:=ho.size;omega,(World.cell?_of_block (w:=w) (ho.block b' h2 (hne b' off h1))).trans h3⟩
theorem U64.onlyG{w w':World}{a:Option Addr}{cap:Nat}{l:List Nat}{n g:Nat}(h:U64 w a cap l n)(ho:Only g w w')(hne:∀b off,a=some ⟨b,off,none⟩->b≠g):U64 w' a cap l n:=⟨h.row.onlyG ho hne,h.num,h.short⟩
theorem Qe8{rs rs':List Nat}{off j x:Nat}(h:∀p,p<off∨off+j<=p->rs'.getD p 0=rs.getD p 0):∀p,p<off∨off+(j+1)<=p->(rs'.set (off+j) x).getD p 0=rs.getD p 0:=by
 intro p hp;rw[getD_set_ne _ _ _ _ (by omega)];exact h p (by omega)
theorem Qip(B p a new over over' t R:Nat)(rs:List Nat)(hp:p<rs.length)(ha:rs.getD p 0=a)(hn:new+B*over'=a+t+over)(h:val B rs+B ^ p*over=R):
 val B (rs.set p new)+B ^ (p+1)*over'=R+B ^ p*t:=by
 have h1:=Qbc B rs p new hp;rw[ha] at h1;have h2:B ^ p*(new+B*over')=B ^ p*(a+t+over):=by rw[hn]
 rw[Nat.mul_add,Nat.mul_add,Nat.mul_add,<-Nat.mul_assoc] at h2;rw[Nat.pow_succ];omega
theorem Qp4(B p a new lack lack' t R S:Nat)(rs:List Nat)(hp:p<rs.length)(ha:rs.getD p 0=a)(hn:new+t+lack=a+B*lack')(h:val B rs+S=R+B ^ p*lack):
 val B (rs.set p new)+(S+B ^ p*t)=R+B ^ (p+1)*lack':=by
 have h1:=Qbc B rs p new hp;rw[ha] at h1;have h2:B ^ p*(new+t+lack)=B ^ p*(a+B*lack'):=by rw[hn]
 rw[Nat.mul_add,Nat.mul_add,Nat.mul_add,<-Nat.mul_assoc] at h2;rw[Nat.pow_succ];omega
theorem Qe9{v d over:Nat}(hv:v<18446744073709551616)(hd:d<18446744073709551616):v*d<=18446744073709551615*18446744073709551615:=Nat.mul_le_mul (by omega) (by omega)
theorem Qfa(B off j d:Nat)(m:List Nat):B ^ off*(d*val B (m.take (j+1)))=B ^ off*(d*val B (m.take j))+B ^ (off+j)*(m.getD j 0*d):=by
 rw[Qae,Nat.mul_add,Nat.mul_add,Nat.pow_add]
 congr 1
 rw[Nat.mul_assoc,Nat.mul_comm (m.getD j 0) d,<-Nat.mul_assoc d,Nat.mul_comm d (B ^ j),Nat.mul_assoc]
theorem Qp5(g off cap:Nat)(rs:List Nat)(a2:Option Addr)(c2:Nat)(m:List Nat)(d:Nat)(w:World)(hB:Blk .u64 119 w g rs)(hsm:Small 18446744073709551616 rs)(hm:Row .u64 w a2 c2 m)(hms:Small 18446744073709551616 m)(hml:m.length<=1099511627776)(hd:d<18446744073709551616)
 (hoff:off+m.length<=rs.length) (hcap:m.length<=cap) (hne:∀b o,a2=some ⟨b,o,none⟩->b≠g):
 Calls prog 130 #[.slice (some ⟨g,off,none⟩) m.length cap,.slice a2 m.length c2,.int .u64 d] w fun e w'=>∃over rs',e=.returned (.int .u64 ((over:Nat):Int))/\over<18446744073709551616/\RowDone w w' g off m.length rs rs'/\val 18446744073709551616 rs'+18446744073709551616 ^ (off+m.length)*over=val 18446744073709551616 rs+18446744073709551616 ^ off*(d*val 18446744073709551616 m):=by
 obtain⟨HB0,HSM,HM,HMS,HNE⟩:=Id hB hsm hm hms hne;clear hB hsm hm hms hne;go_enter func130,ntmps130;go_wp2;go_loopw [7,19] (fun o i wr=>∃(k over:Nat) (rk:List Nat),k<=m.length/\over<18446744073709551616/\o=.int .u64 over/\i=.int .i64 k/\RowDone w wr g off k rs rk/\val 18446744073709551616 rk+18446744073709551616 ^ (off+k)*over=val 18446744073709551616 rs+18446744073709551616 ^ off*(d*val 18446744073709551616 (m.take k))) (fun _ i _=>m.length - (intOf i).toNat)
 case atStart=>exact⟨0,0,rs,by omega,by omega,rfl,rfl,⟨HB0.o,rfl,HSM.o,Only.refl _ _,fun _ _=>rfl⟩,by simp[val]⟩
 case round=>
  obtain⟨k,over,rk,hk,hov,rfl,rfl,hr,hv⟩:=hrel;obtain⟨HR,HV⟩:=Ia hr hv;clear hv;by_cases hlt:k<m.length
  .
   obtain⟨b,o,rfl,hb1,hc1⟩:=(HM.o.onlyG HR.o.only HNE.o).cell k hlt;obtain⟨v,hv⟩:=nm (m.getD k 0);rw[hv] at hc1;have hvb:v<18446744073709551616:=by rw[<-hv];exact HMS.o.getD (by omega) k
   obtain⟨z,hz⟩:=nm (rk.getD (off+k) 0);have hzb:z<18446744073709551616:=by rw[<-hz];exact HR.o.small.getD (by omega) _
   have g1:=hr.blk.free (off+k);have g2:=hr.blk.cell (off+k) (by rw[hr.len];omega);rw[hz] at g2;obtain⟨h,l,hh,hl,hhl,hcm⟩:=mul64 v d hvb hd;obtain⟨l',c1,hl',hc1b,hlc,hca⟩:=Qco l over hl hov;obtain⟨z',c2',hz',hc2b,hzc,hcb⟩:=Qco z l' hzb hl';have hfit:=Qe9 (over:=over) hvb hd;have hsum:z'+18446744073709551616*(h+c1+c2')=z+v*d+over:=by omega
   have hob:h+c1+c2'<18446744073709551616:=by omega
   have hob1:h+c1<18446744073709551616:=by omega
   obtain⟨HCM,HSUM,HV1,HZ1⟩:=Ic hcm hsum hv hz;clear hr hv hz hcm hsum hhl hlc hzc hfit;go_wp2_with (first|(go_at_call 158;refine(HCM.o _).mono ?_;rintro e w2 ⟨rfl,hw2⟩;subst hw2)|simp only[hca]|simp only[hcb]);go_roundw
   case rel=>
    refine⟨k+1,h+c1+c2',rk.set (off+k) z',by omega,hob,by go_num,by go_num,⟨HR.o.blk.set _ _,by rw[List.length_set];exact HR.o.len,HR.o.small.set _ hz',HR.o.only.setCell _ _,Qe8 HR.o.o⟩,?_⟩;have h1:=Qip 18446744073709551616 (off+k) z z' over (h+c1+c2') (v*d) _ rk (by rw[HR.o.len];omega) HZ1.o (by rw[HSUM.o]) HV.o;rw[Nat.add_assoc] at h1;rw[h1,Qfa,HV1.o];omega
   case measure=>simp[intOf];omega
  .
   have e1:k=m.length:=by omega
   subst e1;clear hr;go_wp2;go_ret;exact⟨over,rk,rfl,hov,HR.o,by have:=HV.o;rw[List.take_length] at this;exact this⟩
theorem Qp6(g off cap:Nat)(rs:List Nat)(a2:Option Addr)(c2:Nat)(m:List Nat)(d:Nat)(w:World)(hB:Blk .u64 119 w g rs)(hsm:Small 18446744073709551616 rs)(hm:Row .u64 w a2 c2 m)(hms:Small 18446744073709551616 m)(hml:m.length<=1099511627776)(hd:d<18446744073709551616)
 (hoff:off+m.length<=rs.length) (hcap:m.length<=cap) (hne:∀b o,a2=some ⟨b,o,none⟩->b≠g):
 Calls prog 190 #[.slice (some ⟨g,off,none⟩) m.length cap,.slice a2 m.length c2,.int .u64 d] w fun e w'=>∃over rs',e=.returned (.int .u64 ((over:Nat):Int))/\over<18446744073709551616/\RowDone w w' g off m.length rs rs'/\val 18446744073709551616 rs'+18446744073709551616 ^ off*(d*val 18446744073709551616 m)=val 18446744073709551616 rs+18446744073709551616 ^ (off+m.length)*over:=by
 obtain⟨HB0,HSM,HM,HMS,HNE⟩:=Id hB hsm hm hms hne;clear hB hsm hm hms hne;go_enter func190,ntmps190;go_wp2;go_loopw [7,19] (fun o i wr=>∃(k over:Nat) (rk:List Nat),k<=m.length/\over<18446744073709551616/\o=.int .u64 over/\i=.int .i64 k/\RowDone w wr g off k rs rk/\val 18446744073709551616 rk+18446744073709551616 ^ off*(d*val 18446744073709551616 (m.take k))=val 18446744073709551616 rs+18446744073709551616 ^ (off+k)*over) (fun _ i _=>m.length - (intOf i).toNat)
 case atStart=>exact⟨0,0,rs,by omega,by omega,rfl,rfl,⟨HB0.o,rfl,HSM.o,Only.refl _ _,fun _ _=>rfl⟩,by simp[val]⟩
 case round=>
  obtain⟨k,over,rk,hk,hov,rfl,rfl,hr,hv⟩:=hrel;obtain⟨HR,HV⟩:=Ia hr hv;clear hv;by_cases hlt:k<m.length
  .
   obtain⟨b,o,rfl,hb1,hc1⟩:=(HM.o.onlyG HR.o.only HNE.o).cell k hlt;obtain⟨v,hv⟩:=nm (m.getD k 0);rw[hv] at hc1;have hvb:v<18446744073709551616:=by rw[<-hv];exact HMS.o.getD (by omega) k
   obtain⟨z,hz⟩:=nm (rk.getD (off+k) 0);have hzb:z<18446744073709551616:=by rw[<-hz];exact HR.o.small.getD (by omega) _
   have g1:=hr.blk.free (off+k);have g2:=hr.blk.cell (off+k) (by rw[hr.len];omega);rw[hz] at g2;obtain⟨h,l,hh,hl,hhl,hcm⟩:=mul64 v d hvb hd;obtain⟨l',c1,hl',hc1b,hlc,hca⟩:=Qco l over hl hov;obtain⟨z',c2',hz',hc2b,hzc,hcb⟩:=Qid z l' hzb hl';have hfit:=Qe9 (over:=over) hvb hd;have hsum:z'+v*d+over=z+18446744073709551616*(h+c1+c2'):=by omega
   have hob:h+c1+c2'<18446744073709551616:=by omega
   have hob1:h+c1<18446744073709551616:=by omega
   obtain⟨HCM,HSUM,HV1,HZ1⟩:=Ic hcm hsum hv hz;clear hr hv hz hcm hsum hhl hlc hzc hfit;go_wp2_with (first|(go_at_call 158;refine(HCM.o _).mono ?_;rintro e w2 ⟨rfl,hw2⟩;subst hw2)|simp only[hca]|simp only[hcb]);go_roundw
   case rel=>
    refine⟨k+1,h+c1+c2',rk.set (off+k) z',by omega,hob,by go_num,by go_num,⟨HR.o.blk.set _ _,by rw[List.length_set];exact HR.o.len,HR.o.small.set _ hz',HR.o.only.setCell _ _,Qe8 HR.o.o⟩,?_⟩;have h1:=Qp4 18446744073709551616 (off+k) z z' over (h+c1+c2') (v*d) _ _ rk (by rw[HR.o.len];omega) HZ1.o HSUM.o HV.o;rw[Nat.add_assoc off] at h1;rw[Qfa,HV1.o];exact h1
   case measure=>simp[intOf];omega
  .
   have e1:k=m.length:=by omega
   subst e1;clear hr;go_wp2;go_ret;exact⟨over,rk,rfl,hov,HR.o,by have:=HV.o;rw[List.take_length] at this;exact this⟩
theorem Qp7(g off cap:Nat)(rs:List Nat)(a2:Option Addr)(c2:Nat)(m:List Nat)(w:World)(hB:Blk .u64 119 w g rs)(hsm:Small 18446744073709551616 rs)(hm:Row .u64 w a2 c2 m)(hms:Small 18446744073709551616 m)(hml:m.length<=1099511627776)
 (hoff:off+m.length<=rs.length) (hcap:m.length<=cap) (hne:∀b o,a2=some ⟨b,o,none⟩->b≠g):
 Calls prog 191 #[.slice (some ⟨g,off,none⟩) m.length cap,.slice a2 m.length c2] w fun e w'=>∃over rs',e=.returned (.int .u64 ((over:Nat):Int))/\over<=1/\RowDone w w' g off m.length rs rs'/\val 18446744073709551616 rs'+18446744073709551616 ^ (off+m.length)*over=val 18446744073709551616 rs+18446744073709551616 ^ off*(1*val 18446744073709551616 m):=by
 obtain⟨HB0,HSM,HM,HMS,HNE⟩:=Id hB hsm hm hms hne;clear hB hsm hm hms hne;go_enter func191,ntmps191;go_wp2;go_loopw [5,14] (fun o i wr=>∃(k over:Nat) (rk:List Nat),k<=m.length/\over<=1/\o=.int .u64 over/\i=.int .i64 k/\RowDone w wr g off k rs rk/\val 18446744073709551616 rk+18446744073709551616 ^ (off+k)*over=val 18446744073709551616 rs+18446744073709551616 ^ off*(1*val 18446744073709551616 (m.take k))) (fun _ i _=>m.length - (intOf i).toNat)
 case atStart=>exact⟨0,0,rs,by omega,by omega,rfl,rfl,⟨HB0.o,rfl,HSM.o,Only.refl _ _,fun _ _=>rfl⟩,by simp[val]⟩
 case round=>
  obtain⟨k,over,rk,hk,hov,rfl,rfl,hr,hv⟩:=hrel;obtain⟨HR,HV⟩:=Ia hr hv;clear hv;by_cases hlt:k<m.length
  .
   obtain⟨b,o,rfl,hb1,hc1⟩:=(HM.o.onlyG HR.o.only HNE.o).cell k hlt;obtain⟨v,hv⟩:=nm (m.getD k 0);rw[hv] at hc1;have hvb:v<18446744073709551616:=by rw[<-hv];exact HMS.o.getD (by omega) k
   obtain⟨z,hz⟩:=nm (rk.getD (off+k) 0);have hzb:z<18446744073709551616:=by rw[<-hz];exact HR.o.small.getD (by omega) _
   have g1:=hr.blk.free (off+k);have g2:=hr.blk.cell (off+k) (by rw[hr.len];omega);rw[hz] at g2;obtain⟨z',c2',hz',hc2b,hzc,hcb⟩:=add64 z v over hzb hvb hov;obtain⟨HSUM,HV1,HZ1⟩:=Ib hzc hv hz;clear hr hv hz hzc;go_wp2_with (simp only[hcb]);go_roundw
   case rel=>
    refine⟨k+1,c2',rk.set (off+k) z',by omega,hc2b,by go_num,by go_num,⟨HR.o.blk.set _ _,by rw[List.length_set];exact HR.o.len,HR.o.small.set _ hz',HR.o.only.setCell _ _,Qe8 HR.o.o⟩,?_⟩;have h1:=Qip 18446744073709551616 (off+k) z z' over c2' (v*1) _ rk (by rw[HR.o.len];omega) HZ1.o (by rw[HSUM.o];omega) HV.o;rw[Nat.add_assoc] at h1;rw[h1,Qfa,HV1.o];omega
   case measure=>simp[intOf];omega
  .
   have e1:k=m.length:=by omega
   subst e1;clear hr;go_wp2;go_ret;exact⟨over,rk,rfl,hov,HR.o,by have:=HV.o;rw[List.take_length] at this;exact this⟩
theorem Qio(a1 a2:Option Addr)(c1 c2:Nat)(l m:List Nat)(x y:Nat)(w:World)(h1:U64 w a1 c1 l x)(h2:U64 w a2 c2 m y)(hlm:l.length+m.length<=1099511627776):
 Calls prog 88 #[.slice a1 l.length c1,.slice a2 m.length c2] w fun e w'=>(∃a cap r,e=.returned (.slice a r.length cap)/\U64 w' a cap r (x*y))/\Below w.heap.size w w':=by
 obtain⟨H1,H2⟩:=Ia h1 h2;by_cases hx0:l.length=0
 .
  have hx:x=0:=(h1.num.len_zero (by decide)).2 hx0;have q1:((l.length:Int) == 0)=true:=by simp[hx0]
  subst hx;clear h1 h2;go_enter func88,ntmps88;go_wp2;go_ret;exact⟨⟨none,0,[],rfl,by rw[Nat.zero_mul];exact U64.nil _⟩,Below.refl _ _⟩
 by_cases hy0:m.length=0
 .
  have hy:y=0:=(h2.num.len_zero (by decide)).2 hy0;have q1:((l.length:Int) == 0)=false:=by rw[beq_eq_false_iff_ne];omega
  have q2:((m.length:Int) == 0)=true:=by simp[hy0]
  subst hy;clear h1 h2;go_enter func88,ntmps88;go_wp2;go_ret;exact⟨⟨none,0,[],rfl,by rw[Nat.mul_zero];exact U64.nil _⟩,Below.refl _ _⟩
 have q1:((l.length:Int) == 0)=false:=by rw[beq_eq_false_iff_ne];omega
 have q2:((m.length:Int) == 0)=false:=by rw[beq_eq_false_iff_ne];omega
 obtain⟨HO1,HO2⟩:=Ia (Qcq a1 c1 l x w h1) (Qcq a2 c2 m y w h2);clear h1 h2;by_cases hx1:x=1
 .
  rw[show decide (x=1)=true by simpa using hx1] at HO1;go_enter func88,ntmps88;go_wp2_with fail;refine HO1.o.mono ?_;rintro e w1 ⟨rfl,hw1⟩;subst hw1;clear HO1 HO2;go_wp2;go_ret;exact⟨⟨a2,c2,m,rfl,by rw[hx1,Nat.one_mul];exact H2.o⟩,Below.refl _ _⟩
 rw[show decide (x=1)=false by simpa using hx1] at HO1;by_cases hy1:y=1
 .
  rw[show decide (y=1)=true by simpa using hy1] at HO2;go_enter func88,ntmps88;go_wp2_with fail;refine HO1.o.mono ?_;rintro e w1 ⟨rfl,hw1⟩;subst hw1;go_wp2_with fail;refine HO2.o.mono ?_;rintro e w1 ⟨rfl,hw1⟩;subst hw1;clear HO1 HO2;go_wp2;go_ret;exact⟨⟨a1,c1,l,rfl,by rw[hy1,Nat.mul_one];exact H1.o⟩,Below.refl _ _⟩
 rw[show decide (y=1)=false by simpa using hy1] at HO2;have hmk:∀w,(Instr.makeSlice 61 (.int .i64 ((l.length:Int)+(m.length:Int))) (.int .i64 ((l.length:Int)+(m.length:Int)))).run prog w=.ok (.slice (some ⟨w.heap.size,0,none⟩) (l.length+m.length) (l.length+m.length)) (w.alloc (.cells (wordCells .u64 (zeros (l.length+m.length))) 119)):=
  fun w=>Qcn _ (l.length+m.length) (by omega) (by omega) w
 go_enter func88,ntmps88;go_wp2_with fail;refine HO1.o.mono ?_;rintro e w1 ⟨rfl,hw1⟩;subst hw1;go_wp2_with fail;refine HO2.o.mono ?_;rintro e w ⟨rfl,hw1⟩;subst hw1;clear HO1 HO2;go_wp2;clear hmk;go_loopw [30] (fun i wr=>∃(k:Nat) (rs:List Nat),k<=l.length/\i=.int .i64 k/\Blk .u64 119 wr w.heap.size rs/\rs.length=l.length+m.length/\Small 18446744073709551616 rs/\val 18446744073709551616 rs=val 18446744073709551616 (l.take k)*y/\(∀p,k+m.length<=p->rs.getD p 0=0)/\Below w.heap.size w wr) (fun i _=>l.length - (intOf i).toNat)
 case atStart=>exact⟨0,zeros (l.length+m.length),by omega,rfl,Blk.new _ _ _ _,Qag _,Qam _ _ (by omega),by rw[Qdq];simp[val],fun p _=>Qbu _ _,bR.alloc lZ _⟩
 case round=>
  obtain⟨k,rs,hk,rfl,hB,hrl,hrs,hv,hz,hb⟩:=hrel;obtain⟨HB,HRL,HRS,HV,HZ,HBL⟩:=Ie hB hrl hrs hv hz hb;clear hB hrl hrs hv hz hb;by_cases hlt:k<l.length
  .
   obtain⟨b,off,rfl,hb1,hc1⟩:=(H1.o.row.below HBL.o).cell k hlt;obtain⟨d,hd⟩:=nm (l.getD k 0);rw[hd] at hc1;have hdb:d<18446744073709551616:=by rw[<-hd];exact H1.o.num.small.getD (by omega) k
   have HD:=Hi hd;have HC:=Hi (Qp5 w.heap.size k (l.length+m.length - k) rs a2 c2 m d wr HB.o HRS.o (H2.o.row.below HBL.o) H2.o.num.small H2.o.short hdb (by have:=HRL.o;omega) (by omega) (fun b o hbo=>by
    rcases H2.o.row.shape with ⟨h,_⟩|⟨b',o',h,hlt'⟩
    . rw[h] at hbo;cases hbo
    .
     rw[h] at hbo;obtain⟨rfl,rfl⟩:b'=b/\o'=o:=by simpa using hbo
     omega))
   clear hd;go_wp2_with fail;refine HC.o.mono ?_;rintro e w2 ⟨over,rs',rfl,hov,hdone,hval⟩;have g1:=hdone.blk.free (k+m.length);have g2:=hdone.blk.cell (k+m.length) (by rw[hdone.len,HRL.o];omega);have hz0:rs'.getD (k+m.length) 0=0:=by rw[hdone.o _ (.inr lZ)];exact HZ.o _ lZ
   rw[hz0] at g2;obtain⟨HDO,HVA,HZ0⟩:=Ib hdone hval hz0;clear hdone hval hz0 HC;go_wp2;go_roundw
   case rel=>
    have hlen:rs'.length=l.length+m.length:=by rw[HDO.o.len];exact HRL.o
    refine⟨k+1,rs'.set (k+m.length) over,by omega,by go_num,HDO.o.blk.set _ _,by rw[List.length_set];exact hlen,HDO.o.small.set _ hov,?_,?_,(HBL.o.trans (HDO.o.only.below lZ HBL.o.size)).setCell lZ _⟩
    .
     have h3:=Qbc 18446744073709551616 rs' (k+m.length) over (by omega);rw[HZ0.o,Nat.mul_zero,Nat.add_zero] at h3;rw[h3,HVA.o,HV.o,Qae,HD.o,H2.o.num.eq,Nat.add_mul,Nat.mul_assoc]
    .
     intro p hp;rw[getD_set_ne _ _ _ _ (by omega),HDO.o.o p (.inr (by omega))];exact HZ.o p (by omega)
   case measure=>simp[intOf];omega
  .
   have e1:k=l.length:=by omega
   go_wp2_with fail;refine(Qcp w.heap.size (l.length+m.length) (l.length+m.length) (x*y) rs _ HB.o HRL.o HRS.o lZ (by omega) (by rw[HV.o,e1,List.take_length,H1.o.num.eq])).mono ?_;rintro e w1 ⟨⟨r,rfl,hu⟩,rfl⟩;go_wp2;go_ret;exact⟨⟨_,_,r,rfl,hu⟩,HBL.o⟩
end Go.Proofs.YtldjeecnapgakaaGreatDoor
namespace Go.Proofs.YtldjeecnapgakaaGreatDoor
set_option linter.unusedSimpArgs false
set_option linter.unusedVariables false
set_option maxHeartbeats 8000000
set_option maxRecDepth 1000000
theorem Qax{yn1 yn0 u n1 q r Y:Nat}(hY:Y=4294967296*yn1+yn0)(hq:q*yn1+r=u):q*yn0≤4294967296*r+n1↔q*Y≤4294967296*u+n1:=by
 have e1:q*Y=4294967296*(q*yn1)+q*yn0:=by rw[hY,Nat.mul_add,Nat.mul_left_comm]
 generalize q*yn1=A at*;generalize q*yn0=T at*;omega
theorem Qdj{yn1 yn0 u n1 Y:Nat}(hY:Y=4294967296*yn1+yn0)(hn:n1<4294967296)(h0:0<yn1):(4294967296*u+n1) / Y≤u / yn1:=by
 have h1:(4294967296*u+n1) / Y≤(4294967296*u+n1) / (4294967296*yn1):=Nat.div_le_div_left (by omega) (by omega);rw[←Nat.div_div_eq_div_mul] at h1;have h2:(4294967296*u+n1) / 4294967296=u:=by omega
 rw[h2] at h1;exact h1
theorem Qaf{u n1 Y:Nat}(hu:u<Y)(hn:n1<4294967296):(4294967296*u+n1) / Y<4294967296:=by
 rw[Nat.div_lt_iff_lt_mul (by omega)];omega
theorem Qay{u n1 q Y:Nat}(hY:0<Y)(h1:q*Y≤4294967296*u+n1)(h2:(4294967296*u+n1) / Y≤q):(4294967296*u+n1) / Y=q:=
 Nat.le_antisymm h2 ((Nat.le_div_iff_mul_le hY).2 h1)
theorem Qdk{u n1 q Y:Nat}(hY:0<Y)(h1:¬q*Y≤4294967296*u+n1):(4294967296*u+n1) / Y<q:=by
 rw[Nat.div_lt_iff_lt_mul hY];omega
theorem Qbe{yn1 yn0 u q r Y:Nat}(hY:Y=4294967296*yn1+yn0)(h0:yn0<4294967296)(hu:u<Y)(hq:q*yn1+r=u)(hr:4294967296≤r)(h1:0<yn1):q<4294967296∧q*yn0≤4294967295*4294967295:=by
 have h2:q*yn1<4294967296*yn1:=by omega
 have h3:q<4294967296:=Nat.lt_of_mul_lt_mul_right h2;exact⟨h3,Nat.mul_le_mul (by omega) (by omega)⟩
theorem Qbr{s:Nat}(hs:s≤64):2 ^ s*2 ^ (64 - s)=18446744073709551616:=by
 rw[←Nat.pow_add,show s+(64 - s)=64 by omega]
theorem low64{lo s:Nat}(hs:s≤64):lo*2 ^ s=18446744073709551616*(lo / 2 ^ (64 - s))+lo*2 ^ s % 18446744073709551616:=by
 have h1:=Nat.div_add_mod (lo*2 ^ s) 18446744073709551616;have h2:lo*2 ^ s / 18446744073709551616=lo / 2 ^ (64 - s):=by
  rw[←Qbr hs,Nat.mul_comm lo,Nat.mul_div_mul_left _ _ (Nat.two_pow_pos s)]
 rw[h2] at h1;exact h1.symm
theorem Qet{lo s:Nat}(hs:s≤64)(hl:lo<18446744073709551616):lo / 2 ^ (64 - s)<2 ^ s:=by
 rw[Nat.div_lt_iff_lt_mul (Nat.two_pow_pos _),Qbr hs];exact hl
end Go.Proofs.YtldjeecnapgakaaGreatDoor
