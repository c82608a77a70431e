/- rafterref's SumOf. -/
import Derived.Test.YtbbkamnfjejceaaGreatDoorS17RefTurn
namespace Go.Proofs.YtbbkamnfjejceaaGreatDoor
open Go.RowKit
set_option linter.unusedVariables false
set_option linter.unusedSimpArgs false
theorem QOf.empty:QOf [] 0:=⟨0,.inr ⟨fun h=>h.1.1 rfl,rfl⟩,rfl⟩
def zeroText:ByteArray:=⟨#[48]⟩
def SumText(fs:List F4)(kind:Int)(s1 s2 s3 s4 s5:ByteArray):Prop:=
 ∃x y t,Sums 0 0 fs x y t∧QText s1.data.toList x∧QText s2.data.toList y∧QText s3.data.toList t∧
  ((x*x+y*y=0∧((t=0∧kind=1)∨(t≠0∧kind=2))∧s4=zeroText∧s5=zeroText)∨
   (x*x+y*y≠0∧kind=3∧QText s4.data.toList (t*y / (x*x+y*y))∧QText s5.data.toList (-(t*x) / (x*x+y*y))))
theorem Qhp(q:Rat):(sgn3 q.num == 0)=decide (q=0):=by
 unfold sgn3;by_cases h:q=0
 · subst h;rfl
 ·
  have h1:q.num≠0:=fun hc=>h (Rat.num_eq_zero.1 hc)
  by_cases h2:q.num<0
  · simp[h,h2]
  · simp[h,h1,h2]
theorem Qc6(x:Rat):0≤x*x:=by
 rcases Rat.le_total (a:=0) (b:=x) with h|h
 · exact Rat.mul_nonneg h h
 ·
  have h1:0≤ -x:=by
   have:=Rat.neg_le_neg h
   simpa using this
  have h2:=Rat.mul_nonneg h1 h1
  rwa [Rat.neg_mul,Rat.mul_neg,Rat.neg_neg] at h2
theorem Qn2(x y:Rat)(h:x*x+y*y≠0):0<(x*x+y*y).num:=by
 have h1:0≤x*x+y*y:=Rat.add_nonneg (Qc6 x) (Qc6 y);have h2:=Rat.num_nonneg.2 h1;have h3:(x*x+y*y).num≠0:=fun hc=>h (Rat.num_eq_zero.1 hc)
 omega
theorem SB.other{w:World}{b g:Nat}{t:TypeId}{C:Array Value}(h:SB w b t C)(hne:b≠g)(i:Nat)(v:Value):SB (w.setCell ⟨g,i,none⟩ v) b t C:=by
 unfold SB at h ⊢;rw[Below.heap_setCell _ _ _ _ hne];exact h
theorem Row.only32{w w':World}{a:Option Addr}{cap:Nat}{l:List Nat}{c:Nat}(h:Row .u32 w a cap l)(ho:Only c w w')(hn:∀(i:Nat) (n:Int),w.cell? ⟨c,i,none⟩≠some (.int .u32 n)):Row .u32 w' a cap l:=by
 refine⟨h.fit,?_,fun i hi=>?_⟩
 ·
  rcases h.shape with h1|⟨b',off,rfl,h2⟩
  · exact .inl h1
  · exact .inr ⟨b',off,rfl,by have:=ho.size;omega⟩
 ·
  obtain⟨b',off,h1,h2,h3⟩:=h.cell i hi;have hne:b'≠c:=by
   rintro rfl;exact hn _ _ h3
  exact⟨b',off,h1,by have:=ho.size;omega,(World.cell?_of_block (w:=w) (ho.block b' h2 hne)).trans h3⟩
theorem RatVal.only32{w w':World}{b c:Nat}{q:Rat}{t:TypeId}{C:Array Value}(h:RatVal w b q)(ho:Only c w w')(hs:SB w c t C)(ht:t≠98)(hn:∀(i:Nat) (n:Int),C[i]?≠some (.int .u32 n)):RatVal w' b q:=by
 obtain⟨D,a1,c1,l1,a2,c2,l2,h,hd⟩:=h;have hne:b≠c:=by
  rintro rfl;have h1:=h.sb;unfold SB at h1 hs;rw[hs] at h1;injection h1 with h1
  injection h1 with _ h2 _
  exact ht h2
 have hn':∀(i:Nat) (n:Int),w.cell? ⟨c,i,none⟩≠some (.int .u32 n):=fun i n=>by rw[hs.cell];exact hn i n
 exact⟨D,a1,c1,l1,a2,c2,l2,⟨h.sb.only ho hne,⟨h.num.row.only32 ho hn',h.num.num,h.num.short⟩,⟨h.den.row.only32 ho hn',h.den.num,h.den.short⟩⟩,hd⟩
theorem RBag.setOther{w0 w:World}{L:List (Nat × Rat × Nat)}{c i:Nat}{t:TypeId}{C:Array Value}{v:Value}(h:RBag w0 w L)(hs:SB w c t C)(ht:t≠98)(hn:∀(i:Nat) (n:Int),C[i]?≠some (.int .u32 n))(hc:4≠c):RBag (w.setCell ⟨c,i,none⟩ v) (w.setCell ⟨c,i,none⟩ v) L:=by
 have ho:Only c w (w.setCell ⟨c,i,none⟩ v):=(Only.refl c w).setCell _ _;refine⟨Below.refl _ _,?_,fun u hu=>⟨(h.ts u hu).1.only32 ho hs ht hn,(h.ts u hu).2⟩⟩;obtain⟨m,hm⟩:=h.glob;exact⟨m,(World.cell?_of_block (a:=⟨4,0,none⟩) (ho.block 4 (World.block_lt_of_cell? _ _ hm) hc)).trans hm⟩
theorem Qn3(k:Int)(s1 s2 s3 s4 s5:ByteArray):∀(i:Nat) (n:Int),(#[Value.int IntKind.i64 k,Value.string s1,Value.string s2,Value.string s3,Value.string s4,Value.string s5]:Array Value)[i]?≠some (.int .u32 n):=by
 intro i n
 match i with
 |0=>simp
 |1=>simp
 |2=>simp
 |3=>simp
 |4=>simp
 |5=>simp
 |i+6=>simp
theorem Tryz.sumInfo:(Tryz.prog.info? 34).map (·.size)=some 6:=by kernel_rfl
set_option maxRecDepth 100000 in
set_option maxHeartbeats 4000000 in
theorem Qc7(a:Option Addr)(cap n:Nat)(fs:List F4)(w:World)(hg:∃m,w.cell? ⟨4,0,none⟩=some (.int .i64 m))(hf:FRow w a cap fs)(hl:fs.length≤60)
 (hn:n≤1048576) (hs:∀f,f∈ fs→f.ax.size≤n∧f.ay.size≤n∧f.wx.size≤n∧f.wy.size≤n):
 Calls Tryz.prog 16 #[.slice a fs.length cap] w fun e w'=>(∃kind s1 s2 s3 s4 s5,e=.returned (.agg #[.int .i64 kind,.string s1,.string s2,.string s3,.string s4,.string s5])∧SumText fs kind s1 s2 s3 s4 s5)∧Below w.heap.size w w':=by
 have HF:=Hi hf;have HG:=Hi hg;have HS:=Hi hs;clear hf hg hs;go_enter Tryz.func16,Tryz.ntmps16;go_wp2_with fail;have hal:Below w.heap.size w (w.alloc (Obj.cells #[Value.int IntKind.i64 0,Value.string ⟨#[]⟩,Value.string ⟨#[]⟩,Value.string ⟨#[]⟩,Value.string ⟨#[]⟩,Value.string ⟨#[]⟩] 34)):=(Below.refl _ _).alloc (Nat.le_refl _) _;have hg1:∃m,(w.alloc (Obj.cells #[Value.int IntKind.i64 0,Value.string ⟨#[]⟩,Value.string ⟨#[]⟩,Value.string ⟨#[]⟩,Value.string ⟨#[]⟩,Value.string ⟨#[]⟩] 34)).cell? ⟨4,0,none⟩=some (.int .i64 m):=by
  obtain⟨m,hm⟩:=HG.out;exact⟨m,(hal.cell (p:=⟨4,0,none⟩) (World.block_lt_of_cell? _ _ hm)).trans hm⟩
 refine(Qek a cap n fs _ _ 0 0 _ hg1 (HF.out.below hal) hl hn HS.out (Nat.zero_le _) (Nat.zero_le _) QOf.empty QOf.empty).mono ?_;rintro e w1 ⟨b1,b2,b3,x,y,t,rfl,hsum,hbag⟩;have HSU:=Hi hsum;have HR:=Hi hbag;have HAL:=Hi hal;have hKB:60*(25*n+20)+1≤60*26214420+1:=by omega
 clear hal hg1 hsum hbag;obtain⟨KC,hKC⟩:∃KC,60*(25*n+20)+1=KC:=⟨_,rfl⟩;rw[hKC] at HR hKB;clear hKC;go_wp2_with (first
  |(
   go_at_call_of 15 (Value.pointer (some ⟨b1,0,none⟩));apply Calls.mono;apply RBag.text;(focus(first|exact HR.out|exact HR.out.drew|exact HR.out.alloc _));(focus(repeat(first|exact List.Mem.head _|apply List.Mem.tail)));omega;rintro e wn ⟨⟨s1,rfl,hs1⟩,hbag⟩;have HS1:=Hi hs1;clear HR hs1;have HR:=Hi hbag
   clear hbag)
  |(
   go_at_call_of 15 (Value.pointer (some ⟨b2,0,none⟩));apply Calls.mono;apply RBag.text;(focus(first|exact HR.out|exact HR.out.drew|exact HR.out.alloc _));(focus(repeat(first|exact List.Mem.head _|apply List.Mem.tail)));omega;rintro e wn ⟨⟨s2,rfl,hs2⟩,hbag⟩;have HS2:=Hi hs2;clear HR hs2;have HR:=Hi hbag
   clear hbag)
  |(
   go_at_call_of 15 (Value.pointer (some ⟨b3,0,none⟩));apply Calls.mono;apply RBag.text;(focus(first|exact HR.out|exact HR.out.drew|exact HR.out.alloc _));(focus(repeat(first|exact List.Mem.head _|apply List.Mem.tail)));omega;rintro e wn ⟨⟨s3,rfl,hs3⟩,hbag⟩;have HS3:=Hi hs3;clear HR hs3;have HR:=Hi hbag
   clear hbag))
 have hsb0:=SB.new wn 34 #[Value.int IntKind.i64 0,Value.string s1,Value.string s2,Value.string s3,Value.string ⟨#[48]⟩,Value.string ⟨#[48]⟩];have hbS:Below wn.heap.size wn (wn.alloc (Obj.cells #[Value.int IntKind.i64 0,Value.string s1,Value.string s2,Value.string s3,Value.string ⟨#[48]⟩,Value.string ⟨#[48]⟩] 34)):=(Below.refl _ _).alloc (Nat.le_refl _) _;have hsz:w.heap.size<wn.heap.size:=by have:=HR.out.base.size;simp at this;omega
 generalize hwS:wn.alloc _=wS at*;obtain⟨sb,hsb⟩:∃sb,wn.heap.size=sb:=⟨_,rfl⟩;rw[hsb] at hsb0 hsz;rw[hsb];have HBS:=Hi (HR.out.below hbS).base;have HR2:=Hi (HR.out.below hbS).rebase;clear HR;have HR:=HR2;have HSB:=Hi hsb0;have HZB:=Hi ((SB.new w 34 #[Value.int IntKind.i64 0,Value.string ⟨#[]⟩,Value.string ⟨#[]⟩,Value.string ⟨#[]⟩,Value.string ⟨#[]⟩,Value.string ⟨#[]⟩]).below HBS.out (SB.lt (SB.new w _ _)));clear hbS hwS hsb hsb0 HR2;go_wp2_with (first
  |
   (go_at_call 18
    apply Calls.mono;apply RBag.mul (w0:=wS);(focus(first|exact HR.out|exact HR.out.drew|exact HR.out.alloc _));(focus(repeat(first|exact List.Mem.head _|apply List.Mem.tail)));(focus(repeat(first|exact List.Mem.head _|apply List.Mem.tail)));omega;rintro e wn ⟨bq,rfl,hbag⟩;clear HR;have HR:=Hi hbag
    clear hbag)
  |
   (go_at_call 17
    apply Calls.mono;apply RBag.add (w0:=wS);(focus(first|exact HR.out|exact HR.out.drew|exact HR.out.alloc _));(focus(repeat(first|exact List.Mem.head _|apply List.Mem.tail)));(focus(repeat(first|exact List.Mem.head _|apply List.Mem.tail)));omega;rintro e wn ⟨bq,rfl,hbag⟩;clear HR;have HR:=Hi hbag
    clear hbag)
  |fail)
 obtain⟨g,hgg⟩:∃g,sgn3 (x*x+y*y).num=g:=⟨_,rfl⟩;have hg0:=Qhp (x*x+y*y);rw[hgg] at hg0;obtain⟨gt,hgt⟩:∃gt,sgn3 t.num=gt:=⟨_,rfl⟩;have hg1:=Qhp t;rw[hgt] at hg1;have HK:=Hi (HR.out.ts _ (List.Mem.head _)).1;have HKT:=Hi (HR.out.ts _ (List.Mem.tail _ (List.Mem.tail _ (List.Mem.tail _ (List.Mem.tail _ (List.Mem.tail _ (List.Mem.head _))))))).1;by_cases hN:x*x+y*y=0
 ·
  have q0:(g == 0)=true:=by rw[hg0];simpa using hN
  by_cases hT:t=0
  ·
   have q1:(gt == 0)=true:=by rw[hg1];simpa using hT
   clear hg0 hg1;have hs6:=HSB.out.below HR.out.base HSB.out.lt;have hz6:=HZB.out.below HR.out.base HZB.out.lt;have k0:=hs6.cell 0;have k1:=hs6.cell 1;have k2:=hs6.cell 2;have k3:=hs6.cell 3;have k4:=hs6.cell 4;have k5:=hs6.cell 5;have z0:=hz6.cell 0;have z1:=hz6.cell 1;have z2:=hz6.cell 2;have z3:=hz6.cell 3;have z4:=hz6.cell 4;have z5:=hz6.cell 5;simp at k0 k1 k2 k3 k4 k5 z0 z1 z2 z3 z4 z5;have kf0:=hs6.free 0;have kf4:=hs6.free 4;have kf5:=hs6.free 5;have zf0:=hz6.free 0;have zf1:=hz6.free 1;have zf2:=hz6.free 2;have zf3:=hz6.free 3;have zf4:=hz6.free 4;have zf5:=hz6.free 5;have hne:sb≠w.heap.size:=by omega
   have hne':w.heap.size≠sb:=by omega
   have HS6:=Hi hs6;have HZ6:=Hi hz6;clear hs6 hz6;go_wp2_with (first
    |(
     go_at_call_of 20 (Value.pointer (some ⟨bq,0,none⟩));refine(Qbt bq _ _ HK.out).mono ?_;rw[hgg];rintro e W ⟨rfl,hW⟩
     subst hW)
    |(
     go_at_call_of 20 (Value.pointer (some ⟨b3,0,none⟩));refine(Qbt b3 _ _ HKT.out).mono ?_;rw[hgt];rintro e W ⟨rfl,hW⟩
     subst hW))
   have hx:=HAL.out.trans (HBS.out.mono (Nat.le_of_lt (by simp)));have hy:=hx.trans (HR.out.base.mono (Nat.le_trans hx.size (Nat.le_refl _)));have hw2:w.heap.size≤sb:=by omega
   refine bodyPost_ret (v:=.agg #[.int .i64 1,.string s1,.string s2,.string s3,.string ⟨#[48]⟩,.string ⟨#[48]⟩]) (results_cell_row rfl _ _ w.heap.size 34 #[.int .i64 1,.string s1,.string s2,.string s3,.string ⟨#[48]⟩,.string ⟨#[48]⟩] (0,0) _ rfl (((((((HZ6.out.other hne' 0 (.int .i64 1)).set 0 _).set 1 _).set 2 _).set 3 _).set 4 _).set 5 _) Tryz.underlying34 rfl Tryz.sumInfo) rfl ?_;exact⟨⟨_,_,_,_,_,_,rfl,x,y,t,HSU.out,HS1.out,HS2.out,HS3.out,.inl ⟨hN,.inl ⟨hT,rfl⟩,rfl,rfl⟩⟩,((((((hy.setCell hw2 _).setCell (Nat.le_refl _) _).setCell (Nat.le_refl _) _).setCell (Nat.le_refl _) _).setCell (Nat.le_refl _) _).setCell (Nat.le_refl _) _).setCell (Nat.le_refl _) _⟩
  ·
   have q1:(gt == 0)=false:=by rw[hg1];simpa using hT
   clear hg0 hg1;have hs6:=HSB.out.below HR.out.base HSB.out.lt;have hz6:=HZB.out.below HR.out.base HZB.out.lt;have k0:=hs6.cell 0;have k1:=hs6.cell 1;have k2:=hs6.cell 2;have k3:=hs6.cell 3;have k4:=hs6.cell 4;have k5:=hs6.cell 5;have z0:=hz6.cell 0;have z1:=hz6.cell 1;have z2:=hz6.cell 2;have z3:=hz6.cell 3;have z4:=hz6.cell 4;have z5:=hz6.cell 5;simp at k0 k1 k2 k3 k4 k5 z0 z1 z2 z3 z4 z5;have kf0:=hs6.free 0;have kf4:=hs6.free 4;have kf5:=hs6.free 5;have zf0:=hz6.free 0;have zf1:=hz6.free 1;have zf2:=hz6.free 2;have zf3:=hz6.free 3;have zf4:=hz6.free 4;have zf5:=hz6.free 5;have hne:sb≠w.heap.size:=by omega
   have hne':w.heap.size≠sb:=by omega
   have HS6:=Hi hs6;have HZ6:=Hi hz6;clear hs6 hz6;go_wp2_with (first
    |(
     go_at_call_of 20 (Value.pointer (some ⟨bq,0,none⟩));refine(Qbt bq _ _ HK.out).mono ?_;rw[hgg];rintro e W ⟨rfl,hW⟩
     subst hW)
    |(
     go_at_call_of 20 (Value.pointer (some ⟨b3,0,none⟩));refine(Qbt b3 _ _ HKT.out).mono ?_;rw[hgt];rintro e W ⟨rfl,hW⟩
     subst hW))
   have hx:=HAL.out.trans (HBS.out.mono (Nat.le_of_lt (by simp)));have hy:=hx.trans (HR.out.base.mono (Nat.le_trans hx.size (Nat.le_refl _)));have hw2:w.heap.size≤sb:=by omega
   refine bodyPost_ret (v:=.agg #[.int .i64 2,.string s1,.string s2,.string s3,.string ⟨#[48]⟩,.string ⟨#[48]⟩]) (results_cell_row rfl _ _ w.heap.size 34 #[.int .i64 2,.string s1,.string s2,.string s3,.string ⟨#[48]⟩,.string ⟨#[48]⟩] (0,0) _ rfl (((((((HZ6.out.other hne' 0 (.int .i64 2)).set 0 _).set 1 _).set 2 _).set 3 _).set 4 _).set 5 _) Tryz.underlying34 rfl Tryz.sumInfo) rfl ?_;exact⟨⟨_,_,_,_,_,_,rfl,x,y,t,HSU.out,HS1.out,HS2.out,HS3.out,.inl ⟨hN,.inr ⟨hT,rfl⟩,rfl,rfl⟩⟩,((((((hy.setCell hw2 _).setCell (Nat.le_refl _) _).setCell (Nat.le_refl _) _).setCell (Nat.le_refl _) _).setCell (Nat.le_refl _) _).setCell (Nat.le_refl _) _).setCell (Nat.le_refl _) _⟩
 ·
  have q0:(g == 0)=false:=by rw[hg0];simpa using hN
  clear hg0 hg1;have HNP:=Hi (Qn2 x y hN);have h1sb:4≠sb:=by
   obtain⟨m,hm⟩:=HG.out;have h1:4<w.heap.size:=World.block_lt_of_cell? _ _ hm;omega
  have hs6:=HSB.out.below HR.out.base HSB.out.lt;have hz6:=HZB.out.below HR.out.base HZB.out.lt;have k0:=hs6.cell 0;have k1:=hs6.cell 1;have k2:=hs6.cell 2;have k3:=hs6.cell 3;have k4:=hs6.cell 4;have k5:=hs6.cell 5;have z0:=hz6.cell 0;have z1:=hz6.cell 1;have z2:=hz6.cell 2;have z3:=hz6.cell 3;have z4:=hz6.cell 4;have z5:=hz6.cell 5;simp at k0 k1 k2 k3 k4 k5 z0 z1 z2 z3 z4 z5;have kf0:=hs6.free 0;have kf4:=hs6.free 4;have kf5:=hs6.free 5;have zf0:=hz6.free 0;have zf1:=hz6.free 1;have zf2:=hz6.free 2;have zf3:=hz6.free 3;have zf4:=hz6.free 4;have zf5:=hz6.free 5;have hne:sb≠w.heap.size:=by omega
  have hne':w.heap.size≠sb:=by omega
  have HS6:=Hi hs6;have HZ6:=Hi hz6;clear hs6 hz6;go_wp2_with (first
   |(
    go_at_call_of 20 (Value.pointer (some ⟨bq,0,none⟩));refine(Qbt bq _ _ HK.out).mono ?_;rw[hgg];rintro e W ⟨rfl,hW⟩
    subst hW)
   |(
    go_at_call_of 20 (Value.pointer (some ⟨b3,0,none⟩));refine(Qbt b3 _ _ HKT.out).mono ?_;rw[hgt];rintro e W ⟨rfl,hW⟩
    subst hW))
  have HR3:=Hi (HR.out.setOther (i:=0) (v:=.int .i64 3) HS6.out (by decide) (Qn3 _ _ _ _ _ _) h1sb);have HS7:Hid (SB (W.setCell ⟨sb,0,none⟩ (.int .i64 3)) sb 34 #[.int .i64 3,.string s1,.string s2,.string s3,.string ⟨#[48]⟩,.string ⟨#[48]⟩]):=Hi (HS6.out.set 0 (.int .i64 3));have HZ7:=Hi (HZ6.out.other hne' 0 (.int .i64 3));have hx:=HAL.out.trans (HBS.out.mono (Nat.le_of_lt (by simp)));have hy:=hx.trans (HR.out.base.mono (Nat.le_trans hx.size (Nat.le_refl _)));have hw2:w.heap.size≤sb:=by omega
  have HY7:=Hi (hy.setCell (p:=⟨sb,0,none⟩) hw2 (.int .i64 3));generalize hW3:W.setCell _ _=W3 at*;clear k0 k1 k2 k3 k4 k5 z0 z1 z2 z3 z4 z5 kf0 kf4 kf5 zf0 zf1 zf2 zf3 zf4 zf5 HS6 HZ6 HR hy hx hW3;have HR:=HR3;clear HR3;go_wp2_with (first
   |
    (go_at_call 18
     apply Calls.mono;apply RBag.mul (w0:=W3);(focus(first|exact HR.out|exact HR.out.drew|exact HR.out.alloc _));(focus(repeat(first|exact List.Mem.head _|apply List.Mem.tail)));(focus(repeat(first|exact List.Mem.head _|apply List.Mem.tail)));omega;rintro e wn ⟨bq,rfl,hbag⟩;clear HR;have HR:=Hi hbag
     clear hbag)
   |
    (go_at_call 46
     apply Calls.mono;apply RBag.quo (w0:=W3);(focus(first|exact HR.out|exact HR.out.drew|exact HR.out.alloc _));(focus(repeat(first|exact List.Mem.head _|apply List.Mem.tail)));(focus(repeat(first|exact List.Mem.head _|apply List.Mem.tail)));omega;exact HNP.out;rintro e wn ⟨bq,rfl,hbag⟩;clear HR;have HR:=Hi hbag
     clear hbag)
   |fail)
  apply Calls.mono;apply RBag.text;(focus(first|exact HR.out|exact HR.out.drew|exact HR.out.alloc _));(focus(repeat(first|exact List.Mem.head _|apply List.Mem.tail)));omega;rintro e wn ⟨⟨s4,rfl,hst⟩,hbag⟩;have HS4:=Hi hst;clear HR hst;have HR:=Hi hbag;clear hbag;go_wp2_with (first
   |
    (go_at_call 18
     apply Calls.mono;apply RBag.mul (w0:=W3);(focus(first|exact HR.out|exact HR.out.drew|exact HR.out.alloc _));(focus(repeat(first|exact List.Mem.head _|apply List.Mem.tail)));(focus(repeat(first|exact List.Mem.head _|apply List.Mem.tail)));omega;rintro e wn ⟨bq,rfl,hbag⟩;clear HR;have HR:=Hi hbag
     clear hbag)
   |
    (go_at_call 46
     apply Calls.mono;apply RBag.quo (w0:=W3);(focus(first|exact HR.out|exact HR.out.drew|exact HR.out.alloc _));(focus(repeat(first|exact List.Mem.head _|apply List.Mem.tail)));(focus(repeat(first|exact List.Mem.head _|apply List.Mem.tail)));omega;exact HNP.out;rintro e wn ⟨bq,rfl,hbag⟩;clear HR;have HR:=Hi hbag
     clear hbag)
   |(
    go_at_call 47;apply Calls.mono;apply RBag.neg (w0:=W3);(focus(first|exact HR.out|exact HR.out.drew|exact HR.out.alloc _));(focus(repeat(first|exact List.Mem.head _|apply List.Mem.tail)));omega;rintro e wn ⟨bq,rfl,hbag⟩;clear HR;have HR:=Hi hbag
    clear hbag)
   |fail)
  apply Calls.mono;apply RBag.text;(focus(first|exact HR.out|exact HR.out.drew|exact HR.out.alloc _));(focus(repeat(first|exact List.Mem.head _|apply List.Mem.tail)));omega;rintro e wn ⟨⟨s5,rfl,hst⟩,hbag⟩;have HS5:=Hi hst;clear HR hst;have HR:=Hi hbag;clear hbag;clear HSB HZB;have HSB:=HS7;have HZB:=HZ7;have hs6:=HSB.out.below HR.out.base HSB.out.lt;have hz6:=HZB.out.below HR.out.base HZB.out.lt;have k0:=hs6.cell 0;have k1:=hs6.cell 1;have k2:=hs6.cell 2;have k3:=hs6.cell 3;have k4:=hs6.cell 4;have k5:=hs6.cell 5;have z0:=hz6.cell 0;have z1:=hz6.cell 1;have z2:=hz6.cell 2;have z3:=hz6.cell 3;have z4:=hz6.cell 4;have z5:=hz6.cell 5;simp at k0 k1 k2 k3 k4 k5 z0 z1 z2 z3 z4 z5;have kf0:=hs6.free 0;have kf4:=hs6.free 4;have kf5:=hs6.free 5;have zf0:=hz6.free 0;have zf1:=hz6.free 1;have zf2:=hz6.free 2;have zf3:=hz6.free 3;have zf4:=hz6.free 4;have zf5:=hz6.free 5
  have hne:sb≠w.heap.size:=by omega
  have hne':w.heap.size≠sb:=by omega
  have HS6:=Hi hs6;have HZ6:=Hi hz6;clear hs6 hz6;go_wp2;have hy:=HY7.out.trans (HR.out.base.mono HY7.out.size);refine bodyPost_ret (v:=.agg #[.int .i64 3,.string s1,.string s2,.string s3,.string s4,.string s5]) (results_cell_row rfl _ _ w.heap.size 34 #[.int .i64 3,.string s1,.string s2,.string s3,.string s4,.string s5] (0,0) _ rfl ((((((((HZ6.out.other hne' 4 (.string s4)).other hne' 5 (.string s5)).set 0 _).set 1 _).set 2 _).set 3 _).set 4 _).set 5 _) Tryz.underlying34 rfl Tryz.sumInfo) rfl ?_;exact⟨⟨_,_,_,_,_,_,rfl,x,y,t,HSU.out,HS1.out,HS2.out,HS3.out,.inr ⟨hN,rfl,HS4.out,HS5.out⟩⟩,(((((((hy.setCell hw2 _).setCell hw2 _).setCell (Nat.le_refl _) _).setCell (Nat.le_refl _) _).setCell (Nat.le_refl _) _).setCell (Nat.le_refl _) _).setCell (Nat.le_refl _) _).setCell (Nat.le_refl _) _⟩
end Go.Proofs.YtbbkamnfjejceaaGreatDoor
