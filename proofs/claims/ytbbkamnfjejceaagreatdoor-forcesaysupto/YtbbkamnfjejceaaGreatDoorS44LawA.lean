/- rafterlaw's closed fact: a couple. -/
import Derived.Test.YtbbkamnfjejceaaGreatDoorS43ForceG
namespace Go.Proofs.YtbbkamnfjejceaaGreatDoor
open Go.RowKit
set_option linter.unusedVariables false
set_option linter.unusedSimpArgs false
def AlikeAns(w:World)(fs gs:List F4)(e:Ending)(w':World):Prop:=∃(x y t x' y' t':Rat),Sums 0 0 fs x y t∧Sums 0 0 gs x' y' t'∧e=.returned (.tuple #[.bool (decide (x=x'∧y=y'∧t=t')),.int .i64 0])∧Below w.heap.size w w'
set_option maxRecDepth 100000 in
set_option maxHeartbeats 2000000 in
theorem Qjq(a b:Option Addr)(cap cap2 W V:Nat)(fs gs:List F4)(w:World)(hg:Glob w)(hf:FRow w a cap fs)(hf2:FRow w b cap2 gs)(hl:fs.length≤60)(hl2:gs.length≤60)
 (hW:wt 0 fs≤W) (hWW:W<60000000000) (hV:wt 0 gs≤V) (hVV:V<60000000000) (hs:∀f,f∈ fs→sz f≤1073741824) (hs2:∀f,f∈ gs→sz f≤1073741824):
 Calls Tryz.prog 11 #[.slice a fs.length cap,.slice b gs.length cap2] w (AlikeAns w fs gs):=by
 have q1:¬((60:Int)<(fs.length:Int)):=by omega
 have q2:¬((60:Int)<(gs.length:Int)):=by omega
 have HTA:=Hi (Qcq a cap 0 W fs _ _ _ _ _ _ 0 0 w (Qdn 0 hg) hf hl (by decide) hW hWW hs);have HTB:=Hi (fun w' hb=>Qcq b cap2 0 V gs _ _ _ _ _ _ 0 0 w' (Qdn 0 (hg.below hb)) (hf2.below hb) hl2 (by decide) hV hVV hs2);clear hg hf hf2 hs hs2;go_enter Tryz.func11,Tryz.ntmps11;go_wp2_with fail;go_fit HTA.out;rintro e wc ⟨x,y,t,x1,x2,x3,x4,x5,x6,x7,x8,x9,hsum,rfl,hb⟩;have HSU:=Hi hsum;have HTC:=Hi (HTB.out wc hb.base);have HB1:=Hi hb;clear HTA HTB hsum hb;go_wp2_with fail;go_fit HTC.out;rintro e wd ⟨x',y',t',y1,y2,y3,y4,y5,y6,y7,y8,y9,hsum,rfl,hb⟩;have HSV:=Hi hsum;have HB2:=Hi hb;clear HTC hsum hb;have g1:=HB1.out.below HB2.out.base;obtain⟨gT,hgT⟩:∃gT,wd.heap.size=gT:=⟨_,rfl⟩;obtain⟨wE,hwE⟩:∃wE,(wd.alloc (.cells #[x1,x2,x3,x4,x5,x6,x7,x8,x9] 81)).alloc (.cells #[y1,y2,y3,y4,y5,y6,y7,y8,y9] 81)=wE:=⟨_,rfl⟩;have hbE:Below wd.heap.size wd wE:=by rw[←hwE];exact Below.new2 wd _ _
 have hT:SB wE gT 81 #[x1,x2,x3,x4,x5,x6,x7,x8,x9]:=by rw[←hwE,←hgT];exact(SB.new wd _ _).alloc _
 have hU:SB wE (gT+1) 81 #[y1,y2,y3,y4,y5,y6,y7,y8,y9]:=by rw[←hwE,←hgT];exact SB.new2 wd _ _ _ _
 obtain⟨K,hKK⟩:∃K,wt 0 fs+1=K:=⟨_,rfl⟩;obtain⟨K2,hKK2⟩:∃K,wt 0 gs+1=K:=⟨_,rfl⟩;have hR:FBag wd wd [⟨x1,x2,x3,x,K⟩,⟨x4,x5,x6,y,K⟩,⟨x7,x8,x9,t,K⟩,⟨y1,y2,y3,x',K2⟩,⟨y4,y5,y6,y',K2⟩,⟨y7,y8,y9,t',K2⟩]:=by
  have h2:=HB2.out.rebase;rw[hKK] at g1;rw[hKK2] at h2;refine⟨Below.refl _ _,h2.glob,fun u hu=>?_⟩;simp only[List.mem_cons,List.not_mem_nil,or_false] at hu;rcases hu with rfl|rfl|rfl|rfl|rfl|rfl
  · exact g1.ts _ (List.Mem.head _)
  · exact g1.ts _ (List.Mem.tail _ (List.Mem.head _))
  · exact g1.ts _ (List.Mem.tail _ (List.Mem.tail _ (List.Mem.head _)))
  · exact h2.ts _ (List.Mem.head _)
  · exact h2.ts _ (List.Mem.tail _ (List.Mem.head _))
  · exact h2.ts _ (List.Mem.tail _ (List.Mem.tail _ (List.Mem.head _)))
 have HR:=Hi (hR.below hbE).rebase;have HT:=Hi hT;have HU:=Hi hU;have HBE:=Hi ((HB1.out.base.trans (HB2.out.base.mono HB1.out.base.size)).trans (hbE.mono (Nat.le_trans HB1.out.base.size HB2.out.base.size)));have oo:=(g1.ts _ (List.Mem.head _)).1.one;have s1:=Qaa Tryz.prog oo.1;have s2:=Qaa Tryz.prog oo.2.1;have s3:=Qaa Tryz.prog oo.2.2;clear oo;have oo:=(g1.ts _ (List.Mem.tail _ (List.Mem.head _))).1.one;have s4:=Qaa Tryz.prog oo.1;have s5:=Qaa Tryz.prog oo.2.1;have s6:=Qaa Tryz.prog oo.2.2;clear oo;have oo:=(g1.ts _ (List.Mem.tail _ (List.Mem.tail _ (List.Mem.head _)))).1.one;have s7:=Qaa Tryz.prog oo.1;have s8:=Qaa Tryz.prog oo.2.1;have s9:=Qaa Tryz.prog oo.2.2;clear oo;have oo:=(HB2.out.ts _ (List.Mem.head _)).1.one;have r1:=Qaa Tryz.prog oo.1;have r2:=Qaa Tryz.prog oo.2.1;have r3:=Qaa Tryz.prog oo.2.2;clear oo;have oo:=(HB2.out.ts _ (List.Mem.tail _ (List.Mem.head _))).1.one
 have r4:=Qaa Tryz.prog oo.1;have r5:=Qaa Tryz.prog oo.2.1;have r6:=Qaa Tryz.prog oo.2.2;clear oo;have oo:=(HB2.out.ts _ (List.Mem.tail _ (List.Mem.tail _ (List.Mem.head _)))).1.one;have r7:=Qaa Tryz.prog oo.1;have r8:=Qaa Tryz.prog oo.2.1;have r9:=Qaa Tryz.prog oo.2.2;clear oo;have HGT:=Hi hgT;have HWE:=Hi hwE;clear hbE hT hU hgT hwE hR g1 HB1 HB2 hKK hKK2;go_wp2_with fail;rw[show (wd.alloc (.cells #[x1,x2,x3,x4,x5,x6,x7,x8,x9] 81)).alloc (.cells #[y1,y2,y3,y4,y5,y6,y7,y8,y9] 81)=wE from HWE.out];have hgT:=HGT.out;subst hgT;clear HGT HWE;by_cases hz:x=x'∧y=y'
 ·
  apply Calls.mono;apply FBag.vequal (w0:=wE) HR.out;(focus(repeat(first|exact List.Mem.head _|apply List.Mem.tail)));(focus(repeat(first|exact List.Mem.head _|apply List.Mem.tail)));(focus(repeat(first|exact List.Mem.head _|apply List.Mem.tail)));(focus(repeat(first|exact List.Mem.head _|apply List.Mem.tail)));rw[decide_eq_true hz];rintro e wn ⟨rfl,hb⟩;clear HR;have HR:=Hi hb;clear hb;have hT:=HT.out.below HR.out.base HT.out.lt;have hT_6:_=some (x7):=hT.cell 6;have hT_7:_=some (x8):=hT.cell 7;have hT_8:_=some (x9):=hT.cell 8;clear hT;have hU:=HU.out.below HR.out.base HU.out.lt;have hU_6:_=some (y7):=hU.cell 6;have hU_7:_=some (y8):=hU.cell 7;have hU_8:_=some (y9):=hU.cell 8;clear hU;go_wp2_with fail;apply Calls.mono;apply FBag.equal (w0:=wE) HR.out;(focus(repeat(first|exact List.Mem.head _|apply List.Mem.tail)));(focus(repeat(first|exact List.Mem.head _|apply List.Mem.tail)))
  rintro e wm ⟨rfl,hb⟩;clear HR;have HR:=Hi hb;clear hb;go_wp2;go_ret2;refine⟨x,y,t,x',y',t',HSU.out,HSV.out,?_,HBE.out.trans (HR.out.base.mono HBE.out.size)⟩;by_cases ht:t=t'
  · rw[decide_eq_true ht,decide_eq_true (show x=x'∧y=y'∧t=t' from ⟨hz.1,hz.2,ht⟩)];rfl
  · rw[decide_eq_false ht,decide_eq_false (show ¬(x=x'∧y=y'∧t=t') from fun h=>ht h.2.2)];rfl
 ·
  apply Calls.mono;apply FBag.vequal (w0:=wE) HR.out;(focus(repeat(first|exact List.Mem.head _|apply List.Mem.tail)));(focus(repeat(first|exact List.Mem.head _|apply List.Mem.tail)));(focus(repeat(first|exact List.Mem.head _|apply List.Mem.tail)));(focus(repeat(first|exact List.Mem.head _|apply List.Mem.tail)));rw[decide_eq_false hz];rintro e wn ⟨rfl,hb⟩;clear HR;have HR:=Hi hb;clear hb;go_wp2;go_ret2;refine⟨x,y,t,x',y',t',HSU.out,HSV.out,?_,HBE.out.trans (HR.out.base.mono HBE.out.size)⟩;rw[decide_eq_false (show ¬(x=x'∧y=y'∧t=t') from fun h=>hz ⟨h.1,h.2.1⟩)];rfl
set_option maxRecDepth 100000 in
set_option maxHeartbeats 1000000 in
theorem Qjr(a:Option Addr)(cap l:Nat)(sx sy:ByteArray)(w:World)(hl:60<l):
 Calls Tryz.prog 9 #[.slice a l cap,.agg #[.string sx,.string sy]] w fun e w'=>e=.returned (.tuple #[.agg #[.string ⟨#[]⟩,.string ⟨#[]⟩],.string ⟨#[]⟩,.int .i64 2])∧Below w.heap.size w w':=by
 have hl':((60:Int)<(l:Int)):=by omega
 have HB:=Hi (Below.new2 w (.cells #[.string sx,.string sy] 25) (.cells #[.string ⟨#[]⟩,.string ⟨#[]⟩] 25));have HS:=Hi (SB.new2 w 25 25 #[.string sx,.string sy] #[.string ⟨#[]⟩,.string ⟨#[]⟩]);go_enter Tryz.func9,Tryz.ntmps9;go_wp2;refine bodyPost_ret (Qff rfl _ _ (w.heap.size+1) 25 #[.string ⟨#[]⟩,.string ⟨#[]⟩] (0,0) _ rfl HS.out Tryz.underlying25 rfl Tryz.spotInfo) rfl ?_;exact⟨rfl,HB.out⟩
set_option maxRecDepth 100000 in
set_option maxHeartbeats 1000000 in
theorem Qjs(a:Option Addr)(cap l:Nat)(w:World)(hl:60<l):
 Calls Tryz.prog 10 #[.slice a l cap] w fun e w'=>e=.returned (.tuple #[.agg #[.int .i64 0,.string ⟨#[]⟩,.string ⟨#[]⟩,.string ⟨#[]⟩,.string ⟨#[]⟩,.string ⟨#[]⟩],.int .i64 2])∧Below w.heap.size w w':=by
 have hl':((60:Int)<(l:Int)):=by omega
 have HB:=Hi ((Below.refl w.heap.size w).alloc (Nat.le_refl _) (.cells #[.int .i64 0,.string ⟨#[]⟩,.string ⟨#[]⟩,.string ⟨#[]⟩,.string ⟨#[]⟩,.string ⟨#[]⟩] 34));have HS:=Hi (SB.new w 34 #[.int .i64 0,.string ⟨#[]⟩,.string ⟨#[]⟩,.string ⟨#[]⟩,.string ⟨#[]⟩,.string ⟨#[]⟩]);go_enter Tryz.func10,Tryz.ntmps10;go_wp2;refine bodyPost_ret (Qfe rfl _ _ w.heap.size 34 #[.int .i64 0,.string ⟨#[]⟩,.string ⟨#[]⟩,.string ⟨#[]⟩,.string ⟨#[]⟩,.string ⟨#[]⟩] (0,0) _ rfl HS.out Tryz.underlying34 rfl Tryz.sumInfo) rfl ?_;exact⟨rfl,HB.out⟩
set_option maxRecDepth 100000 in
set_option maxHeartbeats 1000000 in
theorem Qfh(a b:Option Addr)(cap cap2 l m:Nat)(w:World)(hl:60<l∨60<m):
 Calls Tryz.prog 11 #[.slice a l cap,.slice b m cap2] w fun e w'=>e=.returned (.tuple #[.bool false,.int .i64 2])∧w'=w:=by
 by_cases h1:60<l
 ·
  have hl':((60:Int)<(l:Int)):=by omega
  go_enter Tryz.func11,Tryz.ntmps11;go_wp2;go_ret2;exact⟨rfl,rfl⟩
 ·
  have hl':¬((60:Int)<(l:Int)):=by omega
  have hm':((60:Int)<(m:Int)):=by omega
  go_enter Tryz.func11,Tryz.ntmps11;go_wp2;go_ret2;exact⟨rfl,rfl⟩
set_option maxRecDepth 100000 in
theorem Qbz(s t:ByteArray)(w:World):Calls Tryz.prog 14 #[.string s,.string t] w fun e w'=>e=.returned (.agg #[.string s,.string t])∧Below w.heap.size w w':=by
 have HB:=Hi ((Below.refl w.heap.size w).alloc (Nat.le_refl _) (.cells #[.string s,.string t] 25));go_enter Tryz.func14,Tryz.ntmps14;go_wp2;refine bodyPost_ret (results_cell_row rfl _ _ w.heap.size 25 #[.string s,.string t] (0,0) _ rfl (SB.new w _ _) Tryz.underlying25 rfl Tryz.spotInfo) rfl ?_;exact⟨rfl,HB.out⟩
theorem Sums.inv{ox oy:Rat}{l:List F4}{x y t:Rat}(h:Sums ox oy l x y t):(l= []∧x=0∧y=0∧t=0)∨∃fs f x0 y0 t0 px py wx wy,l=fs++ [f]∧Sums ox oy fs x0 y0 t0∧Q4 f px py wx wy∧x=x0+wx∧y=y0+wy∧t=t0+((px - ox)*wy - (py - oy)*wx):=by
 refine Sums.ind (P:=fun l x y t=>(l= []∧x=0∧y=0∧t=0)∨∃fs f x0 y0 t0 px py wx wy,l=fs++ [f]∧Sums ox oy fs x0 y0 t0∧Q4 f px py wx wy∧x=x0+wx∧y=y0+wy∧t=t0+((px - ox)*wy - (py - oy)*wx)) h (.inl ⟨rfl,rfl,rfl,rfl⟩) ?_;intro fs x y t px py wx wy f h1 h2 _;exact .inr ⟨_,_,_,_,_,_,_,_,_,rfl,h1,h2,rfl,rfl,rfl⟩
theorem Q4.inj{f:F4}{a b c d a' b' c' d':Rat}(h:Q4 f a b c d)(k:Q4 f a' b' c' d'):a=a'∧b=b'∧c=c'∧d=d':=⟨h.ax.inj k.ax,h.ay.inj k.ay,h.wx.inj k.wx,h.wy.inj k.wy⟩
theorem Sums.inj{ox oy:Rat}{l:List F4}{x y t x' y' t':Rat}(h:Sums ox oy l x y t)(k:Sums ox oy l x' y' t'):x=x'∧y=y'∧t=t':=by
 revert x' y' t';refine Sums.ind (P:=fun l x y t=>∀{x' y' t':Rat},Sums ox oy l x' y' t'→x=x'∧y=y'∧t=t') h ?_ ?_
 ·
  intro x' y' t' k;rcases k.inv with ⟨_,rfl,rfl,rfl⟩|⟨fs,f,_,_,_,_,_,_,_,h,_⟩
  · exact⟨rfl,rfl,rfl⟩
  · exact absurd h (by simp)
 ·
  intro fs0 x1 y1 t1 px1 py1 wx1 wy1 f1 h1 h2 ih x' y' t' k;rcases k.inv with ⟨h,_⟩|⟨fs,f,x0,y0,t0,px,py,wx,wy,he,hs,hq,rfl,rfl,rfl⟩
  · exact absurd h (by simp)
  ·
   obtain⟨e1,e2⟩:=List.append_inj' he rfl;obtain rfl:_=f:=by simpa using e2
   subst e1;obtain⟨rfl,rfl,rfl⟩:=ih hs;obtain⟨rfl,rfl,rfl,rfl⟩:=h2.inj hq;exact⟨rfl,rfl,rfl⟩
theorem qof_1:QOf [49] 1:=⟨1,.inl ⟨⟨⟨by decide,fun c hc=>by simp[show (Lib.cut (Lib.trimPrefix [49] [45]) [47]).1= [49] by decide] at hc;subst hc;decide⟩,fun h=>absurd h (by decide)⟩,by decide⟩,by decide⟩
theorem qof_0:QOf [48] 0:=⟨0,.inl ⟨⟨⟨by decide,fun c hc=>by simp[show (Lib.cut (Lib.trimPrefix [48] [45]) [47]).1= [48] by decide] at hc;subst hc;decide⟩,fun h=>absurd h (by decide)⟩,by decide⟩,by decide⟩
theorem Qk7:QOf [45,49] (-1):=⟨1,.inl ⟨⟨⟨by decide,fun c hc=>by simp[show (Lib.cut (Lib.trimPrefix [45,49] [45]) [47]).1= [49] by decide] at hc;subst hc;decide⟩,fun h=>absurd h (by decide)⟩,by decide⟩,by decide⟩
theorem Qb5:QText [48] 0:=⟨[48],⟨[48],.inl ⟨rfl,rfl⟩,rfl⟩,.inl ⟨rfl,rfl⟩⟩
theorem Qk8:QText [49] 1:=⟨[49],⟨[49],.inr ⟨by decide,[1],⟨fun d hd=>by simp at hd;omega,.inr (by simp),by simp[val]⟩,by decide⟩,rfl⟩,.inl ⟨rfl,rfl⟩⟩
def couple:List F4:=[⟨⟨#[49]⟩,⟨#[48]⟩,⟨#[48]⟩,⟨#[49]⟩⟩,⟨⟨#[]⟩,⟨#[]⟩,⟨#[48]⟩,⟨#[45,49]⟩⟩]
theorem Qk9:Sums 0 0 couple 0 0 1:=by
 have h:=Sums.snoc (Sums.snoc (Sums.nil (ox:=0) (oy:=0)) (f:=⟨⟨#[49]⟩,⟨#[48]⟩,⟨#[48]⟩,⟨#[49]⟩⟩) ⟨qof_1,qof_0,qof_0,qof_1⟩) (f:=⟨⟨#[]⟩,⟨#[]⟩,⟨#[48]⟩,⟨#[45,49]⟩⟩) ⟨QOf.empty,QOf.empty,qof_0,Qk7⟩;have e1:(0:Rat)+0+0=0:=by grind
 have e2:(0:Rat)+1+ -1=0:=by grind
 have e3:(0:Rat)+((1 - 0)*1 - (0 - 0)*0)+((0 - 0)* -1 - (0 - 0)*0)=1:=by grind
 rw[e1,e2,e3] at h;exact h
theorem Qla{w:World}{g:Nat}(h:SB w g 29 #[.string ⟨#[49]⟩,.string ⟨#[48]⟩,.string ⟨#[48]⟩,.string ⟨#[49]⟩,.string ⟨#[]⟩,.string ⟨#[]⟩,.string ⟨#[48]⟩,.string ⟨#[45,49]⟩]):FRow w (some ⟨g,0,none⟩) 2 couple:=by
 refine⟨by decide,fun i f hi=>⟨g,0,rfl,h.lt,?_⟩⟩
 match i with
 |0=>simp[couple] at hi;subst hi;exact⟨h.cell 0,h.cell 1,h.cell 2,h.cell 3⟩
 |1=>simp[couple] at hi;subst hi;exact⟨h.cell 4,h.cell 5,h.cell 6,h.cell 7⟩
 |i+2=>simp[couple] at hi
theorem Qax{s:ByteArray}{l:List UInt8}(h:s.data.toList=l):s=⟨l.toArray⟩:=by
 obtain⟨⟨m⟩⟩:=s;simp at h;subst h;rfl
set_option maxRecDepth 100000 in
set_option maxHeartbeats 1000000 in
theorem Qdy(w:World)(hg:Glob w):Calls Tryz.prog 7 #[] w fun e w'=>e=.returned (.bool true)∧Below w.heap.size w w':=by
 have HG:=Hi hg;clear hg;go_enter Tryz.func7,Tryz.ntmps7;go_wp2_with fail;go_fit (Qbz _ _ _);rintro e w1 ⟨rfl,hb1⟩;go_wp2_with fail;go_fit (Qbz _ _ _);rintro e w2 ⟨rfl,hb2⟩;go_wp2_with fail;go_fit (Qbz _ _ _);rintro e w3 ⟨rfl,hb3⟩;have hb:=(hb1.trans (hb2.mono hb1.size)).trans (hb3.mono (Nat.le_trans hb1.size hb2.size));have HB:=Hi hb;clear hb1 hb2 hb3 hb;obtain⟨wA,hwA⟩:∃wA,w3.alloc (.cells #[.string ⟨#[49]⟩,.string ⟨#[48]⟩,.string ⟨#[48]⟩,.string ⟨#[49]⟩,.string ⟨#[]⟩,.string ⟨#[]⟩,.string ⟨#[48]⟩,.string ⟨#[45,49]⟩] 29)=wA:=⟨_,rfl⟩;have hbA:Below w3.heap.size w3 wA:=by rw[←hwA];exact(Below.refl _ _).alloc (Nat.le_refl _) _
 have hsA:SB wA w3.heap.size 29 #[.string ⟨#[49]⟩,.string ⟨#[48]⟩,.string ⟨#[48]⟩,.string ⟨#[49]⟩,.string ⟨#[]⟩,.string ⟨#[]⟩,.string ⟨#[48]⟩,.string ⟨#[45,49]⟩]:=by rw[←hwA];exact SB.new w3 _ _
 have HBA:=Hi (HB.out.trans (hbA.mono HB.out.size));have HSM:Hid (Calls Tryz.prog 10 #[.slice (some ⟨w3.heap.size,0,none⟩) 2 2] wA (SumAns wA couple)):=Hi (Qdo (some ⟨w3.heap.size,0,none⟩) 2 9000000000 couple wA (HG.out.below HBA.out) (Qla hsA) (by decide) (by decide) (by decide) (by
  intro f hf;simp only[couple,List.mem_cons,List.not_mem_nil,or_false] at hf;rcases hf with rfl|rfl
  · decide
  · decide))
 have HWA:=Hi hwA;clear hbA hsA hwA HB;go_wp2_with fail;rw[HWA.out];go_fit HSM.out;rintro e w4 ⟨x,y,t,s1,s2,s3,s4,s5,hsum,h1,h2,h3,h4,h5,rfl,hb⟩;obtain⟨rfl,rfl,rfl⟩:=hsum.inj Qk9;have ek:kindOf 0 0 1=2:=by simp[kindOf]
 have e4:nearX 0 0 1=0:=by simp[nearX]
 have e5:nearY 0 0 1=0:=by simp[nearY]
 rw[e4] at h4;rw[e5] at h5;obtain rfl:=Qax (h1.inj Qb5);obtain rfl:=Qax (h2.inj Qb5);obtain rfl:=Qax (h3.inj Qk8);obtain rfl:=Qax (h4.inj Qb5);obtain rfl:=Qax (h5.inj Qb5);rw[ek];have HB4:=Hi (HBA.out.trans (hb.mono HBA.out.size));clear HSM hsum h1 h2 h3 h4 h5 hb ek e4 e5 HWA;obtain⟨gT,hgT⟩:∃gT,w4.heap.size=gT:=⟨_,rfl⟩;obtain⟨wE,hwE⟩:∃wE,w4.alloc (.cells #[Value.int .i64 2,Value.string ⟨#[48]⟩,Value.string ⟨#[48]⟩,Value.string ⟨#[49]⟩,Value.string ⟨#[48]⟩,Value.string ⟨#[48]⟩] 34)=wE:=⟨_,rfl⟩;have HT:Hid (SB wE gT 34 #[Value.int .i64 2,Value.string ⟨#[48]⟩,Value.string ⟨#[48]⟩,Value.string ⟨#[49]⟩,Value.string ⟨#[48]⟩,Value.string ⟨#[48]⟩]):=Hi (by rw[←hwE,←hgT];exact SB.new w4 _ _);have HBE:Hid (Below w.heap.size w wE):=Hi (by rw[←hwE];exact HB4.out.alloc HB4.out.size _);have HBX:=Hi (Below.refl wE.heap.size wE);have HGT:=Hi hgT;have HWE:=Hi hwE;clear hgT hwE;go_wp2_with fail
 rw[show w4.alloc (.cells #[Value.int .i64 2,Value.string ⟨#[48]⟩,Value.string ⟨#[48]⟩,Value.string ⟨#[49]⟩,Value.string ⟨#[48]⟩,Value.string ⟨#[48]⟩] 34)=wE from HWE.out,HGT.out];have hT:=HT.out.below HBX.out HT.out.lt;have hT_0:_=some (Value.int .i64 2):=hT.cell 0;have hT_1:_=some (Value.string ⟨#[48]⟩):=hT.cell 1;have hT_2:_=some (Value.string ⟨#[48]⟩):=hT.cell 2;have hT_3:_=some (Value.string ⟨#[49]⟩):=hT.cell 3;have hT_4:_=some (Value.string ⟨#[48]⟩):=hT.cell 4;have hT_5:_=some (Value.string ⟨#[48]⟩):=hT.cell 5;clear hT;go_region_held3
  (fun w'=>w'.cell? ⟨gT,0,none⟩=some (Value.int .i64 2)∧w'.cell? ⟨gT,1,none⟩=some (Value.string ⟨#[48]⟩)∧w'.cell? ⟨gT,2,none⟩=some (Value.string ⟨#[48]⟩)∧w'.cell? ⟨gT,3,none⟩=some (Value.string ⟨#[49]⟩)∧w'.cell? ⟨gT,4,none⟩=some (Value.string ⟨#[48]⟩)∧w'.cell? ⟨gT,5,none⟩=some (Value.string ⟨#[48]⟩)) ((first|(simp [*];done)|go_keep))
  (first
  |(
   go_at_call 14;apply Calls.mono;apply Qbz;rintro e wn ⟨rfl,hb⟩
   first
    |have HBY:Hid (Below wE.heap.size wE wn):=Hi (HBX.out.trans (hb.mono HBX.out.size))
    |have HBY:Hid (Below wE.heap.size wE wn):=Hi (HBX.out.drew.trans (hb.mono HBX.out.size))
   clear HBX hb;have HBX:=HBY;clear HBY;have hT:=HT.out.below HBX.out HT.out.lt;have hT_0:_=some (Value.int .i64 2):=hT.cell 0;have hT_1:_=some (Value.string ⟨#[48]⟩):=hT.cell 1;have hT_2:_=some (Value.string ⟨#[48]⟩):=hT.cell 2;have hT_3:_=some (Value.string ⟨#[49]⟩):=hT.cell 3;have hT_4:_=some (Value.string ⟨#[48]⟩):=hT.cell 4;have hT_5:_=some (Value.string ⟨#[48]⟩):=hT.cell 5;clear hT
   skip)
  )
 all_goals
  go_wp2;go_ret;exact⟨rfl,HBE.out.trans (HBX.out.mono HBE.out.size)⟩
end Go.Proofs.YtbbkamnfjejceaaGreatDoor
