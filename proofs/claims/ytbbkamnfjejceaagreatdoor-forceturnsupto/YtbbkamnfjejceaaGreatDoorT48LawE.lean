/- rafterlaw's ForceTurns where the forces come to one, and the whole. -/
import Derived.Test.YtbbkamnfjejceaaGreatDoorT47LawC
namespace Go.Proofs.YtbbkamnfjejceaaGreatDoor
open Go.RowKit
set_option linter.unusedVariables false
set_option linter.unusedSimpArgs false
theorem Qfk(x y t:Rat):sgn3 (nearX x y t*x+nearY x y t*y).num=0:=by
 rw[Qj4];rfl
theorem Qfl{w:World}{g:Nat}{s1 s2 s3 s4:ByteArray}(h:SB w g 29 #[.string s1,.string s2,.string s3,.string s4]):FRow w (some ⟨g,0,none⟩) 1 [⟨s1,s2,s3,s4⟩]:=by
 refine⟨by simp,fun i f hi=>⟨g,0,rfl,h.lt,?_⟩⟩
 match i with
 |0=>simp at hi;subst hi;exact⟨h.cell 0,h.cell 1,h.cell 2,h.cell 3⟩
 |i+1=>simp at hi
set_option maxRecDepth 100000 in
set_option maxHeartbeats 4000000 in
theorem Qj9(a b:Option Addr)(cap cap2 m:Nat)(fs:List F4)(sx sy:ByteArray)(w:World)(hg:Glob w)(hf:FRow w a cap fs)(hs:Sized fs)(hm:60<m)(hk:∀x y t,Sums 0 0 fs x y t→kindOf x y t=3):
 Calls Tryz.prog 4 #[.slice a fs.length cap,.slice b m cap2,.agg #[.string sx,.string sy]] w fun e w'=>e=.returned (.bool true)∧Below w.heap.size w w':=by
 have HG:=Hi hg;have HF:=Hi hf;have HS:=Hi hs;have HK:=Hi hk;have HM:=Hi hm;clear hg hf hs hk hm;go_enter Tryz.func4,Tryz.ntmps4;go_wp2_with fail;obtain⟨wA,hwA⟩:∃wA,w.alloc (.cells #[.string sx,.string sy] 25)=wA:=⟨_,rfl⟩;have HBA:Hid (Below w.heap.size w wA):=Hi (by rw[←hwA];exact(Below.refl _ _).alloc (Nat.le_refl _) _);have HAB:Hid (SB wA w.heap.size 25 #[.string sx,.string sy]):=Hi (by rw[←hwA];exact SB.new w _ _);rw[hwA];clear hwA;go_fit (Qby wA (HG.out.below HBA.out));rintro e w1 ⟨rfl,hb1⟩;have HB1:=Hi (HBA.out.trans (hb1.mono HBA.out.size));have HC1:=Hi hb1;clear hb1;go_wp2_with fail;go_fit (Qbu a cap 20000000 fs w1 (HG.out.below HB1.out) (HF.out.below HB1.out) HS.out.len HS.out.wt0 (by decide) (fun f hf=>Nat.le_trans (HS.out.sz f hf) (by decide)));rintro e w2 ⟨x,y,t,s1,s2,s3,s4,s5,hsum,h1,h2,h3,h4,h5,rfl,hb2⟩;have HB2:=Hi (HB1.out.trans (hb2.mono HB1.out.size))
 have HC2:=Hi (HC1.out.trans (hb2.mono HC1.out.size));have hkd:=HK.out x y t hsum;rw[hkd];have HSUM:=Hi hsum;have HSZ:=Hi (Qfi hsum h1 h2 h4 h5);have HON:=Hi (Qfj hkd h1 h2 h4 h5);have H1:=Hi h1;have H2:=Hi h2;have H4:=Hi h4;have H5:=Hi h5;clear hb2 h1 h2 h3 h4 h5 hkd hsum HK;go_wp2_with fail;obtain⟨gS,hgS⟩:∃gS,w2.heap.size=gS:=⟨_,rfl⟩;obtain⟨wB,hwB⟩:∃wB,(w2.alloc (.cells #[.int .i64 3,.string s1,.string s2,.string s3,.string s4,.string s5] 34)).alloc (.cells #[.string s4,.string s5,.string s1,.string s2] 29)=wB:=⟨_,rfl⟩;have HB3:Hid (Below w.heap.size w wB):=Hi (by rw[←hwB];exact HB2.out.trans ((Below.new2 w2 _ _).mono HB2.out.size));have HC3:Hid (Below wA.heap.size wA wB):=Hi (by rw[←hwB];exact HC2.out.trans ((Below.new2 w2 _ _).mono HC2.out.size))
 have HSB:Hid (SB wB gS 34 #[.int .i64 3,.string s1,.string s2,.string s3,.string s4,.string s5]):=Hi (by rw[←hwB,←hgS];exact(SB.new w2 _ _).alloc _);have HFB:Hid (SB wB (gS+1) 29 #[.string s4,.string s5,.string s1,.string s2]):=Hi (by rw[←hwB,←hgS];exact SB.new2 w2 _ _ _ _);rw[hwB,hgS];have HGS:=Hi hgS;clear hwB hgS;have hsz:sz ⟨s4,s5,s1,s2⟩≤600000000:=by
  have h1:=HSZ.out;have h2:=HS.out.wt0;omega
 go_fit (Qcl a (some ⟨gS+1,0,none⟩) cap 1 20000000 10000000000 fs [⟨s4,s5,s1,s2⟩] wB (HG.out.below HB3.out) (HF.out.below HB3.out) (Qfl HFB.out) HS.out.len (by simp) HS.out.wt0 (by decide) (by simp only[wt];omega) (by decide) (fun f hf=>Nat.le_trans (HS.out.sz f hf) (by decide)) (fun f hf=>by
  obtain rfl:f=_:=by simpa using hf
  exact Nat.le_trans hsz (by decide)))
 rintro e w3 ⟨x0,y0,t0,x1,y1,t1,hsa,hsb,rfl,hb4⟩;obtain⟨rfl,rfl,rfl⟩:=hsa.inj HSUM.out;obtain⟨rfl,rfl,rfl⟩:=hsb.inj HON.out;rw[decide_eq_true ⟨rfl,rfl,rfl⟩];have HB4:=Hi (HB3.out.trans (hb4.mono HB3.out.size));have HC4:=Hi (HC3.out.trans (hb4.mono HC3.out.size));have hsb4:=HSB.out.below hb4 HSB.out.lt;have HSB4:=Hi hsb4;have k1:_=some (Value.string s1):=hsb4.cell 1;have k2:_=some (Value.string s2):=hsb4.cell 2;have k4:_=some (Value.string s4):=hsb4.cell 4;have k5:_=some (Value.string s5):=hsb4.cell 5;clear hb4 hsa hsb hsb4 HSZ;go_wp2_with fail;have HR:=Hi (RBag.start (HG.out.below HB4.out).1);have hn1:s1.size≤600000000:=by have:sz ⟨s4,s5,s1,s2⟩=s4.size+s5.size+s1.size+s2.size:=rfl;omega
 have hn2:s2.size≤600000000:=by have:sz ⟨s4,s5,s1,s2⟩=s4.size+s5.size+s1.size+s2.size:=rfl;omega
 have hn4:s4.size≤600000000:=by have:sz ⟨s4,s5,s1,s2⟩=s4.size+s5.size+s1.size+s2.size:=rfl;omega
 have hn5:s5.size≤600000000:=by have:sz ⟨s4,s5,s1,s2⟩=s4.size+s5.size+s1.size+s2.size:=rfl;omega
 clear hsz k1 k2 k4 k5;have hT:=HSB4.out.below HR.out.base HSB4.out.lt;have k1:_=some (Value.string s1):=hT.cell 1;have k2:_=some (Value.string s2):=hT.cell 2;have k4:_=some (Value.string s4):=hT.cell 4;have k5:_=some (Value.string s5):=hT.cell 5;clear hT;go_region_held3 (fun w'=>w'.cell? ⟨gS,1,none⟩=some (.string s1)∧w'.cell? ⟨gS,2,none⟩=some (.string s2)∧w'.cell? ⟨gS,4,none⟩=some (.string s4)∧w'.cell? ⟨gS,5,none⟩=some (.string s5)) ((first|(simp [*];done)|go_keep)) (first
  |
   (go_at_call_of 19 (Value.string s4)
    apply Calls.mono;apply RBag.of (w0:=w3) (n:=600000000);(focus(first|exact HR.out|exact HR.out.drew));assumption;decide;rintro e wn ⟨qq,hq,bq,rfl,hbag⟩;obtain rfl:=hq.inj H4.out.back;clear HR;have HR:=Hi hbag;clear hq hbag;have hT:=HSB4.out.below HR.out.base HSB4.out.lt;have k1:_=some (Value.string s1):=hT.cell 1;have k2:_=some (Value.string s2):=hT.cell 2;have k4:_=some (Value.string s4):=hT.cell 4;have k5:_=some (Value.string s5):=hT.cell 5;clear hT
    skip)
  |
   (go_at_call_of 19 (Value.string s1)
    apply Calls.mono;apply RBag.of (w0:=w3) (n:=600000000);(focus(first|exact HR.out|exact HR.out.drew));assumption;decide;rintro e wn ⟨qq,hq,bq,rfl,hbag⟩;obtain rfl:=hq.inj H1.out.back;clear HR;have HR:=Hi hbag;clear hq hbag;have hT:=HSB4.out.below HR.out.base HSB4.out.lt;have k1:_=some (Value.string s1):=hT.cell 1;have k2:_=some (Value.string s2):=hT.cell 2;have k4:_=some (Value.string s4):=hT.cell 4;have k5:_=some (Value.string s5):=hT.cell 5;clear hT
    skip)
  |
   (go_at_call_of 19 (Value.string s5)
    apply Calls.mono;apply RBag.of (w0:=w3) (n:=600000000);(focus(first|exact HR.out|exact HR.out.drew));assumption;decide;rintro e wn ⟨qq,hq,bq,rfl,hbag⟩;obtain rfl:=hq.inj H5.out.back;clear HR;have HR:=Hi hbag;clear hq hbag;have hT:=HSB4.out.below HR.out.base HSB4.out.lt;have k1:_=some (Value.string s1):=hT.cell 1;have k2:_=some (Value.string s2):=hT.cell 2;have k4:_=some (Value.string s4):=hT.cell 4;have k5:_=some (Value.string s5):=hT.cell 5;clear hT
    skip)
  |
   (go_at_call_of 19 (Value.string s2)
    apply Calls.mono;apply RBag.of (w0:=w3) (n:=600000000);(focus(first|exact HR.out|exact HR.out.drew));assumption;decide;rintro e wn ⟨qq,hq,bq,rfl,hbag⟩;obtain rfl:=hq.inj H2.out.back;clear HR;have HR:=Hi hbag;clear hq hbag;have hT:=HSB4.out.below HR.out.base HSB4.out.lt;have k1:_=some (Value.string s1):=hT.cell 1;have k2:_=some (Value.string s2):=hT.cell 2;have k4:_=some (Value.string s4):=hT.cell 4;have k5:_=some (Value.string s5):=hT.cell 5;clear hT
    skip)
  |
   (go_at_call 18
    apply Calls.mono;apply RBag.mul (w0:=w3);(focus(first|exact HR.out|exact HR.out.drew));(focus(repeat(first|exact List.Mem.head _|apply List.Mem.tail)));(focus(repeat(first|exact List.Mem.head _|apply List.Mem.tail)));omega;rintro e wn ⟨bq,rfl,hbag⟩;clear HR;have HR:=Hi hbag;clear hbag;have hT:=HSB4.out.below HR.out.base HSB4.out.lt;have k1:_=some (Value.string s1):=hT.cell 1;have k2:_=some (Value.string s2):=hT.cell 2;have k4:_=some (Value.string s4):=hT.cell 4;have k5:_=some (Value.string s5):=hT.cell 5;clear hT
    skip)
  |
   (go_at_call 17
    apply Calls.mono;apply RBag.add (w0:=w3);(focus(first|exact HR.out|exact HR.out.drew));(focus(repeat(first|exact List.Mem.head _|apply List.Mem.tail)));(focus(repeat(first|exact List.Mem.head _|apply List.Mem.tail)));omega;rintro e wn ⟨bq,rfl,hbag⟩;clear HR;have HR:=Hi hbag;clear hbag;have hT:=HSB4.out.below HR.out.base HSB4.out.lt;have k1:_=some (Value.string s1):=hT.cell 1;have k2:_=some (Value.string s2):=hT.cell 2;have k4:_=some (Value.string s4):=hT.cell 4;have k5:_=some (Value.string s5):=hT.cell 5;clear hT
    skip)
  |
   (go_at_call 20
    apply Calls.mono;apply RBag.sign (w0:=w3);(focus(first|exact HR.out|exact HR.out.drew));(focus(repeat(first|exact List.Mem.head _|apply List.Mem.tail)));rintro e wn ⟨rfl,rfl⟩;rw[Qfk]
    skip)
  )
 all_goals
  have HB5:=Hi (HB4.out.trans (HR.out.base.mono HB4.out.size));clear k1 k2 k4 k5 HR HSB4 H1 H2 H4 H5 HON HSUM;go_wp2_with fail;go_fit (Qeu a b cap cap2 fs.length m _ (.inr HM.out));rintro e wz ⟨rfl,rfl⟩;go_wp2;go_ret;exact⟨rfl,HB5.out⟩
theorem Sums.exR(l:List F4):∃x y t,Sums 0 0 l.reverse x y t:=by
 induction l with
 |nil=>exact⟨0,0,0,Sums.nil⟩
 |cons f l ih=>
  obtain⟨x,y,t,h⟩:=ih;obtain⟨a,ha⟩:=QOf.ex f.ax.data.toList;obtain⟨b,hb⟩:=QOf.ex f.ay.data.toList;obtain⟨c,hc⟩:=QOf.ex f.wx.data.toList;obtain⟨d,hd⟩:=QOf.ex f.wy.data.toList;rw[List.reverse_cons];exact⟨_,_,_,Sums.snoc h ⟨ha,hb,hc,hd⟩⟩
theorem Sums.ex(l:List F4):∃x y t,Sums 0 0 l x y t:=by
 have:=Sums.exR l.reverse
 rwa [List.reverse_reverse] at this
set_option maxRecDepth 100000 in
set_option maxHeartbeats 4000000 in
theorem Qka(a b:Option Addr)(cap cap2:Nat)(fs gs:List F4)(sx sy:ByteArray)(w:World)(hg:Glob w)(hf:FRow w a cap fs)(hf2:FRow w b cap2 gs)(hs:Sized fs)(hs2:Sized gs)(hsx:sx.size≤1048576)(hsy:sy.size≤1048576)(hk:∀x y t,Sums 0 0 fs x y t→kindOf x y t=3):
 Calls Tryz.prog 4 #[.slice a fs.length cap,.slice b gs.length cap2,.agg #[.string sx,.string sy]] w fun e w'=>e=.returned (.bool true)∧Below w.heap.size w w':=by
 have HG:=Hi hg;have HF:=Hi hf;have HF2:=Hi hf2;have HS:=Hi hs;have HS2:=Hi hs2;have HK:=Hi hk;have HSX:=Hi hsx;have HSY:=Hi hsy;clear hg hf hf2 hs hs2 hk hsx hsy;go_enter Tryz.func4,Tryz.ntmps4;go_wp2_with fail;obtain⟨wA,hwA⟩:∃wA,w.alloc (.cells #[.string sx,.string sy] 25)=wA:=⟨_,rfl⟩;have HBA:Hid (Below w.heap.size w wA):=Hi (by rw[←hwA];exact(Below.refl _ _).alloc (Nat.le_refl _) _);have HAB:Hid (SB wA w.heap.size 25 #[.string sx,.string sy]):=Hi (by rw[←hwA];exact SB.new w _ _);rw[hwA];clear hwA;go_fit (Qby wA (HG.out.below HBA.out));rintro e w1 ⟨rfl,hb1⟩;have HB1:=Hi (HBA.out.trans (hb1.mono HBA.out.size));have HC1:=Hi hb1;clear hb1;go_wp2_with fail;go_fit (Qbu a cap 20000000 fs w1 (HG.out.below HB1.out) (HF.out.below HB1.out) HS.out.len HS.out.wt0 (by decide) (fun f hf=>Nat.le_trans (HS.out.sz f hf) (by decide)));rintro e w2 ⟨x,y,t,s1,s2,s3,s4,s5,hsum,h1,h2,h3,h4,h5,rfl,hb2⟩
 have HB2:=Hi (HB1.out.trans (hb2.mono HB1.out.size));have HC2:=Hi (HC1.out.trans (hb2.mono HC1.out.size));have hkd:=HK.out x y t hsum;rw[hkd];have HSUM:=Hi hsum;have HSZ:=Hi (Qfi hsum h1 h2 h4 h5);have HON:=Hi (Qfj hkd h1 h2 h4 h5);have H1:=Hi h1;have H2:=Hi h2;have H4:=Hi h4;have H5:=Hi h5;clear hb2 h1 h2 h3 h4 h5 hkd hsum HK;go_wp2_with fail;obtain⟨gS,hgS⟩:∃gS,w2.heap.size=gS:=⟨_,rfl⟩;obtain⟨wB,hwB⟩:∃wB,(w2.alloc (.cells #[.int .i64 3,.string s1,.string s2,.string s3,.string s4,.string s5] 34)).alloc (.cells #[.string s4,.string s5,.string s1,.string s2] 29)=wB:=⟨_,rfl⟩;have HB3:Hid (Below w.heap.size w wB):=Hi (by rw[←hwB];exact HB2.out.trans ((Below.new2 w2 _ _).mono HB2.out.size));have HC3:Hid (Below wA.heap.size wA wB):=Hi (by rw[←hwB];exact HC2.out.trans ((Below.new2 w2 _ _).mono HC2.out.size))
 have HSB:Hid (SB wB gS 34 #[.int .i64 3,.string s1,.string s2,.string s3,.string s4,.string s5]):=Hi (by rw[←hwB,←hgS];exact(SB.new w2 _ _).alloc _);have HFB:Hid (SB wB (gS+1) 29 #[.string s4,.string s5,.string s1,.string s2]):=Hi (by rw[←hwB,←hgS];exact SB.new2 w2 _ _ _ _);rw[hwB,hgS];have HGS:=Hi hgS;clear hwB hgS;have hsz:sz ⟨s4,s5,s1,s2⟩≤600000000:=by
  have h1:=HSZ.out;have h2:=HS.out.wt0;omega
 go_fit (Qcl a (some ⟨gS+1,0,none⟩) cap 1 20000000 10000000000 fs [⟨s4,s5,s1,s2⟩] wB (HG.out.below HB3.out) (HF.out.below HB3.out) (Qfl HFB.out) HS.out.len (by simp) HS.out.wt0 (by decide) (by simp only[wt];omega) (by decide) (fun f hf=>Nat.le_trans (HS.out.sz f hf) (by decide)) (fun f hf=>by
  obtain rfl:f=_:=by simpa using hf
  exact Nat.le_trans hsz (by decide)))
 rintro e w3 ⟨x0,y0,t0,x1,y1,t1,hsa,hsb,rfl,hb4⟩;obtain⟨rfl,rfl,rfl⟩:=hsa.inj HSUM.out;obtain⟨rfl,rfl,rfl⟩:=hsb.inj HON.out;rw[decide_eq_true ⟨rfl,rfl,rfl⟩];have HB4:=Hi (HB3.out.trans (hb4.mono HB3.out.size));have HC4:=Hi (HC3.out.trans (hb4.mono HC3.out.size));have hsb4:=HSB.out.below hb4 HSB.out.lt;have HSB4:=Hi hsb4;have k1:_=some (Value.string s1):=hsb4.cell 1;have k2:_=some (Value.string s2):=hsb4.cell 2;have k4:_=some (Value.string s4):=hsb4.cell 4;have k5:_=some (Value.string s5):=hsb4.cell 5;clear hb4 hsa hsb hsb4 HSZ;go_wp2_with fail;have HR:=Hi (RBag.start (HG.out.below HB4.out).1);have hn1:s1.size≤600000000:=by have:sz ⟨s4,s5,s1,s2⟩=s4.size+s5.size+s1.size+s2.size:=rfl;omega
 have hn2:s2.size≤600000000:=by have:sz ⟨s4,s5,s1,s2⟩=s4.size+s5.size+s1.size+s2.size:=rfl;omega
 have hn4:s4.size≤600000000:=by have:sz ⟨s4,s5,s1,s2⟩=s4.size+s5.size+s1.size+s2.size:=rfl;omega
 have hn5:s5.size≤600000000:=by have:sz ⟨s4,s5,s1,s2⟩=s4.size+s5.size+s1.size+s2.size:=rfl;omega
 clear hsz k1 k2 k4 k5;have hT:=HSB4.out.below HR.out.base HSB4.out.lt;have k1:_=some (Value.string s1):=hT.cell 1;have k2:_=some (Value.string s2):=hT.cell 2;have k4:_=some (Value.string s4):=hT.cell 4;have k5:_=some (Value.string s5):=hT.cell 5;clear hT;go_region_held3 (fun w'=>w'.cell? ⟨gS,1,none⟩=some (.string s1)∧w'.cell? ⟨gS,2,none⟩=some (.string s2)∧w'.cell? ⟨gS,4,none⟩=some (.string s4)∧w'.cell? ⟨gS,5,none⟩=some (.string s5)) ((first|(simp [*];done)|go_keep)) (first
  |
   (go_at_call_of 19 (Value.string s4)
    apply Calls.mono;apply RBag.of (w0:=w3) (n:=600000000);(focus(first|exact HR.out|exact HR.out.drew));assumption;decide;rintro e wn ⟨qq,hq,bq,rfl,hbag⟩;obtain rfl:=hq.inj H4.out.back;clear HR;have HR:=Hi hbag;clear hq hbag;have hT:=HSB4.out.below HR.out.base HSB4.out.lt;have k1:_=some (Value.string s1):=hT.cell 1;have k2:_=some (Value.string s2):=hT.cell 2;have k4:_=some (Value.string s4):=hT.cell 4;have k5:_=some (Value.string s5):=hT.cell 5;clear hT
    skip)
  |
   (go_at_call_of 19 (Value.string s1)
    apply Calls.mono;apply RBag.of (w0:=w3) (n:=600000000);(focus(first|exact HR.out|exact HR.out.drew));assumption;decide;rintro e wn ⟨qq,hq,bq,rfl,hbag⟩;obtain rfl:=hq.inj H1.out.back;clear HR;have HR:=Hi hbag;clear hq hbag;have hT:=HSB4.out.below HR.out.base HSB4.out.lt;have k1:_=some (Value.string s1):=hT.cell 1;have k2:_=some (Value.string s2):=hT.cell 2;have k4:_=some (Value.string s4):=hT.cell 4;have k5:_=some (Value.string s5):=hT.cell 5;clear hT
    skip)
  |
   (go_at_call_of 19 (Value.string s5)
    apply Calls.mono;apply RBag.of (w0:=w3) (n:=600000000);(focus(first|exact HR.out|exact HR.out.drew));assumption;decide;rintro e wn ⟨qq,hq,bq,rfl,hbag⟩;obtain rfl:=hq.inj H5.out.back;clear HR;have HR:=Hi hbag;clear hq hbag;have hT:=HSB4.out.below HR.out.base HSB4.out.lt;have k1:_=some (Value.string s1):=hT.cell 1;have k2:_=some (Value.string s2):=hT.cell 2;have k4:_=some (Value.string s4):=hT.cell 4;have k5:_=some (Value.string s5):=hT.cell 5;clear hT
    skip)
  |
   (go_at_call_of 19 (Value.string s2)
    apply Calls.mono;apply RBag.of (w0:=w3) (n:=600000000);(focus(first|exact HR.out|exact HR.out.drew));assumption;decide;rintro e wn ⟨qq,hq,bq,rfl,hbag⟩;obtain rfl:=hq.inj H2.out.back;clear HR;have HR:=Hi hbag;clear hq hbag;have hT:=HSB4.out.below HR.out.base HSB4.out.lt;have k1:_=some (Value.string s1):=hT.cell 1;have k2:_=some (Value.string s2):=hT.cell 2;have k4:_=some (Value.string s4):=hT.cell 4;have k5:_=some (Value.string s5):=hT.cell 5;clear hT
    skip)
  |
   (go_at_call 18
    apply Calls.mono;apply RBag.mul (w0:=w3);(focus(first|exact HR.out|exact HR.out.drew));(focus(repeat(first|exact List.Mem.head _|apply List.Mem.tail)));(focus(repeat(first|exact List.Mem.head _|apply List.Mem.tail)));omega;rintro e wn ⟨bq,rfl,hbag⟩;clear HR;have HR:=Hi hbag;clear hbag;have hT:=HSB4.out.below HR.out.base HSB4.out.lt;have k1:_=some (Value.string s1):=hT.cell 1;have k2:_=some (Value.string s2):=hT.cell 2;have k4:_=some (Value.string s4):=hT.cell 4;have k5:_=some (Value.string s5):=hT.cell 5;clear hT
    skip)
  |
   (go_at_call 17
    apply Calls.mono;apply RBag.add (w0:=w3);(focus(first|exact HR.out|exact HR.out.drew));(focus(repeat(first|exact List.Mem.head _|apply List.Mem.tail)));(focus(repeat(first|exact List.Mem.head _|apply List.Mem.tail)));omega;rintro e wn ⟨bq,rfl,hbag⟩;clear HR;have HR:=Hi hbag;clear hbag;have hT:=HSB4.out.below HR.out.base HSB4.out.lt;have k1:_=some (Value.string s1):=hT.cell 1;have k2:_=some (Value.string s2):=hT.cell 2;have k4:_=some (Value.string s4):=hT.cell 4;have k5:_=some (Value.string s5):=hT.cell 5;clear hT
    skip)
  |
   (go_at_call 20
    apply Calls.mono;apply RBag.sign (w0:=w3);(focus(first|exact HR.out|exact HR.out.drew));(focus(repeat(first|exact List.Mem.head _|apply List.Mem.tail)));rintro e wn ⟨rfl,rfl⟩;rw[Qfk]
    skip)
  )
 have HB5:=Hi (HB4.out.trans (HR.out.base.mono HB4.out.size));have HC5:=Hi (HC4.out.trans (HR.out.base.mono HC4.out.size));clear k1 k2 k4 k5 HR HSB4 H1 H2 H4 H5 HON HSUM;go_wp2_with fail;go_fit (Qcl a b cap cap2 20000000 20000000 fs gs wn (HG.out.below HB5.out) (HF.out.below HB5.out) (HF2.out.below HB5.out) HS.out.len HS2.out.len HS.out.wt0 (by decide) HS2.out.wt0 (by decide) (fun f hf=>Nat.le_trans (HS.out.sz f hf) (by decide)) (fun f hf=>Nat.le_trans (HS2.out.sz f hf) (by decide)));rintro e w7 ⟨x0,y0,t0,x1,y1,t1,hsa,hsb,rfl,hb4⟩;have HB4:=Hi (HB5.out.trans (hb4.mono HB5.out.size));have HC4:=Hi (HC5.out.trans (hb4.mono HC5.out.size));clear hb4;by_cases hal:x0=x1∧y0=y1∧t0=t1
 ·
  rw[decide_eq_true hal];obtain⟨rfl,rfl,rfl⟩:=hal;obtain⟨ox,hox⟩:=QOf.ex sx.data.toList;obtain⟨oy,hoy⟩:=QOf.ex sy.data.toList;have HMA:=Hi (hsa.move ox oy);have HMB:=Hi (hsb.move ox oy);have HOX:=Hi hox;have HOY:=Hi hoy;clear hsa hsb hox hoy;have hab:=HAB.out.below HC4.out HAB.out.lt;have k0:_=some (Value.string sx):=hab.cell 0;have k1:_=some (Value.string sy):=hab.cell 1;clear hab;go_wp2_with fail;go_fit (Qck a cap 1048576 600000000 fs sx sy ox oy w7 (HG.out.below HB4.out) (HF.out.below HB4.out) HS.out.len (by decide) HS.out.wtm (by decide) (fun f hf=>Nat.le_trans (HS.out.sz f hf) (by decide)) HSX.out HSY.out HOX.out HOY.out);rintro e w8 ⟨xa,ya,ta,v1,v2,v3,hsa,g1,g2,g3,rfl,hb5⟩;obtain⟨rfl,rfl,rfl⟩:=hsa.inj HMA.out;have HB5:=Hi (HB4.out.trans (hb5.mono HB4.out.size));have HC5:=Hi (HC4.out.trans (hb5.mono HC4.out.size));have G1:=Hi g1;have G2:=Hi g2;have G3:=Hi g3
  clear hb5 hsa g1 g2 g3 k0 k1;obtain⟨gV,hgV⟩:∃gV,w8.heap.size=gV:=⟨_,rfl⟩;obtain⟨wQ,hwQ⟩:∃wQ,w8.alloc (.cells #[.string v1,.string v2] 25)=wQ:=⟨_,rfl⟩;have HB6:Hid (Below w.heap.size w wQ):=Hi (by rw[←hwQ];exact HB5.out.alloc HB5.out.size _);have HC6:Hid (Below wA.heap.size wA wQ):=Hi (by rw[←hwQ];exact HC5.out.alloc HC5.out.size _);have HV:Hid (SB wQ gV 25 #[.string v1,.string v2]):=Hi (by rw[←hwQ,←hgV];exact SB.new w8 _ _);have hab:=HAB.out.below HC6.out HAB.out.lt;have k0:_=some (Value.string sx):=hab.cell 0;have k1:_=some (Value.string sy):=hab.cell 1;rw[←hwQ] at k0 k1;clear hab;have HWC:=Hi hwQ;have HGV:=Hi hgV;clear hwQ hgV;go_wp2_with fail;rw[HWC.out,HGV.out];clear k0 k1
  go_fit (Qck b cap2 1048576 600000000 gs sx sy ox oy wQ (HG.out.below HB6.out) (HF2.out.below HB6.out) HS2.out.len (by decide) HS2.out.wtm (by decide) (fun f hf=>Nat.le_trans (HS2.out.sz f hf) (by decide)) HSX.out HSY.out HOX.out HOY.out);rintro e w9 ⟨xb,yb,tb,u1,u2,u3,hsb,f1,f2,f3,rfl,hb7⟩;obtain⟨rfl,rfl,rfl⟩:=hsb.inj HMB.out;obtain rfl:u1=v1:=(Qaj (f1.inj G1.out)).trans (Qaj rfl).symm;obtain rfl:u2=v2:=(Qaj (f2.inj G2.out)).trans (Qaj rfl).symm;obtain rfl:u3=v3:=(Qaj (f3.inj G3.out)).trans (Qaj rfl).symm;have hv:=(HV.out.below hb7 HV.out.lt).alloc (.cells #[.string u1,.string u2] 25);have j0:_=some (Value.string u1):=hv.cell 0;have j1:_=some (Value.string u2):=hv.cell 1;have hne:w9.heap.size≠gV:=by
   have:=HV.out.lt;have:=hb7.size;omega
  have HB7:=Hi (HB6.out.trans (hb7.mono HB6.out.size));clear hsb f1 f2 f3 hb7 hv;go_wp2_with fail;go_ret;exact⟨by simp,HB7.out.alloc HB7.out.size _⟩
 ·
  rw[decide_eq_false hal];clear hsa hsb hal;go_wp2;go_ret;exact⟨rfl,HB4.out⟩
theorem Qkb(a b:Option Addr)(cap cap2:Nat)(fs gs:List F4)(sx sy:ByteArray)(w:World)(hg:Glob w)(hf:FRow w a cap fs)(hf2:FRow w b cap2 gs)(hs:fs.length≤60→Sized fs)(hs2:gs.length≤60→Sized gs)(hsx:sx.size≤1048576)(hsy:sy.size≤1048576):
 Calls Tryz.prog 4 #[.slice a fs.length cap,.slice b gs.length cap2,.agg #[.string sx,.string sy]] w fun e w'=>e=.returned (.bool true)∧Below w.heap.size w w':=by
 by_cases hl:60<fs.length
 · exact Qj6 a b cap cap2 fs.length gs.length sx sy w hg hl
 have h1:=hs (by omega);obtain⟨x,y,t,hsum⟩:=Sums.ex fs;by_cases hk:kindOf x y t=3
 ·
  have hk':∀x y t,Sums 0 0 fs x y t→kindOf x y t=3:=by
   intro x' y' t' h;obtain⟨rfl,rfl,rfl⟩:=h.inj hsum;exact hk
  by_cases hm:60<gs.length
  · exact Qj9 a b cap cap2 gs.length fs sx sy w hg hf h1 hm hk'
  · exact Qka a b cap cap2 fs gs sx sy w hg hf hf2 h1 (hs2 (by omega)) hsx hsy hk'
 ·
  have hk':∀x y t,Sums 0 0 fs x y t→kindOf x y t≠3:=by
   intro x' y' t' h;obtain⟨rfl,rfl,rfl⟩:=h.inj hsum;exact hk
  by_cases hm:60<gs.length
  · exact Qj7 a b cap cap2 gs.length fs sx sy w hg hf h1 hm hk'
  · exact Qj8 a b cap cap2 fs gs sx sy w hg hf hf2 h1 (hs2 (by omega)) hsx hsy hk'
end Go.Proofs.YtbbkamnfjejceaaGreatDoor
