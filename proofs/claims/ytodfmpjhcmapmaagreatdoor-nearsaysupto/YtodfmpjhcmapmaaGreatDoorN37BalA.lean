/- package balance: Way. -/
import Derived.Test.YtodfmpjhcmapmaaGreatDoorN36RefD
namespace Go.Proofs.YtodfmpjhcmapmaaGreatDoor
open Go.RowKit
set_option linter.unusedVariables false
set_option linter.unusedSimpArgs false
theorem Qqp(a1 a2 a3:Option Addr)(c1 c2 c3:Nat)(js:List S2)(bs:List B6)(hs:List H3)(w:World)(hg:Glob w)(hf:FrRow w a1 a2 a3 c1 c2 c3 js bs hs)(hz:FrSized js bs hs):
 Calls Tryz.prog 10 #[.agg #[.slice a1 js.length c1,.slice a2 bs.length c2,.slice a3 hs.length c3]] w fun e w'=>∃c at_,e=.returned (.agg #[.int .i64 c,.int .i64 at_])∧FrameFault js bs hs c at_∧Below w.heap.size w w':=by
 by_cases hm:Many js.length bs.length hs.length
 · exact Qql a1 a2 a3 c1 c2 c3 js bs hs w hg hf hz hm
 · exact Qqo a1 a2 a3 c1 c2 c3 js bs hs w hg hf hz hm
theorem Qru(a1 a2 a3:Option Addr)(c1 c2 c3 n m k:Nat)(w:World)(hm:m≤24)(hk:k≤20):
 Calls Tryz.prog 27 #[.agg #[.slice a1 n c1,.slice a2 m c2,.slice a3 k c3]] w fun e w'=>e=.returned (.int .i64 ((m:Int)+(k:Int)))∧Below w.heap.size w w':=by
 go_enter Tryz.func27,Tryz.ntmps27;go_wp2;go_ret;exact⟨rfl,(Below.refl _ _).alloc (Nat.le_refl _) _⟩
theorem Qfg{P:Program}{fn:Func}{p u:Tmp}{ty:TypeId}(h:fn.results=#[.cell p ty,.cell u ty])(tmps:Array Value)(w:World)(g g':Nat)(t:TypeId)(cs cs':Array Value)(fr fr':Nat × Nat)(d:TypeDesc)
 (hp:tmps.getD p undef=.pointer (some ⟨g,0,none⟩)) (hg:w.heap[g]?=some (.cells cs t fr)) (hp':tmps.getD u undef=.pointer (some ⟨g',0,none⟩)) (hg':w.heap[g']?=some (.cells cs' t fr'))
 (hu:P.underlying ty=some d) (hd:(match d with| .struct _| .array _ _=>true|_=>false)=true) (hi:(P.info? ty).map (·.size)=some cs.size) (hi':(P.info? ty).map (·.size)=some cs'.size):
 (results fn tmps).run P w=.ok (.tuple #[.agg cs,.agg cs']) w:=by
 have e1:tmps[p]?.getD undef=.pointer (some ⟨g,0,none⟩):=by simpa using hp
 have e2:tmps[u]?.getD undef=.pointer (some ⟨g',0,none⟩):=by simpa using hp'
 simp[results,h,e1,e2,asAddr,run_loadVar_row w g t ty cs fr d hg hu hd hi,run_loadVar_row w g' t ty cs' fr' d hg' hu hd hi']
def WaySays(w:World)(k:Nat)(qx qy:Rat)(e:Ending)(w':World):Prop:=∃x1 x2 x3 y1 y2 y3,e=.returned (.tuple #[.agg #[x1,x2,x3],.agg #[y1,y2,y3]])∧FBag w w' [⟨y1,y2,y3,qy,k⟩,⟨x1,x2,x3,qx,k⟩]
theorem Qcy(w:World)(o:Obj)(t:TypeId)(C:Array Value):SB ((w.alloc o).alloc (.cells C t)) (w.heap.size+1) t C:=by
 have h:=SB.new (w.alloc o) t C;rw[World.size_alloc] at h;exact h
theorem Qcz{w:World}{x y z:Value}{q:Rat}(h:FracV w (.agg #[x,y,z]) q):∃neg a n c b m d,x=.bool neg∧y=.slice a n c∧z=.slice b m d:=by
 obtain⟨neg,a,n,c,b,m,d,e,_⟩:=h;simp at e;exact⟨neg,a,n,c,b,m,d,e.1,e.2.1,e.2.2⟩
theorem Qfh:NoU64 #[.bool false,.slice none 0 0,.slice none 0 0]:=Qkh (by simp)
theorem Qfi{w u:World}{g g':Nat}{L:List FE}{x1 x2 x3 y1 y2 y3:Value}(h:FBag w u L)(hg:w.heap.size≤g)(hg':w.heap.size≤g')(hne:g≠g')(s:SB u g 62 #[.bool false,.slice none 0 0,.slice none 0 0])(s':SB u g' 62 #[.bool false,.slice none 0 0,.slice none 0 0]):
 FBag w ((((((u.setCell ⟨g,0,none⟩ x1).setCell ⟨g,1,none⟩ x2).setCell ⟨g,2,none⟩ x3).setCell ⟨g',0,none⟩ y1).setCell ⟨g',1,none⟩ y2).setCell ⟨g',2,none⟩ y3) L∧SB ((((((u.setCell ⟨g,0,none⟩ x1).setCell ⟨g,1,none⟩ x2).setCell ⟨g,2,none⟩ x3).setCell ⟨g',0,none⟩ y1).setCell ⟨g',1,none⟩ y2).setCell ⟨g',2,none⟩ y3) g 62 #[x1,x2,x3]∧SB ((((((u.setCell ⟨g,0,none⟩ x1).setCell ⟨g,1,none⟩ x2).setCell ⟨g,2,none⟩ x3).setCell ⟨g',0,none⟩ y1).setCell ⟨g',1,none⟩ y2).setCell ⟨g',2,none⟩ y3) g' 62 #[y1,y2,y3]:=by
 have h1:=h.only ((((Only.refl g u).setCell 0 x1).setCell 1 x2).setCell 2 x3) s Qfh hg;have t1:=((s.set 0 x1).set 1 x2).set 2 x3;have t2:=((s'.other hne.symm 0 x1).other hne.symm 1 x2).other hne.symm 2 x3;have h2:=h1.only ((((Only.refl g' _).setCell 0 y1).setCell 1 y2).setCell 2 y3) t2 Qfh hg';refine⟨h2,?_,?_⟩
 · have:=((t1.other hne 0 y1).other hne 1 y2).other hne 2 y3
   simpa using this
 · have:=((t2.set 0 y1).set 1 y2).set 2 y3
   simpa using this
set_option maxRecDepth 100000 in
set_option maxHeartbeats 4000000 in
theorem Qjb(a1 a2 a3:Option Addr)(c1 c2 c3 nb nh A B n:Nat)(js:List S2)(b:B6)(s t:S2)(w:World)(hg:Glob w)(hj:ARow S2.cells w a1 c1 js)(hA:b.a=(A:Nat))(hB:b.b=(B:Nat))(hs:js[A]?=some s)(ht:js[B]?=some t)
 (hl:js.length≤10) (z1:s.x.size≤n) (z2:s.y.size≤n) (z3:t.x.size≤n) (z4:t.y.size≤n) (hn:n≤1073741824) {x1 y1 x2 y2:Rat} (q1:QOf s.x.data.toList x1) (q2:QOf s.y.data.toList y1) (q3:QOf t.x.data.toList x2) (q4:QOf t.y.data.toList y2):
 Calls Tryz.prog 60 #[.agg #[.slice a1 js.length c1,.slice a2 nb c2,.slice a3 nh c3],.agg #[.int .i64 b.a,.int .i64 b.b,.string b.c,.string b.e,.string b.l,.string b.m]] w (WaySays w (4*n+1+(4*n+1)+1) (x2 - x1) (y2 - y1)):=by
 have HG:=Hi hg;have HJ:=Hi hj;have hAl:=(List.getElem?_eq_some_iff.1 hs).1;have hBl:=(List.getElem?_eq_some_iff.1 ht).1;have HS:=Hi hs;have HT:=Hi ht;rw[hA,hB];have HZ:=Hi (⟨z1,z2,z3,z4,hn⟩:s.x.size≤n∧s.y.size≤n∧t.x.size≤n∧t.y.size≤n∧n≤1073741824);have HQ:=Hi (⟨q1,q2,q3,q4⟩:QOf s.x.data.toList x1∧QOf s.y.data.toList y1∧QOf t.x.data.toList x2∧QOf t.y.data.toList y2);have iA:((A:Int)<(js.length:Int)):=by omega
 have iB:((B:Int)<(js.length:Int)):=by omega
 clear hg hj hs ht z1 z2 z3 z4 hn q1 q2 q3 q4 hA hB;go_enter Tryz.func60,Tryz.ntmps60;obtain⟨B0,hB0⟩:∃B0,w.heap.size=B0:=⟨_,rfl⟩;obtain⟨V,hV⟩:∃V,(((w.alloc (.cells #[.slice a1 js.length c1,.slice a2 nb c2,.slice a3 nh c3] 26)).alloc (.cells #[.int .i64 (A:Nat),.int .i64 (B:Nat),.string b.c,.string b.e,.string b.l,.string b.m] 39)).alloc (.cells #[.bool false,.slice none 0 0,.slice none 0 0] 62)).alloc (.cells #[.bool false,.slice none 0 0,.slice none 0 0] 62)=V:=⟨_,rfl⟩;have hbV:Below w.heap.size w V:=by
  rw[←hV];exact((((Below.refl _ _).alloc (Nat.le_refl _) _).alloc (by simp) _).alloc (by simp;omega) _).alloc (by simp;omega) _
 have hszV:V.heap.size=B0+4:=by rw[←hV,←hB0];simp
 have s1:SB V B0 26 #[.slice a1 js.length c1,.slice a2 nb c2,.slice a3 nh c3]:=by
  rw[←hV,←hB0];exact(((SB.new w _ _).alloc _).alloc _).alloc _
 have s2:SB V (B0+1) 39 #[.int .i64 (A:Nat),.int .i64 (B:Nat),.string b.c,.string b.e,.string b.l,.string b.m]:=by
  have h:=SB.new (w.alloc (.cells #[.slice a1 js.length c1,.slice a2 nb c2,.slice a3 nh c3] 26)) 39 #[.int .i64 (A:Nat),.int .i64 (B:Nat),.string b.c,.string b.e,.string b.l,.string b.m];rw[World.size_alloc,hB0] at h;rw[←hV];exact(h.alloc _).alloc _
 have s3:SB V (B0+2) 62 #[.bool false,.slice none 0 0,.slice none 0 0]:=by
  have h:=SB.new ((w.alloc (.cells #[.slice a1 js.length c1,.slice a2 nb c2,.slice a3 nh c3] 26)).alloc (.cells #[.int .i64 (A:Nat),.int .i64 (B:Nat),.string b.c,.string b.e,.string b.l,.string b.m] 39)) 62 #[.bool false,.slice none 0 0,.slice none 0 0];rw[World.size_alloc,World.size_alloc,hB0] at h;rw[←hV];exact h.alloc _
 have s4:SB V (B0+3) 62 #[.bool false,.slice none 0 0,.slice none 0 0]:=by
  have h:=SB.new (((w.alloc (.cells #[.slice a1 js.length c1,.slice a2 nb c2,.slice a3 nh c3] 26)).alloc (.cells #[.int .i64 (A:Nat),.int .i64 (B:Nat),.string b.c,.string b.e,.string b.l,.string b.m] 39)).alloc (.cells #[.bool false,.slice none 0 0,.slice none 0 0] 62)) 62 #[.bool false,.slice none 0 0,.slice none 0 0];rw[World.size_alloc,World.size_alloc,World.size_alloc,hB0] at h;rw[←hV];exact h
 obtain⟨jb,jo,rfl,hjb,u0,u1⟩:=(HJ.out.below hbV).spot HS.out;obtain⟨jb',jo',e',_,u2,u3⟩:=(HJ.out.below hbV).spot HT.out;cases e';have f0:=s1.cell 0;have f1:=s2.cell 0;have f2:=s2.cell 1;simp at f0 f1 f2;have HBV:=Hi hbV;have HV:=Hi hV;have HB0:=Hi hB0;have HSZ:=Hi hszV;have HS3:=Hi s3;have HS4:=Hi s4;clear hbV hszV s1 s2 s3 s4 hV hB0;go_wp2_with fail;simp only[HB0.out];rw[HV.out];go_region_held3 (fun v=>v.cell? ⟨B0,0,none⟩=some (.slice (some ⟨jb,jo,none⟩) js.length c1)∧v.cell? ⟨B0+1,0,none⟩=some (.int .i64 (A:Nat))∧v.cell? ⟨B0+1,1,none⟩=some (.int .i64 (B:Nat))∧v.cell? ⟨jb,jo+A*2,none⟩=some (.string s.x)∧v.cell? ⟨jb,jo+A*2+1,none⟩=some (.string s.y)∧v.cell? ⟨jb,jo+B*2,none⟩=some (.string t.x)∧v.cell? ⟨jb,jo+B*2+1,none⟩=some (.string t.y)) ((first|(simp [*];done)|go_keep)) (fail)
 ·
  skip;obtain⟨X,hX⟩:∃X,((V.alloc (.cells #[.string s.x,.string s.y] 36)).alloc (.cells #[.string t.x,.string t.y] 36)).drew=X:=⟨_,rfl⟩;have hbX:Below V.heap.size V X:=by rw[←hX];exact(((Below.refl _ _).alloc (Nat.le_refl _) _).alloc (by simp) _).drew
  have hss:SB X (V.heap.size) 36 #[.string s.x,.string s.y]:=by rw[←hX];exact((SB.new V _ _).alloc _)
  have hst:SB X (V.heap.size+1) 36 #[.string t.x,.string t.y]:=by rw[←hX];exact Qcy V _ _ _
  have HSS:=Hi hss;have HST:=Hi hst;have HBX:Hid (Below w.heap.size w X):=Hi (HBV.out.trans (hbX.mono HBV.out.size));have HF0:Hid (FBag X X []):=Hi (FBag.start (HG.out.below HBX.out));have HX3:=Hi (HS3.out.below hbX HS3.out.lt);have HX4:=Hi (HS4.out.below hbX HS4.out.lt);have k0:=hss.cell 0;have k1:=hss.cell 1;have k2:=hst.cell 0;have k3:=hst.cell 1;simp at k0 k1 k2 k3;clear hbX hss hst f0 f1 f2 u0 u1 u2 u3;have HXE:=Hi hX;clear hX;have hz:=HSZ.out;have n1:V.heap.size≠B0+1+1:=by omega
  have n2:V.heap.size≠B0+1+1+1:=by omega
  have n3:V.heap.size+1≠B0+1+1:=by omega
  have n4:V.heap.size+1≠B0+1+1+1:=by omega
  have n5:=n1.symm;have n6:=n2.symm;have n7:=n3.symm;have n8:=n4.symm;have n9:V.heap.size≠B0+1:=by omega
  have n10:=n9.symm;clear hz;rw[HXE.out];go_wp2_with fail;go_region_held3 (fun v=>v.cell? ⟨V.heap.size,0,none⟩=some (.string s.x)∧v.cell? ⟨V.heap.size,1,none⟩=some (.string s.y)∧v.cell? ⟨V.heap.size+1,0,none⟩=some (.string t.x)∧v.cell? ⟨V.heap.size+1,1,none⟩=some (.string t.y)) ((first|(simp [*];done)|go_keep)) (first
   |
    (go_at_call_of 29 (Value.string t.x)
     apply Calls.mono;apply FBag.of (w0:=X) (L:=[]) (n:=n) t.x;(first|exact HF0.out|exact HF0.out.drew);exact HZ.out.2.2.1;exact HZ.out.2.2.2.2;rintro e v1 ⟨q,hq,ma1,mb1,mc1,rfl,hf⟩;rw[hq.inj HQ.out.2.2.1] at hf;have HF1:=Hi hf;clear hq hf HF0 k0 k1 k2 k3;have k0:=(HSS.out.below HF1.out.base HSS.out.lt).cell 0;have k1:=(HSS.out.below HF1.out.base HSS.out.lt).cell 1;have k2:=(HST.out.below HF1.out.base HST.out.lt).cell 0;have k3:=(HST.out.below HF1.out.base HST.out.lt).cell 1;simp at k0 k1 k2 k3
     skip)
   |
    (go_at_call_of 29 (Value.string s.x)
     apply Calls.mono;apply FBag.of (w0:=X) (L:=_) (n:=n) s.x;(first|exact HF1.out|exact HF1.out.drew);exact HZ.out.1;exact HZ.out.2.2.2.2;rintro e v2 ⟨q,hq,ma2,mb2,mc2,rfl,hf⟩;rw[hq.inj HQ.out.1] at hf;have HF2:=Hi hf;clear hq hf HF1 k0 k1 k2 k3;have k0:=(HSS.out.below HF2.out.base HSS.out.lt).cell 0;have k1:=(HSS.out.below HF2.out.base HSS.out.lt).cell 1;have k2:=(HST.out.below HF2.out.base HST.out.lt).cell 0;have k3:=(HST.out.below HF2.out.base HST.out.lt).cell 1;simp at k0 k1 k2 k3
     skip)
   |
    (go_at_call_of 115 ma1
     apply Calls.mono;(first|(apply FBag.minus HF2.out)|(apply FBag.minus HF2.out.drew));(focus(repeat(first|exact List.Mem.head _|apply List.Mem.tail)));(focus(repeat(first|exact List.Mem.head _|apply List.Mem.tail)))
     (have:=HZ.out.2.2.2.2;omega)
     rintro e v3 ⟨ma3,mb3,mc3,rfl,hf⟩;obtain⟨ng3,rg3,bg3,dg3,ig3,jg3,lg3,rfl,rfl,rfl⟩:=Qcz (hf.get (List.Mem.head _)).1;have HF3:=Hi hf;clear hf HF2 k0 k1 k2 k3;have k0:=(HSS.out.below HF3.out.base HSS.out.lt).cell 0;have k1:=(HSS.out.below HF3.out.base HSS.out.lt).cell 1;have k2:=(HST.out.below HF3.out.base HST.out.lt).cell 0;have k3:=(HST.out.below HF3.out.base HST.out.lt).cell 1;simp at k0 k1 k2 k3;(try clear p0 p1 p2 p3 p4 p5 r0 r1 r2 r3 r4 r5);have p0:v3.cell? ⟨B0+1+1,0,none⟩=some (.bool false):=(HX3.out.below HF3.out.base HX3.out.lt).cell 0;have p1:v3.cell? ⟨B0+1+1,1,none⟩=some (.slice none 0 0):=(HX3.out.below HF3.out.base HX3.out.lt).cell 1;have p2:v3.cell? ⟨B0+1+1,2,none⟩=some (.slice none 0 0):=(HX3.out.below HF3.out.base HX3.out.lt).cell 2;have p3:v3.cell? ⟨B0+1+1+1,0,none⟩=some (.bool false):=(HX4.out.below HF3.out.base HX4.out.lt).cell 0
     have p4:v3.cell? ⟨B0+1+1+1,1,none⟩=some (.slice none 0 0):=(HX4.out.below HF3.out.base HX4.out.lt).cell 1;have p5:v3.cell? ⟨B0+1+1+1,2,none⟩=some (.slice none 0 0):=(HX4.out.below HF3.out.base HX4.out.lt).cell 2;have r0:v3.frozen? ⟨B0+1+1,0,none⟩=false:=(HX3.out.below HF3.out.base HX3.out.lt).free 0;have r1:v3.frozen? ⟨B0+1+1,1,none⟩=false:=(HX3.out.below HF3.out.base HX3.out.lt).free 1;have r2:v3.frozen? ⟨B0+1+1,2,none⟩=false:=(HX3.out.below HF3.out.base HX3.out.lt).free 2;have r3:v3.frozen? ⟨B0+1+1+1,0,none⟩=false:=(HX4.out.below HF3.out.base HX4.out.lt).free 0;have r4:v3.frozen? ⟨B0+1+1+1,1,none⟩=false:=(HX4.out.below HF3.out.base HX4.out.lt).free 1;have r5:v3.frozen? ⟨B0+1+1+1,2,none⟩=false:=(HX4.out.below HF3.out.base HX4.out.lt).free 2
     skip)
   |
    (go_at_call_of 29 (Value.string t.y)
     apply Calls.mono;apply FBag.of (w0:=X) (L:=_) (n:=n) t.y;(first|exact HF3.out|exact HF3.out.drew);exact HZ.out.2.2.2.1;exact HZ.out.2.2.2.2;rintro e v4 ⟨q,hq,ma4,mb4,mc4,rfl,hf⟩;rw[hq.inj HQ.out.2.2.2] at hf;have HF4:=Hi hf;clear hq hf HF3 k0 k1 k2 k3;have k0:=(HSS.out.below HF4.out.base HSS.out.lt).cell 0;have k1:=(HSS.out.below HF4.out.base HSS.out.lt).cell 1;have k2:=(HST.out.below HF4.out.base HST.out.lt).cell 0;have k3:=(HST.out.below HF4.out.base HST.out.lt).cell 1;simp at k0 k1 k2 k3
     skip)
   |
    (go_at_call_of 29 (Value.string s.y)
     apply Calls.mono;apply FBag.of (w0:=X) (L:=_) (n:=n) s.y;(first|exact HF4.out|exact HF4.out.drew);exact HZ.out.2.1;exact HZ.out.2.2.2.2;rintro e v5 ⟨q,hq,ma5,mb5,mc5,rfl,hf⟩;rw[hq.inj HQ.out.2.1] at hf;have HF5:=Hi hf;clear hq hf HF4 k0 k1 k2 k3;have k0:=(HSS.out.below HF5.out.base HSS.out.lt).cell 0;have k1:=(HSS.out.below HF5.out.base HSS.out.lt).cell 1;have k2:=(HST.out.below HF5.out.base HST.out.lt).cell 0;have k3:=(HST.out.below HF5.out.base HST.out.lt).cell 1;simp at k0 k1 k2 k3
     skip)
   |
    (go_at_call_of 115 ma4
     apply Calls.mono;(first|(apply FBag.minus HF5.out)|(apply FBag.minus HF5.out.drew));(focus(repeat(first|exact List.Mem.head _|apply List.Mem.tail)));(focus(repeat(first|exact List.Mem.head _|apply List.Mem.tail)))
     (have:=HZ.out.2.2.2.2;omega)
     rintro e v6 ⟨ma6,mb6,mc6,rfl,hf⟩;obtain⟨ng6,rg6,bg6,dg6,ig6,jg6,lg6,rfl,rfl,rfl⟩:=Qcz (hf.get (List.Mem.head _)).1;have HF6:=Hi hf;clear hf HF5 k0 k1 k2 k3;have k0:=(HSS.out.below HF6.out.base HSS.out.lt).cell 0;have k1:=(HSS.out.below HF6.out.base HSS.out.lt).cell 1;have k2:=(HST.out.below HF6.out.base HST.out.lt).cell 0;have k3:=(HST.out.below HF6.out.base HST.out.lt).cell 1;simp at k0 k1 k2 k3;(try clear p0 p1 p2 p3 p4 p5 r0 r1 r2 r3 r4 r5);have p0:v6.cell? ⟨B0+1+1,0,none⟩=some (.bool false):=(HX3.out.below HF6.out.base HX3.out.lt).cell 0;have p1:v6.cell? ⟨B0+1+1,1,none⟩=some (.slice none 0 0):=(HX3.out.below HF6.out.base HX3.out.lt).cell 1;have p2:v6.cell? ⟨B0+1+1,2,none⟩=some (.slice none 0 0):=(HX3.out.below HF6.out.base HX3.out.lt).cell 2;have p3:v6.cell? ⟨B0+1+1+1,0,none⟩=some (.bool false):=(HX4.out.below HF6.out.base HX4.out.lt).cell 0
     have p4:v6.cell? ⟨B0+1+1+1,1,none⟩=some (.slice none 0 0):=(HX4.out.below HF6.out.base HX4.out.lt).cell 1;have p5:v6.cell? ⟨B0+1+1+1,2,none⟩=some (.slice none 0 0):=(HX4.out.below HF6.out.base HX4.out.lt).cell 2;have r0:v6.frozen? ⟨B0+1+1,0,none⟩=false:=(HX3.out.below HF6.out.base HX3.out.lt).free 0;have r1:v6.frozen? ⟨B0+1+1,1,none⟩=false:=(HX3.out.below HF6.out.base HX3.out.lt).free 1;have r2:v6.frozen? ⟨B0+1+1,2,none⟩=false:=(HX3.out.below HF6.out.base HX3.out.lt).free 2;have r3:v6.frozen? ⟨B0+1+1+1,0,none⟩=false:=(HX4.out.below HF6.out.base HX4.out.lt).free 0;have r4:v6.frozen? ⟨B0+1+1+1,1,none⟩=false:=(HX4.out.below HF6.out.base HX4.out.lt).free 1;have r5:v6.frozen? ⟨B0+1+1+1,2,none⟩=false:=(HX4.out.below HF6.out.base HX4.out.lt).free 2
     skip)
   |fail)
  all_goals
   have HW:=Hi (Qfi (x1:=.bool ng3) (x2:=.slice rg3 bg3 dg3) (x3:=.slice ig3 jg3 lg3) (y1:=.bool ng6) (y2:=.slice rg6 bg6 dg6) (y3:=.slice ig6 jg6 lg6) (HF6.out.from HBX.out HG.out (M:=[⟨.bool ng6,.slice rg6 bg6 dg6,.slice ig6 jg6 lg6,y2 - y1,4*n+1+(4*n+1)+1⟩,⟨.bool ng3,.slice rg3 bg3 dg3,.slice ig3 jg3 lg3,x2 - x1,4*n+1+(4*n+1)+1⟩]) (fun f hf=>by
    simp only[List.mem_cons,List.not_mem_nil,or_false] at hf;rcases hf with rfl|rfl
    · exact⟨_,List.Mem.head _,Nat.le_refl _⟩
    · exact⟨_,List.Mem.tail _ (List.Mem.tail _ (List.Mem.tail _ (List.Mem.head _))),Nat.le_refl _⟩)) (by have:=HB0.out;omega) (by have:=HB0.out;omega) (by omega) (HX3.out.below HF6.out.base HX3.out.lt) (HX4.out.below HF6.out.base HX4.out.lt))
   clear k0 k1 k2 k3 p0 p1 p2 p3 p4 p5 r0 r1 r2 r3 r4 r5 n1 n2 n3 n4 n5 n6 n7 n8 n9 n10;go_wp2;refine bodyPost_ret (v:=.tuple #[_,_]) (Qfg rfl _ _ (B0+2) (B0+3) 62 _ _ (0,0) (0,0) _ rfl HW.out.2.1 rfl HW.out.2.2 Tryz.underlying62 rfl Tryz.fracInfo Tryz.fracInfo) rfl ?_;exact⟨_,_,_,_,_,_,rfl,HW.out.1⟩
 ·
  skip;obtain⟨X,hX⟩:∃X,((V.alloc (.cells #[.string t.x,.string t.y] 36)).alloc (.cells #[.string s.x,.string s.y] 36)).drew=X:=⟨_,rfl⟩;have hbX:Below V.heap.size V X:=by rw[←hX];exact(((Below.refl _ _).alloc (Nat.le_refl _) _).alloc (by simp) _).drew
  have hss:SB X (V.heap.size+1) 36 #[.string s.x,.string s.y]:=by rw[←hX];exact Qcy V _ _ _
  have hst:SB X (V.heap.size) 36 #[.string t.x,.string t.y]:=by rw[←hX];exact((SB.new V _ _).alloc _)
  have HSS:=Hi hss;have HST:=Hi hst;have HBX:Hid (Below w.heap.size w X):=Hi (HBV.out.trans (hbX.mono HBV.out.size));have HF0:Hid (FBag X X []):=Hi (FBag.start (HG.out.below HBX.out));have HX3:=Hi (HS3.out.below hbX HS3.out.lt);have HX4:=Hi (HS4.out.below hbX HS4.out.lt);have k0:=hss.cell 0;have k1:=hss.cell 1;have k2:=hst.cell 0;have k3:=hst.cell 1;simp at k0 k1 k2 k3;clear hbX hss hst f0 f1 f2 u0 u1 u2 u3;have HXE:=Hi hX;clear hX;have hz:=HSZ.out;have n1:V.heap.size≠B0+1+1:=by omega
  have n2:V.heap.size≠B0+1+1+1:=by omega
  have n3:V.heap.size+1≠B0+1+1:=by omega
  have n4:V.heap.size+1≠B0+1+1+1:=by omega
  have n5:=n1.symm;have n6:=n2.symm;have n7:=n3.symm;have n8:=n4.symm;have n9:V.heap.size≠B0+1:=by omega
  have n10:=n9.symm;clear hz;rw[HXE.out];go_wp2_with fail;go_region_held3 (fun v=>v.cell? ⟨V.heap.size+1,0,none⟩=some (.string s.x)∧v.cell? ⟨V.heap.size+1,1,none⟩=some (.string s.y)∧v.cell? ⟨V.heap.size,0,none⟩=some (.string t.x)∧v.cell? ⟨V.heap.size,1,none⟩=some (.string t.y)) ((first|(simp [*];done)|go_keep)) (first
   |
    (go_at_call_of 29 (Value.string t.x)
     apply Calls.mono;apply FBag.of (w0:=X) (L:=[]) (n:=n) t.x;(first|exact HF0.out|exact HF0.out.drew);exact HZ.out.2.2.1;exact HZ.out.2.2.2.2;rintro e v1 ⟨q,hq,ma1,mb1,mc1,rfl,hf⟩;rw[hq.inj HQ.out.2.2.1] at hf;have HF1:=Hi hf;clear hq hf HF0 k0 k1 k2 k3;have k0:=(HSS.out.below HF1.out.base HSS.out.lt).cell 0;have k1:=(HSS.out.below HF1.out.base HSS.out.lt).cell 1;have k2:=(HST.out.below HF1.out.base HST.out.lt).cell 0;have k3:=(HST.out.below HF1.out.base HST.out.lt).cell 1;simp at k0 k1 k2 k3
     skip)
   |
    (go_at_call_of 29 (Value.string s.x)
     apply Calls.mono;apply FBag.of (w0:=X) (L:=_) (n:=n) s.x;(first|exact HF1.out|exact HF1.out.drew);exact HZ.out.1;exact HZ.out.2.2.2.2;rintro e v2 ⟨q,hq,ma2,mb2,mc2,rfl,hf⟩;rw[hq.inj HQ.out.1] at hf;have HF2:=Hi hf;clear hq hf HF1 k0 k1 k2 k3;have k0:=(HSS.out.below HF2.out.base HSS.out.lt).cell 0;have k1:=(HSS.out.below HF2.out.base HSS.out.lt).cell 1;have k2:=(HST.out.below HF2.out.base HST.out.lt).cell 0;have k3:=(HST.out.below HF2.out.base HST.out.lt).cell 1;simp at k0 k1 k2 k3
     skip)
   |
    (go_at_call_of 115 ma1
     apply Calls.mono;(first|(apply FBag.minus HF2.out)|(apply FBag.minus HF2.out.drew));(focus(repeat(first|exact List.Mem.head _|apply List.Mem.tail)));(focus(repeat(first|exact List.Mem.head _|apply List.Mem.tail)))
     (have:=HZ.out.2.2.2.2;omega)
     rintro e v3 ⟨ma3,mb3,mc3,rfl,hf⟩;obtain⟨ng3,rg3,bg3,dg3,ig3,jg3,lg3,rfl,rfl,rfl⟩:=Qcz (hf.get (List.Mem.head _)).1;have HF3:=Hi hf;clear hf HF2 k0 k1 k2 k3;have k0:=(HSS.out.below HF3.out.base HSS.out.lt).cell 0;have k1:=(HSS.out.below HF3.out.base HSS.out.lt).cell 1;have k2:=(HST.out.below HF3.out.base HST.out.lt).cell 0;have k3:=(HST.out.below HF3.out.base HST.out.lt).cell 1;simp at k0 k1 k2 k3;(try clear p0 p1 p2 p3 p4 p5 r0 r1 r2 r3 r4 r5);have p0:v3.cell? ⟨B0+1+1,0,none⟩=some (.bool false):=(HX3.out.below HF3.out.base HX3.out.lt).cell 0;have p1:v3.cell? ⟨B0+1+1,1,none⟩=some (.slice none 0 0):=(HX3.out.below HF3.out.base HX3.out.lt).cell 1;have p2:v3.cell? ⟨B0+1+1,2,none⟩=some (.slice none 0 0):=(HX3.out.below HF3.out.base HX3.out.lt).cell 2;have p3:v3.cell? ⟨B0+1+1+1,0,none⟩=some (.bool false):=(HX4.out.below HF3.out.base HX4.out.lt).cell 0
     have p4:v3.cell? ⟨B0+1+1+1,1,none⟩=some (.slice none 0 0):=(HX4.out.below HF3.out.base HX4.out.lt).cell 1;have p5:v3.cell? ⟨B0+1+1+1,2,none⟩=some (.slice none 0 0):=(HX4.out.below HF3.out.base HX4.out.lt).cell 2;have r0:v3.frozen? ⟨B0+1+1,0,none⟩=false:=(HX3.out.below HF3.out.base HX3.out.lt).free 0;have r1:v3.frozen? ⟨B0+1+1,1,none⟩=false:=(HX3.out.below HF3.out.base HX3.out.lt).free 1;have r2:v3.frozen? ⟨B0+1+1,2,none⟩=false:=(HX3.out.below HF3.out.base HX3.out.lt).free 2;have r3:v3.frozen? ⟨B0+1+1+1,0,none⟩=false:=(HX4.out.below HF3.out.base HX4.out.lt).free 0;have r4:v3.frozen? ⟨B0+1+1+1,1,none⟩=false:=(HX4.out.below HF3.out.base HX4.out.lt).free 1;have r5:v3.frozen? ⟨B0+1+1+1,2,none⟩=false:=(HX4.out.below HF3.out.base HX4.out.lt).free 2
     skip)
   |
    (go_at_call_of 29 (Value.string t.y)
     apply Calls.mono;apply FBag.of (w0:=X) (L:=_) (n:=n) t.y;(first|exact HF3.out|exact HF3.out.drew);exact HZ.out.2.2.2.1;exact HZ.out.2.2.2.2;rintro e v4 ⟨q,hq,ma4,mb4,mc4,rfl,hf⟩;rw[hq.inj HQ.out.2.2.2] at hf;have HF4:=Hi hf;clear hq hf HF3 k0 k1 k2 k3;have k0:=(HSS.out.below HF4.out.base HSS.out.lt).cell 0;have k1:=(HSS.out.below HF4.out.base HSS.out.lt).cell 1;have k2:=(HST.out.below HF4.out.base HST.out.lt).cell 0;have k3:=(HST.out.below HF4.out.base HST.out.lt).cell 1;simp at k0 k1 k2 k3
     skip)
   |
    (go_at_call_of 29 (Value.string s.y)
     apply Calls.mono;apply FBag.of (w0:=X) (L:=_) (n:=n) s.y;(first|exact HF4.out|exact HF4.out.drew);exact HZ.out.2.1;exact HZ.out.2.2.2.2;rintro e v5 ⟨q,hq,ma5,mb5,mc5,rfl,hf⟩;rw[hq.inj HQ.out.2.1] at hf;have HF5:=Hi hf;clear hq hf HF4 k0 k1 k2 k3;have k0:=(HSS.out.below HF5.out.base HSS.out.lt).cell 0;have k1:=(HSS.out.below HF5.out.base HSS.out.lt).cell 1;have k2:=(HST.out.below HF5.out.base HST.out.lt).cell 0;have k3:=(HST.out.below HF5.out.base HST.out.lt).cell 1;simp at k0 k1 k2 k3
     skip)
   |
    (go_at_call_of 115 ma4
     apply Calls.mono;(first|(apply FBag.minus HF5.out)|(apply FBag.minus HF5.out.drew));(focus(repeat(first|exact List.Mem.head _|apply List.Mem.tail)));(focus(repeat(first|exact List.Mem.head _|apply List.Mem.tail)))
     (have:=HZ.out.2.2.2.2;omega)
     rintro e v6 ⟨ma6,mb6,mc6,rfl,hf⟩;obtain⟨ng6,rg6,bg6,dg6,ig6,jg6,lg6,rfl,rfl,rfl⟩:=Qcz (hf.get (List.Mem.head _)).1;have HF6:=Hi hf;clear hf HF5 k0 k1 k2 k3;have k0:=(HSS.out.below HF6.out.base HSS.out.lt).cell 0;have k1:=(HSS.out.below HF6.out.base HSS.out.lt).cell 1;have k2:=(HST.out.below HF6.out.base HST.out.lt).cell 0;have k3:=(HST.out.below HF6.out.base HST.out.lt).cell 1;simp at k0 k1 k2 k3;(try clear p0 p1 p2 p3 p4 p5 r0 r1 r2 r3 r4 r5);have p0:v6.cell? ⟨B0+1+1,0,none⟩=some (.bool false):=(HX3.out.below HF6.out.base HX3.out.lt).cell 0;have p1:v6.cell? ⟨B0+1+1,1,none⟩=some (.slice none 0 0):=(HX3.out.below HF6.out.base HX3.out.lt).cell 1;have p2:v6.cell? ⟨B0+1+1,2,none⟩=some (.slice none 0 0):=(HX3.out.below HF6.out.base HX3.out.lt).cell 2;have p3:v6.cell? ⟨B0+1+1+1,0,none⟩=some (.bool false):=(HX4.out.below HF6.out.base HX4.out.lt).cell 0
     have p4:v6.cell? ⟨B0+1+1+1,1,none⟩=some (.slice none 0 0):=(HX4.out.below HF6.out.base HX4.out.lt).cell 1;have p5:v6.cell? ⟨B0+1+1+1,2,none⟩=some (.slice none 0 0):=(HX4.out.below HF6.out.base HX4.out.lt).cell 2;have r0:v6.frozen? ⟨B0+1+1,0,none⟩=false:=(HX3.out.below HF6.out.base HX3.out.lt).free 0;have r1:v6.frozen? ⟨B0+1+1,1,none⟩=false:=(HX3.out.below HF6.out.base HX3.out.lt).free 1;have r2:v6.frozen? ⟨B0+1+1,2,none⟩=false:=(HX3.out.below HF6.out.base HX3.out.lt).free 2;have r3:v6.frozen? ⟨B0+1+1+1,0,none⟩=false:=(HX4.out.below HF6.out.base HX4.out.lt).free 0;have r4:v6.frozen? ⟨B0+1+1+1,1,none⟩=false:=(HX4.out.below HF6.out.base HX4.out.lt).free 1;have r5:v6.frozen? ⟨B0+1+1+1,2,none⟩=false:=(HX4.out.below HF6.out.base HX4.out.lt).free 2
     skip)
   |fail)
  all_goals
   have HW:=Hi (Qfi (x1:=.bool ng3) (x2:=.slice rg3 bg3 dg3) (x3:=.slice ig3 jg3 lg3) (y1:=.bool ng6) (y2:=.slice rg6 bg6 dg6) (y3:=.slice ig6 jg6 lg6) (HF6.out.from HBX.out HG.out (M:=[⟨.bool ng6,.slice rg6 bg6 dg6,.slice ig6 jg6 lg6,y2 - y1,4*n+1+(4*n+1)+1⟩,⟨.bool ng3,.slice rg3 bg3 dg3,.slice ig3 jg3 lg3,x2 - x1,4*n+1+(4*n+1)+1⟩]) (fun f hf=>by
    simp only[List.mem_cons,List.not_mem_nil,or_false] at hf;rcases hf with rfl|rfl
    · exact⟨_,List.Mem.head _,Nat.le_refl _⟩
    · exact⟨_,List.Mem.tail _ (List.Mem.tail _ (List.Mem.tail _ (List.Mem.head _))),Nat.le_refl _⟩)) (by have:=HB0.out;omega) (by have:=HB0.out;omega) (by omega) (HX3.out.below HF6.out.base HX3.out.lt) (HX4.out.below HF6.out.base HX4.out.lt))
   clear k0 k1 k2 k3 p0 p1 p2 p3 p4 p5 r0 r1 r2 r3 r4 r5 n1 n2 n3 n4 n5 n6 n7 n8 n9 n10;go_wp2;refine bodyPost_ret (v:=.tuple #[_,_]) (Qfg rfl _ _ (B0+2) (B0+3) 62 _ _ (0,0) (0,0) _ rfl HW.out.2.1 rfl HW.out.2.2 Tryz.underlying62 rfl Tryz.fracInfo Tryz.fracInfo) rfl ?_;exact⟨_,_,_,_,_,_,rfl,HW.out.1⟩
end Go.Proofs.YtodfmpjhcmapmaaGreatDoor
