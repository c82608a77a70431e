/- package balance: rows of fractions that lie in blocks of their own. -/
import Derived.Test.YtbbkamnfjejceaaGreatDoorR41OrdersD
namespace Go.Proofs.YtbbkamnfjejceaaGreatDoor
open Go.RowKit
set_option linter.unusedVariables false
set_option linter.unusedSimpArgs false
theorem Qfy{P:Program}{fn:Func}{p u:Tmp}{ty:TypeId}(h:fn.results=#[.cell p ty,.cell u ty])(tmps:Array Value)(w:World)(g g':Nat)(t:TypeId)(cs cs':Array Value)(fr fr':Nat × Nat)(d:TypeDesc)
 (hp:tmps.getD p undef=.pointer (some ⟨g,0,none⟩)) (hg:w.heap[g]?=some (.cells cs t fr)) (hp':tmps.getD u undef=.pointer (some ⟨g',0,none⟩)) (hg':w.heap[g']?=some (.cells cs' t fr'))
 (hu:P.underlying ty=some d) (hd:(match d with| .struct _| .array _ _=>true|_=>false)=true) (hi:(P.info? ty).map (·.size)=some cs.size) (hi':(P.info? ty).map (·.size)=some cs'.size):
 (results fn tmps).run P w=.ok (.tuple #[.agg cs,.agg cs']) w:=by
 have e1:tmps[p]?.getD undef=.pointer (some ⟨g,0,none⟩):=by simpa using hp
 have e2:tmps[u]?.getD undef=.pointer (some ⟨g',0,none⟩):=by simpa using hp'
 simp[results,h,e1,e2,asAddr,run_loadVar_row w g t ty cs fr d hg hu hd hi,run_loadVar_row w g' t ty cs' fr' d hg' hu hd hi']
def WaySays(w:World)(k:Nat)(qx qy:Rat)(e:Ending)(w':World):Prop:=∃x1 x2 x3 y1 y2 y3,e=.returned (.tuple #[.agg #[x1,x2,x3],.agg #[y1,y2,y3]])∧FBag w w' [⟨y1,y2,y3,qy,k⟩,⟨x1,x2,x3,qx,k⟩]
theorem Qax(w:World)(o:Obj)(t:TypeId)(C:Array Value):SB ((w.alloc o).alloc (.cells C t)) (w.heap.size+1) t C:=by
 have h:=SB.new (w.alloc o) t C;rw[World.size_alloc] at h;exact h
theorem Qbn{w:World}{x y z:Value}{q:Rat}(h:FracV w (.agg #[x,y,z]) q):∃neg a n c b m d,x=.bool neg∧y=.slice a n c∧z=.slice b m d:=by
 obtain⟨neg,a,n,c,b,m,d,e,_⟩:=h;simp at e;exact⟨neg,a,n,c,b,m,d,e.1,e.2.1,e.2.2⟩
theorem Qfz:NoU64 #[.bool false,.slice none 0 0,.slice none 0 0]:=Qgo (by simp)
theorem Qf0{w u:World}{g g':Nat}{L:List FE}{x1 x2 x3 y1 y2 y3:Value}(h:FBag w u L)(hg:w.heap.size≤g)(hg':w.heap.size≤g')(hne:g≠g')(s:SB u g 77 #[.bool false,.slice none 0 0,.slice none 0 0])(s':SB u g' 77 #[.bool false,.slice none 0 0,.slice none 0 0]):
 FBag w ((((((u.setCell ⟨g,0,none⟩ x1).setCell ⟨g,1,none⟩ x2).setCell ⟨g,2,none⟩ x3).setCell ⟨g',0,none⟩ y1).setCell ⟨g',1,none⟩ y2).setCell ⟨g',2,none⟩ y3) L∧SB ((((((u.setCell ⟨g,0,none⟩ x1).setCell ⟨g,1,none⟩ x2).setCell ⟨g,2,none⟩ x3).setCell ⟨g',0,none⟩ y1).setCell ⟨g',1,none⟩ y2).setCell ⟨g',2,none⟩ y3) g 77 #[x1,x2,x3]∧SB ((((((u.setCell ⟨g,0,none⟩ x1).setCell ⟨g,1,none⟩ x2).setCell ⟨g,2,none⟩ x3).setCell ⟨g',0,none⟩ y1).setCell ⟨g',1,none⟩ y2).setCell ⟨g',2,none⟩ y3) g' 77 #[y1,y2,y3]:=by
 have h1:=h.only ((((Only.refl g u).setCell 0 x1).setCell 1 x2).setCell 2 x3) s Qfz hg;have t1:=((s.set 0 x1).set 1 x2).set 2 x3;have t2:=((s'.other hne.symm 0 x1).other hne.symm 1 x2).other hne.symm 2 x3;have h2:=h1.only ((((Only.refl g' _).setCell 0 y1).setCell 1 y2).setCell 2 y3) t2 Qfz hg';refine⟨h2,?_,?_⟩
 · have:=((t1.other hne 0 y1).other hne 1 y2).other hne 2 y3
   simpa using this
 · have:=((t2.set 0 y1).set 1 y2).set 2 y3
   simpa using this
set_option maxRecDepth 100000 in
set_option maxHeartbeats 4000000 in
theorem Qjp(a1 a2 a3:Option Addr)(c1 c2 c3 nb nh A B n:Nat)(js:List S2)(b:B6)(s t:S2)(w:World)(hg:Glob w)(hj:ARow S2.cells w a1 c1 js)(hA:b.a=(A:Nat))(hB:b.b=(B:Nat))(hs:js[A]?=some s)(ht:js[B]?=some t)
 (hl:js.length≤10) (z1:s.x.size≤n) (z2:s.y.size≤n) (z3:t.x.size≤n) (z4:t.y.size≤n) (hn:n≤1073741824) {x1 y1 x2 y2:Rat} (q1:QOf s.x.data.toList x1) (q2:QOf s.y.data.toList y1) (q3:QOf t.x.data.toList x2) (q4:QOf t.y.data.toList y2):
 Calls Tryz.prog 134 #[.agg #[.slice a1 js.length c1,.slice a2 nb c2,.slice a3 nh c3],.agg #[.int .i64 b.a,.int .i64 b.b,.string b.c,.string b.e,.string b.l,.string b.m]] w (WaySays w (4*n+1+(4*n+1)+1) (x2 - x1) (y2 - y1)):=by
 have HG:=Hi hg;have HJ:=Hi hj;have hAl:=(List.getElem?_eq_some_iff.1 hs).1;have hBl:=(List.getElem?_eq_some_iff.1 ht).1;have HS:=Hi hs;have HT:=Hi ht;rw[hA,hB];have HZ:=Hi (⟨z1,z2,z3,z4,hn⟩:s.x.size≤n∧s.y.size≤n∧t.x.size≤n∧t.y.size≤n∧n≤1073741824);have HQ:=Hi (⟨q1,q2,q3,q4⟩:QOf s.x.data.toList x1∧QOf s.y.data.toList y1∧QOf t.x.data.toList x2∧QOf t.y.data.toList y2);have iA:((A:Int)<(js.length:Int)):=by omega
 have iB:((B:Int)<(js.length:Int)):=by omega
 clear hg hj hs ht z1 z2 z3 z4 hn q1 q2 q3 q4 hA hB;go_enter Tryz.func134,Tryz.ntmps134;obtain⟨B0,hB0⟩:∃B0,w.heap.size=B0:=⟨_,rfl⟩;obtain⟨V,hV⟩:∃V,(((w.alloc (.cells #[.slice a1 js.length c1,.slice a2 nb c2,.slice a3 nh c3] 54)).alloc (.cells #[.int .i64 (A:Nat),.int .i64 (B:Nat),.string b.c,.string b.e,.string b.l,.string b.m] 68)).alloc (.cells #[.bool false,.slice none 0 0,.slice none 0 0] 77)).alloc (.cells #[.bool false,.slice none 0 0,.slice none 0 0] 77)=V:=⟨_,rfl⟩;have hbV:Below w.heap.size w V:=by
  rw[←hV];exact((((Below.refl _ _).alloc (Nat.le_refl _) _).alloc (by simp) _).alloc (by simp;omega) _).alloc (by simp;omega) _
 have hszV:V.heap.size=B0+4:=by rw[←hV,←hB0];simp
 have s1:SB V B0 54 #[.slice a1 js.length c1,.slice a2 nb c2,.slice a3 nh c3]:=by
  rw[←hV,←hB0];exact(((SB.new w _ _).alloc _).alloc _).alloc _
 have s2:SB V (B0+1) 68 #[.int .i64 (A:Nat),.int .i64 (B:Nat),.string b.c,.string b.e,.string b.l,.string b.m]:=by
  have h:=SB.new (w.alloc (.cells #[.slice a1 js.length c1,.slice a2 nb c2,.slice a3 nh c3] 54)) 68 #[.int .i64 (A:Nat),.int .i64 (B:Nat),.string b.c,.string b.e,.string b.l,.string b.m];rw[World.size_alloc,hB0] at h;rw[←hV];exact(h.alloc _).alloc _
 have s3:SB V (B0+2) 77 #[.bool false,.slice none 0 0,.slice none 0 0]:=by
  have h:=SB.new ((w.alloc (.cells #[.slice a1 js.length c1,.slice a2 nb c2,.slice a3 nh c3] 54)).alloc (.cells #[.int .i64 (A:Nat),.int .i64 (B:Nat),.string b.c,.string b.e,.string b.l,.string b.m] 68)) 77 #[.bool false,.slice none 0 0,.slice none 0 0];rw[World.size_alloc,World.size_alloc,hB0] at h;rw[←hV];exact h.alloc _
 have s4:SB V (B0+3) 77 #[.bool false,.slice none 0 0,.slice none 0 0]:=by
  have h:=SB.new (((w.alloc (.cells #[.slice a1 js.length c1,.slice a2 nb c2,.slice a3 nh c3] 54)).alloc (.cells #[.int .i64 (A:Nat),.int .i64 (B:Nat),.string b.c,.string b.e,.string b.l,.string b.m] 68)).alloc (.cells #[.bool false,.slice none 0 0,.slice none 0 0] 77)) 77 #[.bool false,.slice none 0 0,.slice none 0 0];rw[World.size_alloc,World.size_alloc,World.size_alloc,hB0] at h;rw[←hV];exact h
 obtain⟨jb,jo,rfl,hjb,u0,u1⟩:=(HJ.out.below hbV).spot HS.out;obtain⟨jb',jo',e',_,u2,u3⟩:=(HJ.out.below hbV).spot HT.out;cases e';have f0:=s1.cell 0;have f1:=s2.cell 0;have f2:=s2.cell 1;simp at f0 f1 f2;have HBV:=Hi hbV;have HV:=Hi hV;have HB0:=Hi hB0;have HSZ:=Hi hszV;have HS3:=Hi s3;have HS4:=Hi s4;clear hbV hszV s1 s2 s3 s4 hV hB0;go_wp2_with fail;simp only[HB0.out];rw[HV.out];go_region_held3 (fun v=>v.cell? ⟨B0,0,none⟩=some (.slice (some ⟨jb,jo,none⟩) js.length c1)∧v.cell? ⟨B0+1,0,none⟩=some (.int .i64 (A:Nat))∧v.cell? ⟨B0+1,1,none⟩=some (.int .i64 (B:Nat))∧v.cell? ⟨jb,jo+A*2,none⟩=some (.string s.x)∧v.cell? ⟨jb,jo+A*2+1,none⟩=some (.string s.y)∧v.cell? ⟨jb,jo+B*2,none⟩=some (.string t.x)∧v.cell? ⟨jb,jo+B*2+1,none⟩=some (.string t.y)) ((first|(simp [*];done)|go_keep)) (fail)
 ·
  skip;obtain⟨X,hX⟩:∃X,((V.alloc (.cells #[.string s.x,.string s.y] 25)).alloc (.cells #[.string t.x,.string t.y] 25)).drew=X:=⟨_,rfl⟩;have hbX:Below V.heap.size V X:=by rw[←hX];exact(((Below.refl _ _).alloc (Nat.le_refl _) _).alloc (by simp) _).drew
  have hss:SB X (V.heap.size) 25 #[.string s.x,.string s.y]:=by rw[←hX];exact((SB.new V _ _).alloc _)
  have hst:SB X (V.heap.size+1) 25 #[.string t.x,.string t.y]:=by rw[←hX];exact Qax V _ _ _
  have HSS:=Hi hss;have HST:=Hi hst;have HBX:Hid (Below w.heap.size w X):=Hi (HBV.out.trans (hbX.mono HBV.out.size));have HF0:Hid (FBag X X []):=Hi (FBag.start (HG.out.below HBX.out));have HX3:=Hi (HS3.out.below hbX HS3.out.lt);have HX4:=Hi (HS4.out.below hbX HS4.out.lt);have k0:=hss.cell 0;have k1:=hss.cell 1;have k2:=hst.cell 0;have k3:=hst.cell 1;simp at k0 k1 k2 k3;clear hbX hss hst f0 f1 f2 u0 u1 u2 u3;have HXE:=Hi hX;clear hX;have hz:=HSZ.out;have n1:V.heap.size≠B0+1+1:=by omega
  have n2:V.heap.size≠B0+1+1+1:=by omega
  have n3:V.heap.size+1≠B0+1+1:=by omega
  have n4:V.heap.size+1≠B0+1+1+1:=by omega
  have n5:=n1.symm;have n6:=n2.symm;have n7:=n3.symm;have n8:=n4.symm;have n9:V.heap.size≠B0+1:=by omega
  have n10:=n9.symm;clear hz;rw[HXE.out];go_wp2_with fail;go_region_held3 (fun v=>v.cell? ⟨V.heap.size,0,none⟩=some (.string s.x)∧v.cell? ⟨V.heap.size,1,none⟩=some (.string s.y)∧v.cell? ⟨V.heap.size+1,0,none⟩=some (.string t.x)∧v.cell? ⟨V.heap.size+1,1,none⟩=some (.string t.y)) ((first|(simp [*];done)|go_keep)) (first
   |
    (go_at_call_of 85 (Value.string t.x)
     apply Calls.mono;apply FBag.of (w0:=X) (L:=[]) (n:=n) t.x;(first|exact HF0.out|exact HF0.out.drew);exact HZ.out.2.2.1;exact HZ.out.2.2.2.2;rintro e v1 ⟨q,hq,ma1,mb1,mc1,rfl,hf⟩;rw[hq.inj HQ.out.2.2.1] at hf;have HF1:=Hi hf;clear hq hf HF0 k0 k1 k2 k3;have k0:=(HSS.out.below HF1.out.base HSS.out.lt).cell 0;have k1:=(HSS.out.below HF1.out.base HSS.out.lt).cell 1;have k2:=(HST.out.below HF1.out.base HST.out.lt).cell 0;have k3:=(HST.out.below HF1.out.base HST.out.lt).cell 1;simp at k0 k1 k2 k3
     skip)
   |
    (go_at_call_of 85 (Value.string s.x)
     apply Calls.mono;apply FBag.of (w0:=X) (L:=_) (n:=n) s.x;(first|exact HF1.out|exact HF1.out.drew);exact HZ.out.1;exact HZ.out.2.2.2.2;rintro e v2 ⟨q,hq,ma2,mb2,mc2,rfl,hf⟩;rw[hq.inj HQ.out.1] at hf;have HF2:=Hi hf;clear hq hf HF1 k0 k1 k2 k3;have k0:=(HSS.out.below HF2.out.base HSS.out.lt).cell 0;have k1:=(HSS.out.below HF2.out.base HSS.out.lt).cell 1;have k2:=(HST.out.below HF2.out.base HST.out.lt).cell 0;have k3:=(HST.out.below HF2.out.base HST.out.lt).cell 1;simp at k0 k1 k2 k3
     skip)
   |
    (go_at_call_of 148 ma1
     apply Calls.mono;(first|(apply FBag.minus HF2.out)|(apply FBag.minus HF2.out.drew));(focus(repeat(first|exact List.Mem.head _|apply List.Mem.tail)));(focus(repeat(first|exact List.Mem.head _|apply List.Mem.tail)))
     (have:=HZ.out.2.2.2.2;omega)
     rintro e v3 ⟨ma3,mb3,mc3,rfl,hf⟩;obtain⟨ng3,rg3,bg3,dg3,ig3,jg3,lg3,rfl,rfl,rfl⟩:=Qbn (hf.get (List.Mem.head _)).1;have HF3:=Hi hf;clear hf HF2 k0 k1 k2 k3;have k0:=(HSS.out.below HF3.out.base HSS.out.lt).cell 0;have k1:=(HSS.out.below HF3.out.base HSS.out.lt).cell 1;have k2:=(HST.out.below HF3.out.base HST.out.lt).cell 0;have k3:=(HST.out.below HF3.out.base HST.out.lt).cell 1;simp at k0 k1 k2 k3;(try clear p0 p1 p2 p3 p4 p5 r0 r1 r2 r3 r4 r5);have p0:v3.cell? ⟨B0+1+1,0,none⟩=some (.bool false):=(HX3.out.below HF3.out.base HX3.out.lt).cell 0;have p1:v3.cell? ⟨B0+1+1,1,none⟩=some (.slice none 0 0):=(HX3.out.below HF3.out.base HX3.out.lt).cell 1;have p2:v3.cell? ⟨B0+1+1,2,none⟩=some (.slice none 0 0):=(HX3.out.below HF3.out.base HX3.out.lt).cell 2;have p3:v3.cell? ⟨B0+1+1+1,0,none⟩=some (.bool false):=(HX4.out.below HF3.out.base HX4.out.lt).cell 0
     have p4:v3.cell? ⟨B0+1+1+1,1,none⟩=some (.slice none 0 0):=(HX4.out.below HF3.out.base HX4.out.lt).cell 1;have p5:v3.cell? ⟨B0+1+1+1,2,none⟩=some (.slice none 0 0):=(HX4.out.below HF3.out.base HX4.out.lt).cell 2;have r0:v3.frozen? ⟨B0+1+1,0,none⟩=false:=(HX3.out.below HF3.out.base HX3.out.lt).free 0;have r1:v3.frozen? ⟨B0+1+1,1,none⟩=false:=(HX3.out.below HF3.out.base HX3.out.lt).free 1;have r2:v3.frozen? ⟨B0+1+1,2,none⟩=false:=(HX3.out.below HF3.out.base HX3.out.lt).free 2;have r3:v3.frozen? ⟨B0+1+1+1,0,none⟩=false:=(HX4.out.below HF3.out.base HX4.out.lt).free 0;have r4:v3.frozen? ⟨B0+1+1+1,1,none⟩=false:=(HX4.out.below HF3.out.base HX4.out.lt).free 1;have r5:v3.frozen? ⟨B0+1+1+1,2,none⟩=false:=(HX4.out.below HF3.out.base HX4.out.lt).free 2
     skip)
   |
    (go_at_call_of 85 (Value.string t.y)
     apply Calls.mono;apply FBag.of (w0:=X) (L:=_) (n:=n) t.y;(first|exact HF3.out|exact HF3.out.drew);exact HZ.out.2.2.2.1;exact HZ.out.2.2.2.2;rintro e v4 ⟨q,hq,ma4,mb4,mc4,rfl,hf⟩;rw[hq.inj HQ.out.2.2.2] at hf;have HF4:=Hi hf;clear hq hf HF3 k0 k1 k2 k3;have k0:=(HSS.out.below HF4.out.base HSS.out.lt).cell 0;have k1:=(HSS.out.below HF4.out.base HSS.out.lt).cell 1;have k2:=(HST.out.below HF4.out.base HST.out.lt).cell 0;have k3:=(HST.out.below HF4.out.base HST.out.lt).cell 1;simp at k0 k1 k2 k3
     skip)
   |
    (go_at_call_of 85 (Value.string s.y)
     apply Calls.mono;apply FBag.of (w0:=X) (L:=_) (n:=n) s.y;(first|exact HF4.out|exact HF4.out.drew);exact HZ.out.2.1;exact HZ.out.2.2.2.2;rintro e v5 ⟨q,hq,ma5,mb5,mc5,rfl,hf⟩;rw[hq.inj HQ.out.2.1] at hf;have HF5:=Hi hf;clear hq hf HF4 k0 k1 k2 k3;have k0:=(HSS.out.below HF5.out.base HSS.out.lt).cell 0;have k1:=(HSS.out.below HF5.out.base HSS.out.lt).cell 1;have k2:=(HST.out.below HF5.out.base HST.out.lt).cell 0;have k3:=(HST.out.below HF5.out.base HST.out.lt).cell 1;simp at k0 k1 k2 k3
     skip)
   |
    (go_at_call_of 148 ma4
     apply Calls.mono;(first|(apply FBag.minus HF5.out)|(apply FBag.minus HF5.out.drew));(focus(repeat(first|exact List.Mem.head _|apply List.Mem.tail)));(focus(repeat(first|exact List.Mem.head _|apply List.Mem.tail)))
     (have:=HZ.out.2.2.2.2;omega)
     rintro e v6 ⟨ma6,mb6,mc6,rfl,hf⟩;obtain⟨ng6,rg6,bg6,dg6,ig6,jg6,lg6,rfl,rfl,rfl⟩:=Qbn (hf.get (List.Mem.head _)).1;have HF6:=Hi hf;clear hf HF5 k0 k1 k2 k3;have k0:=(HSS.out.below HF6.out.base HSS.out.lt).cell 0;have k1:=(HSS.out.below HF6.out.base HSS.out.lt).cell 1;have k2:=(HST.out.below HF6.out.base HST.out.lt).cell 0;have k3:=(HST.out.below HF6.out.base HST.out.lt).cell 1;simp at k0 k1 k2 k3;(try clear p0 p1 p2 p3 p4 p5 r0 r1 r2 r3 r4 r5);have p0:v6.cell? ⟨B0+1+1,0,none⟩=some (.bool false):=(HX3.out.below HF6.out.base HX3.out.lt).cell 0;have p1:v6.cell? ⟨B0+1+1,1,none⟩=some (.slice none 0 0):=(HX3.out.below HF6.out.base HX3.out.lt).cell 1;have p2:v6.cell? ⟨B0+1+1,2,none⟩=some (.slice none 0 0):=(HX3.out.below HF6.out.base HX3.out.lt).cell 2;have p3:v6.cell? ⟨B0+1+1+1,0,none⟩=some (.bool false):=(HX4.out.below HF6.out.base HX4.out.lt).cell 0
     have p4:v6.cell? ⟨B0+1+1+1,1,none⟩=some (.slice none 0 0):=(HX4.out.below HF6.out.base HX4.out.lt).cell 1;have p5:v6.cell? ⟨B0+1+1+1,2,none⟩=some (.slice none 0 0):=(HX4.out.below HF6.out.base HX4.out.lt).cell 2;have r0:v6.frozen? ⟨B0+1+1,0,none⟩=false:=(HX3.out.below HF6.out.base HX3.out.lt).free 0;have r1:v6.frozen? ⟨B0+1+1,1,none⟩=false:=(HX3.out.below HF6.out.base HX3.out.lt).free 1;have r2:v6.frozen? ⟨B0+1+1,2,none⟩=false:=(HX3.out.below HF6.out.base HX3.out.lt).free 2;have r3:v6.frozen? ⟨B0+1+1+1,0,none⟩=false:=(HX4.out.below HF6.out.base HX4.out.lt).free 0;have r4:v6.frozen? ⟨B0+1+1+1,1,none⟩=false:=(HX4.out.below HF6.out.base HX4.out.lt).free 1;have r5:v6.frozen? ⟨B0+1+1+1,2,none⟩=false:=(HX4.out.below HF6.out.base HX4.out.lt).free 2
     skip)
   |fail)
  all_goals
   have HW:=Hi (Qf0 (x1:=.bool ng3) (x2:=.slice rg3 bg3 dg3) (x3:=.slice ig3 jg3 lg3) (y1:=.bool ng6) (y2:=.slice rg6 bg6 dg6) (y3:=.slice ig6 jg6 lg6) (HF6.out.from HBX.out HG.out (M:=[⟨.bool ng6,.slice rg6 bg6 dg6,.slice ig6 jg6 lg6,y2 - y1,4*n+1+(4*n+1)+1⟩,⟨.bool ng3,.slice rg3 bg3 dg3,.slice ig3 jg3 lg3,x2 - x1,4*n+1+(4*n+1)+1⟩]) (fun f hf=>by
    simp only[List.mem_cons,List.not_mem_nil,or_false] at hf;rcases hf with rfl|rfl
    · exact⟨_,List.Mem.head _,Nat.le_refl _⟩
    · exact⟨_,List.Mem.tail _ (List.Mem.tail _ (List.Mem.tail _ (List.Mem.head _))),Nat.le_refl _⟩)) (by have:=HB0.out;omega) (by have:=HB0.out;omega) (by omega) (HX3.out.below HF6.out.base HX3.out.lt) (HX4.out.below HF6.out.base HX4.out.lt))
   clear k0 k1 k2 k3 p0 p1 p2 p3 p4 p5 r0 r1 r2 r3 r4 r5 n1 n2 n3 n4 n5 n6 n7 n8 n9 n10;go_wp2;refine bodyPost_ret (v:=.tuple #[_,_]) (Qfy rfl _ _ (B0+2) (B0+3) 77 _ _ (0,0) (0,0) _ rfl HW.out.2.1 rfl HW.out.2.2 Tryz.underlying77 rfl Tryz.fracInfo Tryz.fracInfo) rfl ?_;exact⟨_,_,_,_,_,_,rfl,HW.out.1⟩
 ·
  skip;obtain⟨X,hX⟩:∃X,((V.alloc (.cells #[.string t.x,.string t.y] 25)).alloc (.cells #[.string s.x,.string s.y] 25)).drew=X:=⟨_,rfl⟩;have hbX:Below V.heap.size V X:=by rw[←hX];exact(((Below.refl _ _).alloc (Nat.le_refl _) _).alloc (by simp) _).drew
  have hss:SB X (V.heap.size+1) 25 #[.string s.x,.string s.y]:=by rw[←hX];exact Qax V _ _ _
  have hst:SB X (V.heap.size) 25 #[.string t.x,.string t.y]:=by rw[←hX];exact((SB.new V _ _).alloc _)
  have HSS:=Hi hss;have HST:=Hi hst;have HBX:Hid (Below w.heap.size w X):=Hi (HBV.out.trans (hbX.mono HBV.out.size));have HF0:Hid (FBag X X []):=Hi (FBag.start (HG.out.below HBX.out));have HX3:=Hi (HS3.out.below hbX HS3.out.lt);have HX4:=Hi (HS4.out.below hbX HS4.out.lt);have k0:=hss.cell 0;have k1:=hss.cell 1;have k2:=hst.cell 0;have k3:=hst.cell 1;simp at k0 k1 k2 k3;clear hbX hss hst f0 f1 f2 u0 u1 u2 u3;have HXE:=Hi hX;clear hX;have hz:=HSZ.out;have n1:V.heap.size≠B0+1+1:=by omega
  have n2:V.heap.size≠B0+1+1+1:=by omega
  have n3:V.heap.size+1≠B0+1+1:=by omega
  have n4:V.heap.size+1≠B0+1+1+1:=by omega
  have n5:=n1.symm;have n6:=n2.symm;have n7:=n3.symm;have n8:=n4.symm;have n9:V.heap.size≠B0+1:=by omega
  have n10:=n9.symm;clear hz;rw[HXE.out];go_wp2_with fail;go_region_held3 (fun v=>v.cell? ⟨V.heap.size+1,0,none⟩=some (.string s.x)∧v.cell? ⟨V.heap.size+1,1,none⟩=some (.string s.y)∧v.cell? ⟨V.heap.size,0,none⟩=some (.string t.x)∧v.cell? ⟨V.heap.size,1,none⟩=some (.string t.y)) ((first|(simp [*];done)|go_keep)) (first
   |
    (go_at_call_of 85 (Value.string t.x)
     apply Calls.mono;apply FBag.of (w0:=X) (L:=[]) (n:=n) t.x;(first|exact HF0.out|exact HF0.out.drew);exact HZ.out.2.2.1;exact HZ.out.2.2.2.2;rintro e v1 ⟨q,hq,ma1,mb1,mc1,rfl,hf⟩;rw[hq.inj HQ.out.2.2.1] at hf;have HF1:=Hi hf;clear hq hf HF0 k0 k1 k2 k3;have k0:=(HSS.out.below HF1.out.base HSS.out.lt).cell 0;have k1:=(HSS.out.below HF1.out.base HSS.out.lt).cell 1;have k2:=(HST.out.below HF1.out.base HST.out.lt).cell 0;have k3:=(HST.out.below HF1.out.base HST.out.lt).cell 1;simp at k0 k1 k2 k3
     skip)
   |
    (go_at_call_of 85 (Value.string s.x)
     apply Calls.mono;apply FBag.of (w0:=X) (L:=_) (n:=n) s.x;(first|exact HF1.out|exact HF1.out.drew);exact HZ.out.1;exact HZ.out.2.2.2.2;rintro e v2 ⟨q,hq,ma2,mb2,mc2,rfl,hf⟩;rw[hq.inj HQ.out.1] at hf;have HF2:=Hi hf;clear hq hf HF1 k0 k1 k2 k3;have k0:=(HSS.out.below HF2.out.base HSS.out.lt).cell 0;have k1:=(HSS.out.below HF2.out.base HSS.out.lt).cell 1;have k2:=(HST.out.below HF2.out.base HST.out.lt).cell 0;have k3:=(HST.out.below HF2.out.base HST.out.lt).cell 1;simp at k0 k1 k2 k3
     skip)
   |
    (go_at_call_of 148 ma1
     apply Calls.mono;(first|(apply FBag.minus HF2.out)|(apply FBag.minus HF2.out.drew));(focus(repeat(first|exact List.Mem.head _|apply List.Mem.tail)));(focus(repeat(first|exact List.Mem.head _|apply List.Mem.tail)))
     (have:=HZ.out.2.2.2.2;omega)
     rintro e v3 ⟨ma3,mb3,mc3,rfl,hf⟩;obtain⟨ng3,rg3,bg3,dg3,ig3,jg3,lg3,rfl,rfl,rfl⟩:=Qbn (hf.get (List.Mem.head _)).1;have HF3:=Hi hf;clear hf HF2 k0 k1 k2 k3;have k0:=(HSS.out.below HF3.out.base HSS.out.lt).cell 0;have k1:=(HSS.out.below HF3.out.base HSS.out.lt).cell 1;have k2:=(HST.out.below HF3.out.base HST.out.lt).cell 0;have k3:=(HST.out.below HF3.out.base HST.out.lt).cell 1;simp at k0 k1 k2 k3;(try clear p0 p1 p2 p3 p4 p5 r0 r1 r2 r3 r4 r5);have p0:v3.cell? ⟨B0+1+1,0,none⟩=some (.bool false):=(HX3.out.below HF3.out.base HX3.out.lt).cell 0;have p1:v3.cell? ⟨B0+1+1,1,none⟩=some (.slice none 0 0):=(HX3.out.below HF3.out.base HX3.out.lt).cell 1;have p2:v3.cell? ⟨B0+1+1,2,none⟩=some (.slice none 0 0):=(HX3.out.below HF3.out.base HX3.out.lt).cell 2;have p3:v3.cell? ⟨B0+1+1+1,0,none⟩=some (.bool false):=(HX4.out.below HF3.out.base HX4.out.lt).cell 0
     have p4:v3.cell? ⟨B0+1+1+1,1,none⟩=some (.slice none 0 0):=(HX4.out.below HF3.out.base HX4.out.lt).cell 1;have p5:v3.cell? ⟨B0+1+1+1,2,none⟩=some (.slice none 0 0):=(HX4.out.below HF3.out.base HX4.out.lt).cell 2;have r0:v3.frozen? ⟨B0+1+1,0,none⟩=false:=(HX3.out.below HF3.out.base HX3.out.lt).free 0;have r1:v3.frozen? ⟨B0+1+1,1,none⟩=false:=(HX3.out.below HF3.out.base HX3.out.lt).free 1;have r2:v3.frozen? ⟨B0+1+1,2,none⟩=false:=(HX3.out.below HF3.out.base HX3.out.lt).free 2;have r3:v3.frozen? ⟨B0+1+1+1,0,none⟩=false:=(HX4.out.below HF3.out.base HX4.out.lt).free 0;have r4:v3.frozen? ⟨B0+1+1+1,1,none⟩=false:=(HX4.out.below HF3.out.base HX4.out.lt).free 1;have r5:v3.frozen? ⟨B0+1+1+1,2,none⟩=false:=(HX4.out.below HF3.out.base HX4.out.lt).free 2
     skip)
   |
    (go_at_call_of 85 (Value.string t.y)
     apply Calls.mono;apply FBag.of (w0:=X) (L:=_) (n:=n) t.y;(first|exact HF3.out|exact HF3.out.drew);exact HZ.out.2.2.2.1;exact HZ.out.2.2.2.2;rintro e v4 ⟨q,hq,ma4,mb4,mc4,rfl,hf⟩;rw[hq.inj HQ.out.2.2.2] at hf;have HF4:=Hi hf;clear hq hf HF3 k0 k1 k2 k3;have k0:=(HSS.out.below HF4.out.base HSS.out.lt).cell 0;have k1:=(HSS.out.below HF4.out.base HSS.out.lt).cell 1;have k2:=(HST.out.below HF4.out.base HST.out.lt).cell 0;have k3:=(HST.out.below HF4.out.base HST.out.lt).cell 1;simp at k0 k1 k2 k3
     skip)
   |
    (go_at_call_of 85 (Value.string s.y)
     apply Calls.mono;apply FBag.of (w0:=X) (L:=_) (n:=n) s.y;(first|exact HF4.out|exact HF4.out.drew);exact HZ.out.2.1;exact HZ.out.2.2.2.2;rintro e v5 ⟨q,hq,ma5,mb5,mc5,rfl,hf⟩;rw[hq.inj HQ.out.2.1] at hf;have HF5:=Hi hf;clear hq hf HF4 k0 k1 k2 k3;have k0:=(HSS.out.below HF5.out.base HSS.out.lt).cell 0;have k1:=(HSS.out.below HF5.out.base HSS.out.lt).cell 1;have k2:=(HST.out.below HF5.out.base HST.out.lt).cell 0;have k3:=(HST.out.below HF5.out.base HST.out.lt).cell 1;simp at k0 k1 k2 k3
     skip)
   |
    (go_at_call_of 148 ma4
     apply Calls.mono;(first|(apply FBag.minus HF5.out)|(apply FBag.minus HF5.out.drew));(focus(repeat(first|exact List.Mem.head _|apply List.Mem.tail)));(focus(repeat(first|exact List.Mem.head _|apply List.Mem.tail)))
     (have:=HZ.out.2.2.2.2;omega)
     rintro e v6 ⟨ma6,mb6,mc6,rfl,hf⟩;obtain⟨ng6,rg6,bg6,dg6,ig6,jg6,lg6,rfl,rfl,rfl⟩:=Qbn (hf.get (List.Mem.head _)).1;have HF6:=Hi hf;clear hf HF5 k0 k1 k2 k3;have k0:=(HSS.out.below HF6.out.base HSS.out.lt).cell 0;have k1:=(HSS.out.below HF6.out.base HSS.out.lt).cell 1;have k2:=(HST.out.below HF6.out.base HST.out.lt).cell 0;have k3:=(HST.out.below HF6.out.base HST.out.lt).cell 1;simp at k0 k1 k2 k3;(try clear p0 p1 p2 p3 p4 p5 r0 r1 r2 r3 r4 r5);have p0:v6.cell? ⟨B0+1+1,0,none⟩=some (.bool false):=(HX3.out.below HF6.out.base HX3.out.lt).cell 0;have p1:v6.cell? ⟨B0+1+1,1,none⟩=some (.slice none 0 0):=(HX3.out.below HF6.out.base HX3.out.lt).cell 1;have p2:v6.cell? ⟨B0+1+1,2,none⟩=some (.slice none 0 0):=(HX3.out.below HF6.out.base HX3.out.lt).cell 2;have p3:v6.cell? ⟨B0+1+1+1,0,none⟩=some (.bool false):=(HX4.out.below HF6.out.base HX4.out.lt).cell 0
     have p4:v6.cell? ⟨B0+1+1+1,1,none⟩=some (.slice none 0 0):=(HX4.out.below HF6.out.base HX4.out.lt).cell 1;have p5:v6.cell? ⟨B0+1+1+1,2,none⟩=some (.slice none 0 0):=(HX4.out.below HF6.out.base HX4.out.lt).cell 2;have r0:v6.frozen? ⟨B0+1+1,0,none⟩=false:=(HX3.out.below HF6.out.base HX3.out.lt).free 0;have r1:v6.frozen? ⟨B0+1+1,1,none⟩=false:=(HX3.out.below HF6.out.base HX3.out.lt).free 1;have r2:v6.frozen? ⟨B0+1+1,2,none⟩=false:=(HX3.out.below HF6.out.base HX3.out.lt).free 2;have r3:v6.frozen? ⟨B0+1+1+1,0,none⟩=false:=(HX4.out.below HF6.out.base HX4.out.lt).free 0;have r4:v6.frozen? ⟨B0+1+1+1,1,none⟩=false:=(HX4.out.below HF6.out.base HX4.out.lt).free 1;have r5:v6.frozen? ⟨B0+1+1+1,2,none⟩=false:=(HX4.out.below HF6.out.base HX4.out.lt).free 2
     skip)
   |fail)
  all_goals
   have HW:=Hi (Qf0 (x1:=.bool ng3) (x2:=.slice rg3 bg3 dg3) (x3:=.slice ig3 jg3 lg3) (y1:=.bool ng6) (y2:=.slice rg6 bg6 dg6) (y3:=.slice ig6 jg6 lg6) (HF6.out.from HBX.out HG.out (M:=[⟨.bool ng6,.slice rg6 bg6 dg6,.slice ig6 jg6 lg6,y2 - y1,4*n+1+(4*n+1)+1⟩,⟨.bool ng3,.slice rg3 bg3 dg3,.slice ig3 jg3 lg3,x2 - x1,4*n+1+(4*n+1)+1⟩]) (fun f hf=>by
    simp only[List.mem_cons,List.not_mem_nil,or_false] at hf;rcases hf with rfl|rfl
    · exact⟨_,List.Mem.head _,Nat.le_refl _⟩
    · exact⟨_,List.Mem.tail _ (List.Mem.tail _ (List.Mem.tail _ (List.Mem.head _))),Nat.le_refl _⟩)) (by have:=HB0.out;omega) (by have:=HB0.out;omega) (by omega) (HX3.out.below HF6.out.base HX3.out.lt) (HX4.out.below HF6.out.base HX4.out.lt))
   clear k0 k1 k2 k3 p0 p1 p2 p3 p4 p5 r0 r1 r2 r3 r4 r5 n1 n2 n3 n4 n5 n6 n7 n8 n9 n10;go_wp2;refine bodyPost_ret (v:=.tuple #[_,_]) (Qfy rfl _ _ (B0+2) (B0+3) 77 _ _ (0,0) (0,0) _ rfl HW.out.2.1 rfl HW.out.2.2 Tryz.underlying77 rfl Tryz.fracInfo Tryz.fracInfo) rfl ?_;exact⟨_,_,_,_,_,_,rfl,HW.out.1⟩
def slRow(W g:Nat):Value:=.slice (some ⟨g,0,none⟩) W W
theorem QBlk.other{u u':World}{g g':Nat}{ts us:List FE}(h:QBlk u g ts)(h':QBlk u g' us)(ho:Only g' u u')(hne:g≠g'):QBlk u' g ts:=
 ⟨h.blk.only ho hne,fun t ht=>⟨(h.ts t ht).1.only ho h'.blk h'.no64,(h.ts t ht).2⟩⟩
def updM(M:Nat→Nat→Rat)(r c:Nat)(q:Rat):Nat→Nat→Rat:=fun r' c'=>if r'=r∧c'=c then q else M r' c'
structure GM (w u:World) (B G W K:Nat) (gs:List Nat) (M:Nat→Nat→Rat):Prop where
 base:Below w.heap.size w u
 out:SB u G 167 (gs.map (slRow W)).toArray
 row:∀(r g:Nat),gs[r]?=some g→∃us,QBlk u g us∧us.length=W∧∀(c:Nat) (t:FE),us[c]?=some t→t.q=M r c∧t.k≤K
 nd:∀(r r' g:Nat),gs[r]?=some g→gs[r']?=some g→r=r'
 ne:∀(r g:Nat),gs[r]?=some g→g≠G
 lo:B≤G
 los:∀(r g:Nat),gs[r]?=some g→B≤g
structure BM (w u:World) (F:Array Value) (G W K:Nat) (gs:List Nat) (M:Nat→Nat→Rat):Prop extends GM w u (w.heap.size+1) G W K gs M where
 box:SB u w.heap.size 54 F
section
variable {w u:World} {F:Array Value} {B G W K:Nat} {gs:List Nat} {M:Nat→Nat→Rat}
theorem GM.below{u':World}(h:GM w u B G W K gs M)(hb:Below u.heap.size u u'):GM w u' B G W K gs M:=by
 refine⟨h.base.trans (hb.mono h.base.size),h.out.below hb h.out.lt,fun r g hr=>?_,h.nd,h.ne,h.lo,h.los⟩;obtain⟨us,h1,h2⟩:=h.row r g hr;exact⟨us,h1.below hb,h2⟩
theorem BM.below{u':World}(h:BM w u F G W K gs M)(hb:Below u.heap.size u u'):BM w u' F G W K gs M:=⟨h.toGM.below hb,h.box.below hb h.box.lt⟩
theorem GM.congr{M':Nat→Nat→Rat}(h:GM w u B G W K gs M)(he:∀r c,M r c=M' r c):GM w u B G W K gs M':=by
 have:M=M':=funext fun r=>funext fun c=>he r c
 rw[←this];exact h
theorem BM.congr{M':Nat→Nat→Rat}(h:BM w u F G W K gs M)(he:∀r c,M r c=M' r c):BM w u F G W K gs M':=⟨h.toGM.congr he,h.box⟩
theorem GM.cell{r g:Nat}(h:GM w u B G W K gs M)(hr:gs[r]?=some g):u.cell? ⟨G,r,none⟩=some (.slice (some ⟨g,0,none⟩) W W):=by
 rw[h.out.cell];simp[hr,slRow]
theorem GM.lt{r g:Nat}(h:GM w u B G W K gs M)(hr:gs[r]?=some g):g<u.heap.size:=by
 obtain⟨us,h1,_⟩:=h.row r g hr;exact h1.blk.lt
theorem GM.at{r g c:Nat}(h:GM w u B G W K gs M)(hr:gs[r]?=some g)(hc:c<W):∃x y z,u.cell? ⟨g,c*3,none⟩=some x∧u.cell? ⟨g,c*3+1,none⟩=some y∧u.cell? ⟨g,c*3+2,none⟩=some z∧u.frozen? ⟨g,c*3,none⟩=false∧u.frozen? ⟨g,c*3+1,none⟩=false∧u.frozen? ⟨g,c*3+2,none⟩=false:=by
 obtain⟨us,h1,h2,_⟩:=h.row r g hr;obtain⟨t,ht⟩:∃t,us[c]?=some t:=⟨us[c]'(by omega),List.getElem?_eq_getElem (by omega)⟩;obtain⟨b,o,e,_,d0,d1,d2⟩:=h1.row.at ht;cases e;simp only[Nat.zero_add] at d0 d1 d2;exact⟨_,_,_,d0,d1,d2,h1.blk.free _,h1.blk.free _,h1.blk.free _⟩
abbrev set3(u:World)(g c:Nat)(x y z:Value):World:=((u.setCell ⟨g,c*3,none⟩ x).setCell ⟨g,c*3+1,none⟩ y).setCell ⟨g,c*3+2,none⟩ z
theorem Qcv(u:World)(g c:Nat)(x y z:Value):Only g u (set3 u g c x y z):=(((Only.refl g u).setCell _ _).setCell _ _).setCell _ _
theorem GM.keepV{r g c:Nat}{x y z v:Value}{q:Rat}(h:GM w u B G W K gs M)(hr:gs[r]?=some g)(hv:FracV u v q):FracV (set3 u g c x y z) v q:=by
 obtain⟨us,h1,_⟩:=h.row r g hr;exact hv.only (Qcv u g c x y z) h1.blk h1.no64
theorem keep3{g b c:Nat}{x y z:Value}{t:TypeId}{C:Array Value}(hs:SB u b t C)(hne:b≠g):SB (set3 u g c x y z) b t C:=hs.only (Qcv u g c x y z) hne
theorem GM.put{r g c:Nat}{x y z:Value}{q:Rat}(h:GM w u B G W K gs M)(hB:w.heap.size≤B)(hr:gs[r]?=some g)(hc:c<W)(hv:FracV u (.agg #[x,y,z]) q)(hf:Fits q K)(hK:0<K):GM w (set3 u g c x y z) B G W K gs (updM M r c q):=by
 obtain⟨us,h1,h2,h3⟩:=h.row r g hr;have ho:=Qcv u g c x y z;have hlo:=h.los r g hr;refine⟨h.base.trans (ho.below (Nat.le_trans hB hlo) h.base.size),h.out.only ho (fun e=>h.ne r g hr e.symm),fun r' g' hr'=>?_,h.nd,h.ne,h.lo,h.los⟩;by_cases e:r'=r
 ·
  subst e;obtain rfl:g=g':=Option.some.inj (hr.symm.trans hr');refine⟨us.set c ⟨x,y,z,q,K⟩,Qfv h1 (by omega) hv hf hK,by rw[List.length_set];exact h2,fun c' t ht=>?_⟩;by_cases ec:c'=c
  ·
   subst ec;rw[List.getElem?_set_self (by omega)] at ht;obtain rfl:=Option.some.inj ht;exact⟨by simp[updM],Nat.le_refl _⟩
  ·
   rw[List.getElem?_set_ne (fun e=>ec e.symm)] at ht;obtain⟨h4,h5⟩:=h3 c' t ht;exact⟨by rw[h4];simp[updM,ec],h5⟩
 ·
  obtain⟨us',h1',h2',h3'⟩:=h.row r' g' hr';have hne:g'≠g:=fun eg=>e (h.nd r' r g' hr' (by rw[eg];exact hr))
  refine⟨us',h1'.other h1 ho hne,h2',fun c' t ht=>?_⟩;obtain⟨h4,h5⟩:=h3' c' t ht;exact⟨by rw[h4];simp[updM,e],h5⟩
theorem BM.put{r g c:Nat}{x y z:Value}{q:Rat}(h:BM w u F G W K gs M)(hr:gs[r]?=some g)(hc:c<W)(hv:FracV u (.agg #[x,y,z]) q)(hf:Fits q K)(hK:0<K):BM w (set3 u g c x y z) F G W K gs (updM M r c q):=
 ⟨h.toGM.put (Nat.le_succ _) hr hc hv hf hK,h.box.only (Qcv u g c x y z) (by have:=h.los r g hr;omega)⟩
end
def BlankSays(n m:Nat)(w:World)(e:Ending)(w':World):Prop:=(∃(G:Nat) (gs:List Nat),e=.returned (.slice (some ⟨G,0,none⟩) n n)∧gs.length=n∧w.heap.size≤G∧SB w' G 167 (gs.map (slRow m)).toArray∧(∀(r g:Nat),gs[r]?=some g→QBlk w' g (List.replicate m FE.zero)∧G<g)∧(∀(r r' g:Nat),gs[r]?=some g→gs[r']?=some g→r=r'))∧Below w.heap.size w w'
theorem QBlk.zeroOnly{u u':World}{g g' m:Nat}(h:QBlk u g (List.replicate m FE.zero))(ho:Only g' u u')(hne:g≠g'):QBlk u' g (List.replicate m FE.zero):=by
 refine⟨h.blk.only ho hne,fun t ht=>?_⟩;obtain⟨_,rfl⟩:=List.mem_replicate.1 ht;exact⟨FracV.zero _,Fits.zero,by decide⟩
theorem Qjq(m n k g:Nat)(gs:List Nat)(hk:k<n)(hl:gs.length=k):((gs.map (slRow m)++List.replicate (n - k) (Value.slice none 0 0)).set k (slRow m g))=(gs++ [g]).map (slRow m)++List.replicate (n - (k+1)) (Value.slice none 0 0):=by
 rw[show n - k=(n - (k+1))+1 by omega,List.replicate_succ,List.set_append_right _ _ (by rw[List.length_map];omega),List.length_map,hl,Nat.sub_self,List.set_cons_zero];simp
set_option maxRecDepth 100000 in
set_option maxHeartbeats 4000000 in
theorem Qjr(n m:Nat)(w:World)(hn:n≤1000)(hm:m≤1000):
 Calls Tryz.prog 133 #[.int .i64 n,.int .i64 m] w (BlankSays n m w):=by
 have hmk:=fun w=>Qi3 n (by omega) w
 have hmr:=fun w=>Qcq m (by omega) w
 obtain⟨MC,hMC⟩:∃MC,((List.replicate n MR.none).flatMap MR.cells).toArray=MC:=⟨_,rfl⟩;obtain⟨MD,hMD⟩:∃MD,((List.replicate m FE.zero).flatMap FE.cells).toArray=MD:=⟨_,rfl⟩;rw[hMC] at hmk;rw[hMD] at hmr;have HMC:Hid (MC=(List.replicate n (Value.slice none 0 0)).toArray):=Hi (by
  rw[←hMC]
  congr 1
  clear hMC hmk hn
  induction n with
  |zero=>rfl
  |succ n ih=>rw[List.replicate_succ,List.flatMap_cons,ih,List.replicate_succ];rfl)
 have HMD:=Hi hMD.symm;clear hMC hMD;go_enter Tryz.func133,Tryz.ntmps133;go_wp2_with fail;clear hmk;obtain⟨G,hG⟩:∃G,w.heap.size=G:=⟨_,rfl⟩;obtain⟨V0,hV0⟩:∃V0,w.alloc (.cells MC 167)=V0:=⟨_,rfl⟩;have HB0:Hid (Below w.heap.size w V0):=Hi (by rw[←hV0];exact(Below.refl _ _).alloc (Nat.le_refl _) _);have HS0:Hid (SB V0 G 167 (([]:List Nat).map (slRow m)++List.replicate (n - 0) (Value.slice none 0 0)).toArray):=Hi (by
  rw[←hV0,←hG];have:=SB.new w 167 MC;rw[HMC.out] at this ⊢
  exact this)
 try rw[hV0]
 try rw[hG]
 rw[hG] at HB0;have HGE:=Hi hG;clear hV0 hG;go_loopw [10] (fun i wr=>∃(k:Nat) (gs:List Nat),k≤n∧i=.int .i64 k∧gs.length=k∧SB wr G 167 (gs.map (slRow m)++List.replicate (n - k) (Value.slice none 0 0)).toArray∧(∀(r g:Nat),gs[r]?=some g→QBlk wr g (List.replicate m FE.zero)∧G<g)∧(∀(r r' g:Nat),gs[r]?=some g→gs[r']?=some g→r=r')∧Below G w wr) (fun i _=>n - (intOf i).toNat)
 case atStart=>exact⟨0,[],by omega,rfl,rfl,HS0.out,fun r g h=>by simp at h,fun r r' g h=>by simp at h,HB0.out⟩
 case round=>
  obtain⟨k,gs,hk,rfl,hgl,hsb,hall,hnd,hb⟩:=hrel;have HB:=Hi hb;have HS:=Hi hsb;have HA:=Hi hall;have HN:=Hi hnd;have HL:=Hi hgl;have hglt:=hsb.lt;clear hb hsb hall hnd;by_cases hlt:k<n
  ·
   obtain⟨V,hV⟩:∃V,wr.alloc (.cells MD 77)=V:=⟨_,rfl⟩;have HBV:Hid (Below wr.heap.size wr V):=Hi (by rw[←hV];exact(Below.refl _ _).alloc (Nat.le_refl _) _);have HQ:Hid (QBlk V wr.heap.size (List.replicate m FE.zero)):=Hi (by rw[←hV];exact QBlk.new wr m MD HMD.out);have hsV:=HS.out.below HBV.out HS.out.lt;have f0:=hsV.free k;have t0:V.cell? ⟨G,k,none⟩=some (.slice none 0 0):=by
    rw[hsV.cell];have e:(gs.map (slRow m)++List.replicate (n - k) (Value.slice none 0 0)).toArray[k]?=(gs.map (slRow m)++List.replicate (n - k) (Value.slice none 0 0))[k]?:=by simp
    rw[e,List.getElem?_append_right (by rw[List.length_map];omega),List.length_map,hgl,Nat.sub_self,List.getElem?_replicate,if_pos (by omega)]
   have HSV:=Hi hsV;have q1:((k:Int)<(n:Int)):=by omega
   rw[←hV] at f0 t0;have HV:=Hi hV;clear hV hsV hgl;go_wp2_with fail;have e0:(wr.setCell ⟨G,k,none⟩ (.slice (some ⟨wr.heap.size,0,none⟩) m m)).alloc (.cells MD 77)=V.setCell ⟨G,k,none⟩ (.slice (some ⟨wr.heap.size,0,none⟩) m m):=by
    rw[←HV.out];exact(World.setCell_alloc_past _ _ _ _ hglt).symm
   rw[e0];have ho:Only G V (V.setCell ⟨G,k,none⟩ (.slice (some ⟨wr.heap.size,0,none⟩) m m)):=(Only.refl G V).setCell _ _;have hold:∀(r g:Nat),gs[r]?=some g→g<wr.heap.size:=fun r g hr=>(HA.out r g hr).1.blk.lt
   refine⟨⟨k+1,gs++ [wr.heap.size],by omega,by go_num,by rw[List.length_append];have:=HL.out;simp;omega,?_,?_,?_,((HB.out.trans (HBV.out.mono (Nat.le_of_lt hglt))).setCell (p:=⟨G,k,none⟩) (Nat.le_refl _) _)⟩,?_⟩
   ·
    have h1:=HSV.out.set k (.slice (some ⟨wr.heap.size,0,none⟩) m m);rw[List.setIfInBounds_toArray] at h1;rw[←Qjq m n k wr.heap.size gs hlt HL.out];exact h1
   ·
    intro r g hr;rcases Nat.lt_or_ge r gs.length with h|h
    ·
     rw[List.getElem?_append_left h] at hr;obtain⟨h1,h2⟩:=HA.out r g hr;exact⟨(h1.below HBV.out).zeroOnly ho (by omega),h2⟩
    ·
     rw[List.getElem?_append_right h] at hr;have e1:g=wr.heap.size:=by simpa using List.mem_of_getElem? hr
     rw[e1];exact⟨HQ.out.zeroOnly ho (by omega),hglt⟩
   ·
    intro r r' g hr hr';rcases Nat.lt_or_ge r gs.length with h|h<;>rcases Nat.lt_or_ge r' gs.length with h'|h'
    ·
     rw[List.getElem?_append_left h] at hr;rw[List.getElem?_append_left h'] at hr';exact HN.out r r' g hr hr'
    ·
     rw[List.getElem?_append_left h] at hr;rw[List.getElem?_append_right h'] at hr';have e1:g=wr.heap.size:=by simpa using List.mem_of_getElem? hr'
     have:=hold r g hr;omega
    ·
     rw[List.getElem?_append_right h] at hr;rw[List.getElem?_append_left h'] at hr';have e1:g=wr.heap.size:=by simpa using List.mem_of_getElem? hr
     have:=hold r' g hr';omega
    ·
     have h1:=(List.getElem?_eq_some_iff.1 hr).1;have h2:=(List.getElem?_eq_some_iff.1 hr').1;rw[List.length_append] at h1 h2;simp at h1 h2;omega
   · simp[intOf]
     omega
  ·
   have hk':k=n:=by omega
   subst hk';go_wp2;go_ret;refine⟨⟨G,gs,rfl,HL.out,Nat.le_of_eq HGE.out,?_,HA.out,HN.out⟩,by rw[HGE.out];exact HB.out⟩;have h1:=HS.out;rw[Nat.sub_self] at h1
   simpa using h1
end Go.Proofs.YtbbkamnfjejceaaGreatDoor
