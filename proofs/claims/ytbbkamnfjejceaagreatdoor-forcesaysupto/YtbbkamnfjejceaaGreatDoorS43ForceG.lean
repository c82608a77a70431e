/- package force: Sum. -/
import Derived.Test.YtbbkamnfjejceaaGreatDoorS42ForceE
namespace Go.Proofs.YtbbkamnfjejceaaGreatDoor
open Go.RowKit
set_option linter.unusedVariables false
set_option linter.unusedSimpArgs false
theorem Qfe{P:Program}{fn:Func}{p u:Tmp}{ty:TypeId}(h:fn.results=#[.cell p ty,.tmp u])(tmps:Array Value)(w:World)(g:Nat)(t:TypeId)(cs:Array Value)(fr:Nat × Nat)(d:TypeDesc)
 (hp:tmps.getD p undef=.pointer (some ⟨g,0,none⟩)) (hg:w.heap[g]?=some (.cells cs t fr))
 (hu:P.underlying ty=some d) (hd:(match d with| .struct _| .array _ _=>true|_=>false)=true) (hi:(P.info? ty).map (·.size)=some cs.size):
 (results fn tmps).run P w=.ok (.tuple #[.agg cs,tmps.getD u undef]) w:=by
 have hp':tmps[p]?.getD undef=.pointer (some ⟨g,0,none⟩):=by simpa using hp
 simp[results,h,hp',asAddr,run_loadVar_row w g t ty cs fr d hg hu hd hi]
theorem Qff{P:Program}{fn:Func}{p u v:Tmp}{ty:TypeId}(h:fn.results=#[.cell p ty,.tmp u,.tmp v])(tmps:Array Value)(w:World)(g:Nat)(t:TypeId)(cs:Array Value)(fr:Nat × Nat)(d:TypeDesc)
 (hp:tmps.getD p undef=.pointer (some ⟨g,0,none⟩)) (hg:w.heap[g]?=some (.cells cs t fr))
 (hu:P.underlying ty=some d) (hd:(match d with| .struct _| .array _ _=>true|_=>false)=true) (hi:(P.info? ty).map (·.size)=some cs.size):
 (results fn tmps).run P w=.ok (.tuple #[.agg cs,tmps.getD u undef,tmps.getD v undef]) w:=by
 have hp':tmps[p]?.getD undef=.pointer (some ⟨g,0,none⟩):=by simpa using hp
 simp[results,h,hp',asAddr,run_loadVar_row w g t ty cs fr d hg hu hd hi]
def TotAns(w:World)(fs:List F4)(ox oy:Rat)(e:Ending)(w':World):Prop:=∃(x y t:Rat) (s1 s2 s3:ByteArray),Sums ox oy fs x y t∧QText s1.data.toList x∧QText s2.data.toList y∧QText s3.data.toList t∧e=.returned (.tuple #[.agg #[.string s1,.string s2],.string s3,.int .i64 0])∧Below w.heap.size w w'
set_option maxRecDepth 100000 in
set_option maxHeartbeats 2000000 in
theorem Qfg(a:Option Addr)(cap m W:Nat)(fs:List F4)(sx sy:ByteArray)(ox oy:Rat)(w:World)(hg:Glob w)(hf:FRow w a cap fs)(hl:fs.length≤60)
 (hm:m≤1073741824) (hW:wt m fs≤W) (hWW:W<60000000000) (hs:∀f,f∈ fs→sz f≤1073741824) (hsx:sx.size≤m) (hsy:sy.size≤m) (hox:QOf sx.data.toList ox) (hoy:QOf sy.data.toList oy):
 Calls Tryz.prog 9 #[.slice a fs.length cap,.agg #[.string sx,.string sy]] w (TotAns w fs ox oy):=by
 obtain⟨wA,hwA⟩:∃wA,(w.alloc (.cells #[.string sx,.string sy] 25)).alloc (.cells #[.string ⟨#[]⟩,.string ⟨#[]⟩] 25)=wA:=⟨_,rfl⟩;have hbA:Below w.heap.size w wA:=by rw[←hwA];exact Below.new2 w _ _
 have hs0:SB wA w.heap.size 25 #[.string sx,.string sy]:=by rw[←hwA];exact(SB.new w _ _).alloc _
 have hs1:SB wA (w.heap.size+1) 25 #[.string ⟨#[]⟩,.string ⟨#[]⟩]:=by rw[←hwA];exact SB.new2 w _ _ _ _
 have c0:wA.cell? ⟨w.heap.size,0,none⟩=some (.string sx):=hs0.cell 0;have c1:wA.cell? ⟨w.heap.size,1,none⟩=some (.string sy):=hs0.cell 1;have hl':¬((60:Int)<(fs.length:Int)):=by omega
 have HR:=Hi (FBag.start (hg.below hbA));have HGL:=Hi hg;have HBA:=Hi hbA;have HZ0:=Hi hs1;have HWA:=Hi hwA;have HF:=Hi hf;have HS:=Hi hs;have HOX:=Hi hox;have HOY:=Hi hoy;clear hg hbA hs0 hs1 hwA hf hs hox hoy;go_enter Tryz.func9,Tryz.ntmps9;go_wp2_with fail;rw[HWA.out];apply Calls.mono;apply FBag.vof (w0:=wA) (n:=m) sx sy HR.out hm hsx hsy;rintro e wb ⟨p,q,hp,hq,a1,a2,a3,a4,a5,a6,rfl,hb⟩;obtain rfl:=hp.inj HOX.out;obtain rfl:=hq.inj HOY.out;have hbW:=HBA.out.trans (hb.base.mono HBA.out.size);have HTA:=Hi (Qcq a cap m W fs a1 a2 a3 a4 a5 a6 p q wb (hb.sub (fun t ht=>ht)) (HF.out.below hbW) hl hm hW hWW HS.out);have HBW:=Hi hbW;have HZ1:=Hi (HZ0.out.below hb.base HZ0.out.lt);clear HR hb hp hq hbW c0 c1;go_wp2_with fail;go_fit HTA.out;rintro e wc ⟨x,y,t,x1,x2,x3,y1,y2,y3,t1,t2,t3,hsum,rfl,hb⟩;have HSU:=Hi hsum;have HBC:=Hi (HBW.out.trans (hb.base.mono HBW.out.size))
 have HZ2:=Hi (HZ1.out.below hb.base HZ1.out.lt);obtain⟨gT,hgT⟩:∃gT,wc.heap.size=gT:=⟨_,rfl⟩;obtain⟨wE,hwE⟩:∃wE,wc.alloc (.cells #[x1,x2,x3,y1,y2,y3,t1,t2,t3] 81)=wE:=⟨_,rfl⟩;have hbE:Below wc.heap.size wc wE:=by rw[←hwE];exact(Below.refl _ _).alloc (Nat.le_refl _) _
 have hT:SB wE gT 81 #[x1,x2,x3,y1,y2,y3,t1,t2,t3]:=by rw[←hwE,←hgT];exact SB.new wc _ _
 have HR:=Hi (hb.below hbE).rebase;have HT:=Hi hT;have HZ:=Hi (HZ2.out.below hbE HZ2.out.lt);have HBE:=Hi (HBC.out.trans (hbE.mono HBC.out.size));have o1:=(hb.ts _ (List.Mem.head _)).1.one;have o2:=(hb.ts _ (List.Mem.tail _ (List.Mem.head _))).1.one;have o3:=(hb.ts _ (List.Mem.tail _ (List.Mem.tail _ (List.Mem.head _)))).1.one;have s1:=Qaa Tryz.prog o1.1;have s2:=Qaa Tryz.prog o1.2.1;have s3:=Qaa Tryz.prog o1.2.2;have s4:=Qaa Tryz.prog o2.1;have s5:=Qaa Tryz.prog o2.2.1;have s6:=Qaa Tryz.prog o2.2.2;have s7:=Qaa Tryz.prog o3.1;have s8:=Qaa Tryz.prog o3.2.1;have s9:=Qaa Tryz.prog o3.2.2;have nz:w.heap.size+1≠gT:=by have:=HZ2.out.lt;omega
 have HGT:=Hi hgT;have HWE:=Hi hwE;have hK:wt m fs+1≤274877906944:=by omega
 clear hsum hb hbE hT hgT hwE o1 o2 o3 HTA HZ0 HZ1 HZ2;go_wp2_with fail;rw[show wc.alloc (.cells #[x1,x2,x3,y1,y2,y3,t1,t2,t3] 81)=wE from HWE.out,HGT.out];clear s1 s2 s3 s4 s5 s6 s7 s8 s9;have hT:=HT.out.below HR.out.base HT.out.lt;have hT_0:_=some (x1):=hT.cell 0;have hT_1:_=some (x2):=hT.cell 1;have hT_2:_=some (x3):=hT.cell 2;have hT_3:_=some (y1):=hT.cell 3;have hT_4:_=some (y2):=hT.cell 4;have hT_5:_=some (y3):=hT.cell 5;have hT_6:_=some (t1):=hT.cell 6;have hT_7:_=some (t2):=hT.cell 7;have hT_8:_=some (t3):=hT.cell 8;clear hT;have hZ:=HZ.out.below HR.out.base HZ.out.lt;have hZ_0:_=some (Value.string ⟨#[]⟩):=hZ.cell 0;have hZf_0:=hZ.free 0;have hZ_1:_=some (Value.string ⟨#[]⟩):=hZ.cell 1;have hZf_1:=hZ.free 1;clear hZ;go_region_held3
  (fun w'=>w'.cell? ⟨gT,0,none⟩=some x1∧w'.cell? ⟨gT,1,none⟩=some x2∧w'.cell? ⟨gT,2,none⟩=some x3∧w'.cell? ⟨gT,3,none⟩=some y1∧w'.cell? ⟨gT,4,none⟩=some y2∧w'.cell? ⟨gT,5,none⟩=some y3∧w'.cell? ⟨gT,6,none⟩=some t1∧w'.cell? ⟨gT,7,none⟩=some t2∧w'.cell? ⟨gT,8,none⟩=some t3) ((first|(simp [*];done)|go_keep))
  (first
  |(
   go_at_call_of 34 x1;apply Calls.mono;apply FBag.vspot (w0:=wE);(focus(first|exact HR.out|exact HR.out.drew|exact HR.out.drew.drew));(focus(repeat(first|exact List.Mem.head _|apply List.Mem.tail)));(focus(repeat(first|exact List.Mem.head _|apply List.Mem.tail)));omega;omega;rintro e wn ⟨⟨u1,u2,rfl,h1,h2⟩,hb⟩;have HU1:=Hi h1;have HU2:=Hi h2;clear HR h1 h2;have HR:=Hi hb;clear hb;have hT:=HT.out.below HR.out.base HT.out.lt;have hT_0:_=some (x1):=hT.cell 0;have hT_1:_=some (x2):=hT.cell 1;have hT_2:_=some (x3):=hT.cell 2;have hT_3:_=some (y1):=hT.cell 3;have hT_4:_=some (y2):=hT.cell 4;have hT_5:_=some (y3):=hT.cell 5;have hT_6:_=some (t1):=hT.cell 6;have hT_7:_=some (t2):=hT.cell 7;have hT_8:_=some (t3):=hT.cell 8;clear hT;have hZ:=HZ.out.below HR.out.base HZ.out.lt;have hZ_0:_=some (Value.string ⟨#[]⟩):=hZ.cell 0;have hZf_0:=hZ.free 0;have hZ_1:_=some (Value.string ⟨#[]⟩):=hZ.cell 1
   have hZf_1:=hZ.free 1;clear hZ
   skip)
  |(
   go_at_call_of 35 t1;apply Calls.mono;apply FBag.text (w0:=wE);(focus(first|exact HR.out|exact HR.out.drew|exact HR.out.drew.drew));(focus(repeat(first|exact List.Mem.head _|apply List.Mem.tail)));omega;rintro e wn ⟨⟨u3,rfl,h1⟩,hb⟩;have HU3:=Hi h1;clear HR h1;have HR:=Hi hb;clear hb;have hT:=HT.out.below HR.out.base HT.out.lt;have hT_0:_=some (x1):=hT.cell 0;have hT_1:_=some (x2):=hT.cell 1;have hT_2:_=some (x3):=hT.cell 2;have hT_3:_=some (y1):=hT.cell 3;have hT_4:_=some (y2):=hT.cell 4;have hT_5:_=some (y3):=hT.cell 5;have hT_6:_=some (t1):=hT.cell 6;have hT_7:_=some (t2):=hT.cell 7;have hT_8:_=some (t3):=hT.cell 8;clear hT;have hZ:=HZ.out.below HR.out.base HZ.out.lt;have hZ_0:_=some (Value.string ⟨#[]⟩):=hZ.cell 0;have hZf_0:=hZ.free 0;have hZ_1:_=some (Value.string ⟨#[]⟩):=hZ.cell 1;have hZf_1:=hZ.free 1;clear hZ
   skip)
  )
 all_goals
  go_wp2;have hs9:=HZ.out.below HR.out.base HZ.out.lt;refine bodyPost_ret (Qff rfl _ _ (w.heap.size+1) 25 #[.string u1,.string u2] (0,0) _ rfl ((hs9.set 0 _).set 1 _) Tryz.underlying25 rfl Tryz.spotInfo) rfl ?_;have ho:=((Only.refl (w.heap.size+1) wn).setCell 0 (.string u1)).setCell 1 (.string u2);exact⟨x,y,t,u1,u2,u3,HSU.out,HU1.out,HU2.out,HU3.out,rfl,Only.fresh (HBE.out.trans (HR.out.base.mono HBE.out.size)) ho (by omega)⟩
def nearX(x y t:Rat):Rat:=if x=0∧y=0 then 0 else y*(t / (x*x+y*y))
def nearY(x y t:Rat):Rat:=if x=0∧y=0 then 0 else -x*(t / (x*x+y*y))
theorem FBag.tkind{w0 w:World}{L:List FE}{t1 t2 t3 t4 t5 t6 t7 t8 t9:Value}{j1 j2 j3:Nat}{x y t:Rat}(h:FBag w0 w L)(h1:⟨t1,t2,t3,x,j1⟩∈ L)(h2:⟨t4,t5,t6,y,j2⟩∈ L)(h3:⟨t7,t8,t9,t,j3⟩∈ L):
 Calls Tryz.prog 36 #[.agg #[t1,t2,t3,t4,t5,t6,t7,t8,t9]] w (fun e w'=>e=.returned (.int .i64 (kindOf x y t))∧FBag w0 w' L):=
 (Qjn (sdum:=⟨#[]⟩) (h.sub (fun t ht=>by simp only[List.mem_cons,List.not_mem_nil,or_false] at ht;rcases ht with rfl|rfl|rfl;all_goals assumption))).mono (fun e w' hn=>⟨hn.1,h.below hn.2⟩)
theorem FBag.tnear{w0 w:World}{L:List FE}{t1 t2 t3 t4 t5 t6 t7 t8 t9:Value}{K:Nat}{x y t:Rat}(h:FBag w0 w L)(h1:⟨t1,t2,t3,x,K⟩∈ L)(h2:⟨t4,t5,t6,y,K⟩∈ L)(h3:⟨t7,t8,t9,t,K⟩∈ L)(hK:7*K+1<68719476000):
 Calls Tryz.prog 37 #[.agg #[t1,t2,t3,t4,t5,t6,t7,t8,t9]] w (VNewB w0 L (nearX x y t) (6*K+1) (nearY x y t) (6*K+1)):=by
 have hk:=(h.get h1).2.2;have hs:FBag w w [⟨t1,t2,t3,x,K⟩,⟨t4,t5,t6,y,K⟩,⟨t7,t8,t9,t,K⟩]:=h.sub (fun t ht=>by simp only[List.mem_cons,List.not_mem_nil,or_false] at ht;rcases ht with rfl|rfl|rfl;all_goals assumption);have grow:∀{p q:Rat} {j j':Nat} {e:Ending} {w':World},VNew w p j q j' e w'→j≤6*K+1→j'≤6*K+1→VNew w p (6*K+1) q (6*K+1) e w':=by
  rintro p q j j' e w' ⟨x1,x2,x3,y1,y2,y3,rfl,hb⟩ hj hj';refine⟨x1,x2,x3,y1,y2,y3,rfl,hb.from (Below.refl _ _) hb.glob ?_⟩;intro t ht;simp only[List.mem_cons,List.not_mem_nil,or_false] at ht;rcases ht with rfl|rfl
  · exact⟨j,List.Mem.head _,hj⟩
  · exact⟨j',List.Mem.tail _ (List.Mem.head _),hj'⟩
 by_cases hz:x=0∧y=0
 · rw[show nearX x y t=0 by rw[nearX,if_pos hz],show nearY x y t=0 by rw[nearY,if_pos hz]]
   exact(Qjo (sdum:=⟨#[]⟩) hs hz).mono (fun e w' hn=>h.newV (grow hn (by omega) (by omega)))
 · rw[show nearX x y t=y*(t / (x*x+y*y)) by rw[nearX,if_neg hz],show nearY x y t= -x*(t / (x*x+y*y)) by rw[nearY,if_neg hz]]
   exact(Qjp (sdum:=⟨#[]⟩) hs hz (by omega)).mono (fun e w' hn=>h.newV (grow hn (by omega) (by omega)))
theorem Qdn{w:World}(n:Nat)(h:Glob w):FBag w w [⟨.bool false,.slice none 0 0,.slice none 0 0,0,4*n+1⟩,⟨.bool false,.slice none 0 0,.slice none 0 0,0,4*n+1⟩]:=by
 refine((FBag.start h).zero.zero).from (Below.refl _ _) h ?_;intro t ht;simp only[List.mem_cons,List.not_mem_nil,or_false] at ht;rcases ht with rfl|rfl
 · exact⟨1,List.Mem.head _,by simp only[];omega⟩
 · exact⟨1,List.Mem.head _,by simp only[];omega⟩
def SumAns(w:World)(fs:List F4)(e:Ending)(w':World):Prop:=∃(x y t:Rat) (s1 s2 s3 s4 s5:ByteArray),Sums 0 0 fs x y t∧QText s1.data.toList x∧QText s2.data.toList y∧QText s3.data.toList t∧QText s4.data.toList (nearX x y t)∧QText s5.data.toList (nearY x y t)∧e=.returned (.tuple #[.agg #[.int .i64 (kindOf x y t),.string s1,.string s2,.string s3,.string s4,.string s5],.int .i64 0])∧Below w.heap.size w w'
set_option maxRecDepth 100000 in
set_option maxHeartbeats 2000000 in
theorem Qdo(a:Option Addr)(cap W:Nat)(fs:List F4)(w:World)(hg:Glob w)(hf:FRow w a cap fs)(hl:fs.length≤60)
 (hW:wt 0 fs≤W) (hWW:W≤9000000000) (hs:∀f,f∈ fs→sz f≤1073741824):
 Calls Tryz.prog 10 #[.slice a fs.length cap] w (SumAns w fs):=by
 obtain⟨wb,hwA⟩:∃wA,w.alloc (.cells #[.int .i64 0,.string ⟨#[]⟩,.string ⟨#[]⟩,.string ⟨#[]⟩,.string ⟨#[]⟩,.string ⟨#[]⟩] 34)=wA:=⟨_,rfl⟩;have hbW:Below w.heap.size w wb:=by rw[←hwA];exact(Below.refl _ _).alloc (Nat.le_refl _) _
 have hs1:SB wb w.heap.size 34 #[.int .i64 0,.string ⟨#[]⟩,.string ⟨#[]⟩,.string ⟨#[]⟩,.string ⟨#[]⟩,.string ⟨#[]⟩]:=by rw[←hwA];exact SB.new w _ _
 have hl':¬((60:Int)<(fs.length:Int)):=by omega
 have HTA:=Hi (Qcq a cap 0 W fs _ _ _ _ _ _ 0 0 wb (Qdn 0 (hg.below hbW)) (hf.below hbW) hl (by decide) hW (by omega) hs);have HBW:=Hi hbW;have HZ1:=Hi hs1;have HWA:=Hi hwA;clear hg hbW hs1 hwA hf hs;go_enter Tryz.func10,Tryz.ntmps10;go_wp2_with fail;rw[HWA.out];go_fit HTA.out;rintro e wc ⟨x,y,t,x1,x2,x3,y1,y2,y3,t1,t2,t3,hsum,rfl,hb⟩;have HSU:=Hi hsum;have HBC:=Hi (HBW.out.trans (hb.base.mono HBW.out.size));have HZ2:=Hi (HZ1.out.below hb.base HZ1.out.lt);obtain⟨gT,hgT⟩:∃gT,wc.heap.size=gT:=⟨_,rfl⟩;obtain⟨wE,hwE⟩:∃wE,wc.alloc (.cells #[x1,x2,x3,y1,y2,y3,t1,t2,t3] 81)=wE:=⟨_,rfl⟩;have hbE:Below wc.heap.size wc wE:=by rw[←hwE];exact(Below.refl _ _).alloc (Nat.le_refl _) _
 have hT:SB wE gT 81 #[x1,x2,x3,y1,y2,y3,t1,t2,t3]:=by rw[←hwE,←hgT];exact SB.new wc _ _
 have HR:=Hi (hb.below hbE).rebase;have HT:=Hi hT;have HZ:=Hi (HZ2.out.below hbE HZ2.out.lt);have HBE:=Hi (HBC.out.trans (hbE.mono HBC.out.size));have o1:=(hb.ts _ (List.Mem.head _)).1.one;have o2:=(hb.ts _ (List.Mem.tail _ (List.Mem.head _))).1.one;have o3:=(hb.ts _ (List.Mem.tail _ (List.Mem.tail _ (List.Mem.head _)))).1.one;have s1:=Qaa Tryz.prog o1.1;have s2:=Qaa Tryz.prog o1.2.1;have s3:=Qaa Tryz.prog o1.2.2;have s4:=Qaa Tryz.prog o2.1;have s5:=Qaa Tryz.prog o2.2.1;have s6:=Qaa Tryz.prog o2.2.2;have s7:=Qaa Tryz.prog o3.1;have s8:=Qaa Tryz.prog o3.2.1;have s9:=Qaa Tryz.prog o3.2.2;have nz:w.heap.size≠gT:=by have:=HZ2.out.lt;omega
 have HGT:=Hi hgT;have HWE:=Hi hwE;have hK:wt 0 fs+1≤9000000001:=by omega
 obtain⟨K,hKK⟩:∃K,wt 0 fs+1=K:=⟨_,rfl⟩;rw[hKK] at HR hK;clear hsum hb hbE hT hgT hwE o1 o2 o3 HTA HZ1 HZ2 hKK;go_wp2_with fail;rw[show wc.alloc (.cells #[x1,x2,x3,y1,y2,y3,t1,t2,t3] 81)=wE from HWE.out,HGT.out];clear s1 s2 s3 s4 s5 s6 s7 s8 s9;have hT:=HT.out.below HR.out.base HT.out.lt;have hT_0:_=some (x1):=hT.cell 0;have hT_1:_=some (x2):=hT.cell 1;have hT_2:_=some (x3):=hT.cell 2;have hT_3:_=some (y1):=hT.cell 3;have hT_4:_=some (y2):=hT.cell 4;have hT_5:_=some (y3):=hT.cell 5;have hT_6:_=some (t1):=hT.cell 6;have hT_7:_=some (t2):=hT.cell 7;have hT_8:_=some (t3):=hT.cell 8;clear hT;have hZ:=HZ.out.below HR.out.base HZ.out.lt;have hZ_0:_=some (Value.int .i64 0):=hZ.cell 0;have hZf_0:=hZ.free 0;have hZ_1:_=some (Value.string ⟨#[]⟩):=hZ.cell 1;have hZf_1:=hZ.free 1;have hZ_2:_=some (Value.string ⟨#[]⟩):=hZ.cell 2;have hZf_2:=hZ.free 2;have hZ_3:_=some (Value.string ⟨#[]⟩):=hZ.cell 3
 have hZf_3:=hZ.free 3;have hZ_4:_=some (Value.string ⟨#[]⟩):=hZ.cell 4;have hZf_4:=hZ.free 4;have hZ_5:_=some (Value.string ⟨#[]⟩):=hZ.cell 5;have hZf_5:=hZ.free 5;clear hZ;go_region_held3
  (fun w'=>w'.cell? ⟨gT,0,none⟩=some x1∧w'.cell? ⟨gT,1,none⟩=some x2∧w'.cell? ⟨gT,2,none⟩=some x3∧w'.cell? ⟨gT,3,none⟩=some y1∧w'.cell? ⟨gT,4,none⟩=some y2∧w'.cell? ⟨gT,5,none⟩=some y3∧w'.cell? ⟨gT,6,none⟩=some t1∧w'.cell? ⟨gT,7,none⟩=some t2∧w'.cell? ⟨gT,8,none⟩=some t3) ((first|(simp [*];done)|go_keep))
  (first
  |(
   go_at_call 36;apply Calls.mono;apply FBag.tkind (w0:=wE);(focus(first|exact HR.out|exact HR.out.drew|exact HR.out.drew.drew));(focus(repeat(first|exact List.Mem.head _|apply List.Mem.tail)));(focus(repeat(first|exact List.Mem.head _|apply List.Mem.tail)));(focus(repeat(first|exact List.Mem.head _|apply List.Mem.tail)));rintro e wn ⟨rfl,hb⟩;clear HR;have HR:=Hi hb;clear hb;have hT:=HT.out.below HR.out.base HT.out.lt;have hT_0:_=some (x1):=hT.cell 0;have hT_1:_=some (x2):=hT.cell 1;have hT_2:_=some (x3):=hT.cell 2;have hT_3:_=some (y1):=hT.cell 3;have hT_4:_=some (y2):=hT.cell 4;have hT_5:_=some (y3):=hT.cell 5;have hT_6:_=some (t1):=hT.cell 6;have hT_7:_=some (t2):=hT.cell 7;have hT_8:_=some (t3):=hT.cell 8;clear hT;have hZ:=HZ.out.below HR.out.base HZ.out.lt;have hZ_0:_=some (Value.int .i64 0):=hZ.cell 0;have hZf_0:=hZ.free 0;have hZ_1:_=some (Value.string ⟨#[]⟩):=hZ.cell 1
   have hZf_1:=hZ.free 1;have hZ_2:_=some (Value.string ⟨#[]⟩):=hZ.cell 2;have hZf_2:=hZ.free 2;have hZ_3:_=some (Value.string ⟨#[]⟩):=hZ.cell 3;have hZf_3:=hZ.free 3;have hZ_4:_=some (Value.string ⟨#[]⟩):=hZ.cell 4;have hZf_4:=hZ.free 4;have hZ_5:_=some (Value.string ⟨#[]⟩):=hZ.cell 5;have hZf_5:=hZ.free 5;clear hZ
   skip)
  |(
   go_at_call_of 34 x1;apply Calls.mono;apply FBag.vspot (w0:=wE);(focus(first|exact HR.out|exact HR.out.drew|exact HR.out.drew.drew));(focus(repeat(first|exact List.Mem.head _|apply List.Mem.tail)));(focus(repeat(first|exact List.Mem.head _|apply List.Mem.tail)));omega;omega;rintro e wn ⟨⟨u1,u2,rfl,h1,h2⟩,hb⟩;have HU1:=Hi h1;have HU2:=Hi h2;clear HR h1 h2;have HR:=Hi hb;clear hb;have hT:=HT.out.below HR.out.base HT.out.lt;have hT_0:_=some (x1):=hT.cell 0;have hT_1:_=some (x2):=hT.cell 1;have hT_2:_=some (x3):=hT.cell 2;have hT_3:_=some (y1):=hT.cell 3;have hT_4:_=some (y2):=hT.cell 4;have hT_5:_=some (y3):=hT.cell 5;have hT_6:_=some (t1):=hT.cell 6;have hT_7:_=some (t2):=hT.cell 7;have hT_8:_=some (t3):=hT.cell 8;clear hT;have hZ:=HZ.out.below HR.out.base HZ.out.lt;have hZ_0:_=some (Value.int .i64 0):=hZ.cell 0;have hZf_0:=hZ.free 0;have hZ_1:_=some (Value.string ⟨#[]⟩):=hZ.cell 1
   have hZf_1:=hZ.free 1;have hZ_2:_=some (Value.string ⟨#[]⟩):=hZ.cell 2;have hZf_2:=hZ.free 2;have hZ_3:_=some (Value.string ⟨#[]⟩):=hZ.cell 3;have hZf_3:=hZ.free 3;have hZ_4:_=some (Value.string ⟨#[]⟩):=hZ.cell 4;have hZf_4:=hZ.free 4;have hZ_5:_=some (Value.string ⟨#[]⟩):=hZ.cell 5;have hZf_5:=hZ.free 5;clear hZ
   skip)
  |(
   go_at_call_of 35 t1;apply Calls.mono;apply FBag.text (w0:=wE);(focus(first|exact HR.out|exact HR.out.drew|exact HR.out.drew.drew));(focus(repeat(first|exact List.Mem.head _|apply List.Mem.tail)));omega;rintro e wn ⟨⟨u3,rfl,h1⟩,hb⟩;have HU3:=Hi h1;clear HR h1;have HR:=Hi hb;clear hb;have hT:=HT.out.below HR.out.base HT.out.lt;have hT_0:_=some (x1):=hT.cell 0;have hT_1:_=some (x2):=hT.cell 1;have hT_2:_=some (x3):=hT.cell 2;have hT_3:_=some (y1):=hT.cell 3;have hT_4:_=some (y2):=hT.cell 4;have hT_5:_=some (y3):=hT.cell 5;have hT_6:_=some (t1):=hT.cell 6;have hT_7:_=some (t2):=hT.cell 7;have hT_8:_=some (t3):=hT.cell 8;clear hT;have hZ:=HZ.out.below HR.out.base HZ.out.lt;have hZ_0:_=some (Value.int .i64 0):=hZ.cell 0;have hZf_0:=hZ.free 0;have hZ_1:_=some (Value.string ⟨#[]⟩):=hZ.cell 1;have hZf_1:=hZ.free 1;have hZ_2:_=some (Value.string ⟨#[]⟩):=hZ.cell 2;have hZf_2:=hZ.free 2
   have hZ_3:_=some (Value.string ⟨#[]⟩):=hZ.cell 3;have hZf_3:=hZ.free 3;have hZ_4:_=some (Value.string ⟨#[]⟩):=hZ.cell 4;have hZf_4:=hZ.free 4;have hZ_5:_=some (Value.string ⟨#[]⟩):=hZ.cell 5;have hZf_5:=hZ.free 5;clear hZ
   skip)
  |(
   go_at_call 37;apply Calls.mono;apply FBag.tnear (w0:=wE);(focus(first|exact HR.out|exact HR.out.drew|exact HR.out.drew.drew));(focus(repeat(first|exact List.Mem.head _|apply List.Mem.tail)));(focus(repeat(first|exact List.Mem.head _|apply List.Mem.tail)));(focus(repeat(first|exact List.Mem.head _|apply List.Mem.tail)));omega;rintro e wn ⟨n1,n2,n3,n4,n5,n6,rfl,hb⟩;clear HR;have HR:=Hi hb;clear hb;have hT:=HT.out.below HR.out.base HT.out.lt;have hT_0:_=some (x1):=hT.cell 0;have hT_1:_=some (x2):=hT.cell 1;have hT_2:_=some (x3):=hT.cell 2;have hT_3:_=some (y1):=hT.cell 3;have hT_4:_=some (y2):=hT.cell 4;have hT_5:_=some (y3):=hT.cell 5;have hT_6:_=some (t1):=hT.cell 6;have hT_7:_=some (t2):=hT.cell 7;have hT_8:_=some (t3):=hT.cell 8;clear hT;have hZ:=HZ.out.below HR.out.base HZ.out.lt;have hZ_0:_=some (Value.int .i64 0):=hZ.cell 0;have hZf_0:=hZ.free 0
   have hZ_1:_=some (Value.string ⟨#[]⟩):=hZ.cell 1;have hZf_1:=hZ.free 1;have hZ_2:_=some (Value.string ⟨#[]⟩):=hZ.cell 2;have hZf_2:=hZ.free 2;have hZ_3:_=some (Value.string ⟨#[]⟩):=hZ.cell 3;have hZf_3:=hZ.free 3;have hZ_4:_=some (Value.string ⟨#[]⟩):=hZ.cell 4;have hZf_4:=hZ.free 4;have hZ_5:_=some (Value.string ⟨#[]⟩):=hZ.cell 5;have hZf_5:=hZ.free 5;clear hZ
   skip)
  |(
   go_at_call_of 34 n1;apply Calls.mono;apply FBag.vspot (w0:=wE);(focus(first|exact HR.out|exact HR.out.drew|exact HR.out.drew.drew));(focus(repeat(first|exact List.Mem.head _|apply List.Mem.tail)));(focus(repeat(first|exact List.Mem.head _|apply List.Mem.tail)));omega;omega;rintro e wn ⟨⟨u4,u5,rfl,h1,h2⟩,hb⟩;have HU4:=Hi h1;have HU5:=Hi h2;clear HR h1 h2;have HR:=Hi hb;clear hb;have hT:=HT.out.below HR.out.base HT.out.lt;have hT_0:_=some (x1):=hT.cell 0;have hT_1:_=some (x2):=hT.cell 1;have hT_2:_=some (x3):=hT.cell 2;have hT_3:_=some (y1):=hT.cell 3;have hT_4:_=some (y2):=hT.cell 4;have hT_5:_=some (y3):=hT.cell 5;have hT_6:_=some (t1):=hT.cell 6;have hT_7:_=some (t2):=hT.cell 7;have hT_8:_=some (t3):=hT.cell 8;clear hT;have hZ:=HZ.out.below HR.out.base HZ.out.lt;have hZ_0:_=some (Value.int .i64 0):=hZ.cell 0;have hZf_0:=hZ.free 0;have hZ_1:_=some (Value.string ⟨#[]⟩):=hZ.cell 1
   have hZf_1:=hZ.free 1;have hZ_2:_=some (Value.string ⟨#[]⟩):=hZ.cell 2;have hZf_2:=hZ.free 2;have hZ_3:_=some (Value.string ⟨#[]⟩):=hZ.cell 3;have hZf_3:=hZ.free 3;have hZ_4:_=some (Value.string ⟨#[]⟩):=hZ.cell 4;have hZf_4:=hZ.free 4;have hZ_5:_=some (Value.string ⟨#[]⟩):=hZ.cell 5;have hZf_5:=hZ.free 5;clear hZ
   skip)
  )
 all_goals
  go_wp2;have hs9:=HZ.out.below HR.out.base HZ.out.lt;refine bodyPost_ret (Qfe rfl _ _ w.heap.size 34 #[.int .i64 (kindOf x y t),.string u1,.string u2,.string u3,.string u4,.string u5] (0,0) _ rfl ((((((hs9.set 0 _).set 1 _).set 2 _).set 3 _).set 4 _).set 5 _) Tryz.underlying34 rfl Tryz.sumInfo) rfl ?_;have ho:=((((((Only.refl w.heap.size wn).setCell 0 (.int .i64 (kindOf x y t))).setCell 1 (.string u1)).setCell 2 (.string u2)).setCell 3 (.string u3)).setCell 4 (.string u4)).setCell 5 (.string u5);exact⟨x,y,t,u1,u2,u3,u4,u5,HSU.out,HU1.out,HU2.out,HU3.out,HU4.out,HU5.out,rfl,Only.fresh (HBE.out.trans (HR.out.base.mono HBE.out.size)) ho (by omega)⟩
end Go.Proofs.YtbbkamnfjejceaaGreatDoor
