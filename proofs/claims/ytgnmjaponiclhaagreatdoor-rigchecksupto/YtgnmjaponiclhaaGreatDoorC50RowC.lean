import Derived.Test.YtgnmjaponiclhaaGreatDoorC49BalI
import Derived.Test.YtgnmjaponiclhaaGreatDoorC36LawRC
import Derived.Test.YtgnmjaponiclhaaGreatDoorCards
import Derived.Test.YtgnmjaponiclhaaGreatDoorTie
import Derived.Deep.DeepHandedRow
namespace Go.Proofs.YtgnmjaponiclhaaGreatDoor
open Go.RowKit
set_option linter.unusedVariables false
set_option linter.unusedSimpArgs false
theorem Qjy(g1 g2 g3:Nat)(w:World)(hg:Glob w)(hf:FrRow w (some ⟨g1,0,none⟩) (some ⟨g2,0,none⟩) (some ⟨g3,0,none⟩) 3 3 3 cornerJ cornerB cornerH):
 Calls Tryz.prog 28 #[.agg #[.slice (some ⟨g1,0,none⟩) 3 3,.slice (some ⟨g2,0,none⟩) 3 3,.slice (some ⟨g3,0,none⟩) 3 3]] w fun e w'=>e=.returned (.tuple #[.int .i64 0,.agg #[.int .i64 0,.int .i64 0]])∧Below w.heap.size w w':=by
 refine Calls.mono (Qip (some ⟨g1,0,none⟩) (some ⟨g2,0,none⟩) (some ⟨g3,0,none⟩) 3 3 3 cornerJ cornerB cornerH w hg hf Qdy) ?_
 rintro e w' ⟨c,at_,k,rfl,hff,_,hk,hb⟩
 obtain⟨rfl,rfl⟩:=hff.inj Qdz
 obtain rfl:=hk rfl
 exact⟨rfl,hb⟩
theorem cornerK_ok:4*1+1+(4*1+1)+1≤cornerK∧4*cornerK+1<68719476000∧0<cornerK:=by
 have:=cornerK_big
 omega
theorem Qjz(g1 g2 g3:Nat)(w:World)(hg:Glob w)(hf:FrRow w (some ⟨g1,0,none⟩) (some ⟨g2,0,none⟩) (some ⟨g3,0,none⟩) 3 3 3 cornerJ cornerB cornerH):
 Calls Tryz.prog 39 #[.agg #[.slice (some ⟨g1,0,none⟩) 3 3,.slice (some ⟨g2,0,none⟩) 3 3,.slice (some ⟨g3,0,none⟩) 3 3]] w fun e w'=>e=.returned (.tuple #[.int .i64 6,.int .i64 0,.int .i64 0,.agg #[.int .i64 0,.int .i64 0]])∧Below w.heap.size w w':=by
 have hstart:NI 6 6 1 cornerM 0 (balRows cornerJ.length cornerVB cornerB.length cornerVH) [] []:=by
  have h:=NI.start 6 1 cornerM Qfw Qfv
  have e:balRows cornerJ.length cornerVB cornerB.length cornerVH=cornerM:=Qfu
  rw[e]
  exact h
 refine Calls.mono (Qjm (some ⟨g1,0,none⟩) (some ⟨g2,0,none⟩) (some ⟨g3,0,none⟩) 3 3 3 1 cornerK cornerJ cornerB cornerH cornerVB cornerVH w hg hf Qdy Qdz Qft cornerK_ok.1 cornerK_ok.2.1 (NI 6 6 1 cornerM) (NI.going 6 6 1 cornerK cornerM (by decide) (Nat.le_trans (Qhb 1 (by decide:6≤7)) (by rw[corner_bounds.1];exact cornerK_big.1)) cornerK_ok.2.2) hstart) ?_
 rintro e w' ⟨⟨L,S,hh,rfl,_,hI⟩,hb⟩
 have h6:S.length=6:=Qju hI
 rw[h6]
 exact⟨rfl,hb⟩
theorem Qj0(g1 g2 g3 cl:Nat)(al:Option Addr)(w:World)(hg:Glob w)(hf:FrRow w (some ⟨g1,0,none⟩) (some ⟨g2,0,none⟩) (some ⟨g3,0,none⟩) 3 3 3 cornerJ cornerB cornerH)(hl:ARow L3.cells w al cl cornerL):
 Calls Tryz.prog 53 #[.agg #[.slice (some ⟨g1,0,none⟩) 3 3,.slice (some ⟨g2,0,none⟩) 3 3,.slice (some ⟨g3,0,none⟩) 3 3],.slice al 1 cl] w fun e w'=>∃g1 g2,e=.returned (.tuple #[.agg #[.slice (some ⟨g1,0,none⟩) 3 3,.slice (some ⟨g2,0,none⟩) 3 3],.agg #[.int .i64 0,.int .i64 0]])∧TLst w' (some ⟨g1,0,none⟩) [⟨#[49]⟩,⟨#[45,49]⟩,⟨#[49]⟩]∧TLst w' (some ⟨g2,0,none⟩) [⟨#[45,49]⟩,⟨#[45,49]⟩,⟨#[49]⟩]∧Below w.heap.size w w':=by
 have e1:balRows cornerJ.length cornerVB cornerB.length cornerVH=cornerM:=Qfu
 have e2:(List.range (2*cornerJ.length)).map (agn cornerVS)= [0,0,0,0,-1,0]:=Qjr
 have e3:List.zipWith (wider (cornerB.length+cornerH.length)) (balRows cornerJ.length cornerVB cornerB.length cornerVH) ((List.range (2*cornerJ.length)).map (agn cornerVS))=cornerW:=by
  rw[e1,e2]
  rfl
 have hstart:NI 7 6 1 cornerW 0 cornerW [] []:=NI.start 7 1 cornerW (fun r hr=>(Qfx r hr).2) (fun r hr=>(Qfx r hr).1)
 have h:=Qjp (some ⟨g1,0,none⟩) (some ⟨g2,0,none⟩) (some ⟨g3,0,none⟩) al 3 3 3 cl 1 cornerK cornerJ cornerB cornerH cornerVB cornerVH cornerL cornerVS w hg hf Qdy Qdz Qft hl (by decide) rfl Qjq (fun k i=>(Qjs k i).mono cornerK_ok.2.2) cornerK_ok.1 cornerK_ok.2.1 (NI 7 6 1 cornerW) (NI.going 7 6 1 cornerK cornerW (by decide) (by rw[corner_bounds.1];exact cornerK_big.1) cornerK_ok.2.2) (by rw[e3];exact hstart) (by rw[e3];exact fun L S hh hI=>Qjv hI)
 rw[e1,e2] at h
 exact h.mono fun e w' hc=>Qjx hc
set_option maxRecDepth 100000 in
set_option maxHeartbeats 4000000 in
theorem Qj1(w:World)(hg:Glob w):Calls Tryz.prog 25 #[] w fun e w'=>e=.returned (.bool true)∧Below w.heap.size w w':=by
 have HG:=Hi hg
 clear hg
 go_enter Tryz.func25,Tryz.ntmps25
 go_wp2_with fail
 go_fit (Qd4 w)
 rintro e w1 ⟨g1,g2,g3,rfl,hf1,hb1⟩
 have HC1:=Hi (Qjy g1 g2 g3 w1 (HG.out.below hb1) hf1)
 have HB1:=Hi hb1
 clear hf1 hb1
 go_wp2_with fail
 go_fit HC1.out
 rintro e w2 ⟨rfl,hb2⟩
 obtain⟨V2,hV2⟩:∃V2,w2.alloc (.cells #[.int .i64 0,.int .i64 0] 57)=V2:=⟨_,rfl⟩
 obtain⟨p2,hp2⟩:∃p2,w2.heap.size=p2:=⟨_,rfl⟩
 have HB2:Hid (Below w.heap.size w V2):=Hi ((HB1.out.trans (hb2.mono HB1.out.size)).trans ((show Below w2.heap.size w2 V2 by rw[←hV2];exact(Below.refl _ _).alloc (Nat.le_refl _) _).mono (HB1.out.trans (hb2.mono HB1.out.size)).size))
 have HS2:Hid (SB V2 p2 57 #[.int .i64 0,.int .i64 0]):=Hi (by rw[←hV2,←hp2];exact SB.new w2 _ _)
 have HV2:=Hi hV2
 have HP2:=Hi hp2
 clear hb2 hV2 hp2 HC1
 go_wp2_with fail
 rw[HV2.out,HP2.out]
 go_fit (Qd4 V2)
 rintro e w3 ⟨g4,g5,g6,rfl,hf3,hb3⟩
 have HB3:=Hi (HB2.out.trans (hb3.mono HB2.out.size))
 have HS3:=Hi (HS2.out.below hb3 HS2.out.lt)
 have HC3:=Hi (Qjz g4 g5 g6 w3 (HG.out.below HB3.out) hf3)
 clear hf3 hb3 HS2
 go_wp2_with fail
 go_fit HC3.out
 rintro e w4 ⟨rfl,hb4⟩
 obtain⟨V4,hV4⟩:∃V4,w4.alloc (.cells #[.int .i64 0,.int .i64 0] 57)=V4:=⟨_,rfl⟩
 obtain⟨p4,hp4⟩:∃p4,w4.heap.size=p4:=⟨_,rfl⟩
 have hb4V:Below w3.heap.size w3 V4:=by rw[←hV4];exact hb4.alloc hb4.size _
 have HB4:Hid (Below w.heap.size w V4):=Hi (HB3.out.trans (hb4V.mono HB3.out.size))
 have HS4:Hid (SB V4 p4 57 #[.int .i64 0,.int .i64 0]):=Hi (by rw[←hV4,←hp4];exact SB.new w4 _ _)
 have HS3b:=Hi (HS3.out.below hb4V HS3.out.lt)
 have HV4:=Hi hV4
 have HP4:=Hi hp4
 clear hb4 hV4 hp4 hb4V HC3 HS3
 go_wp2_with fail
 rw[HV4.out,HP4.out]
 go_fit (Qd4 V4)
 rintro e w5 ⟨g7,g8,g9,rfl,hf5,hb5⟩
 have HF5:=Hi hf5
 have HB5:=Hi (HB4.out.trans (hb5.mono HB4.out.size))
 have HS4b:=Hi (HS4.out.below hb5 HS4.out.lt)
 have HS3c:=Hi (HS3b.out.below hb5 HS3b.out.lt)
 clear hf5 hb5 HS4 HS3b
 go_wp2_with fail
 go_fit (Qdq ⟨#[49]⟩ ⟨#[48]⟩ w5)
 rintro e w6 ⟨rfl,hb6⟩
 obtain⟨V6,hV6⟩:∃V6,w6.alloc (.cells #[.int .i64 2,.string ⟨#[49]⟩,.string ⟨#[48]⟩] 98)=V6:=⟨_,rfl⟩
 have hb6V:Below w5.heap.size w5 V6:=by rw[←hV6];exact hb6.alloc hb6.size _
 have HB6:=Hi (HB5.out.trans (hb6V.mono HB5.out.size))
 have HS4c:=Hi (HS4b.out.below hb6V HS4b.out.lt)
 have HS3d:=Hi (HS3c.out.below hb6V HS3c.out.lt)
 have hsl:SB V6 w6.heap.size 98 #[.int .i64 2,.string ⟨#[49]⟩,.string ⟨#[48]⟩]:=by rw[←hV6];exact SB.new w6 _ _
 have HCY:=Hi (Qj0 g7 g8 g9 1 (some ⟨w6.heap.size,0,none⟩) V6 (HG.out.below HB6.out) (HF5.out.below hb6V) (hsl.arow rfl (by decide)))
 have HV6:=Hi hV6
 clear hb6 hV6 hb6V hsl HF5 HS4b HS3c
 go_wp2_with fail
 rw[HV6.out]
 go_fit HCY.out
 rintro e w7 ⟨h1,h2,rfl,ht1,ht2,hb7⟩
 obtain⟨V7,hV7⟩:∃V7,(w7.alloc (.cells #[.slice (some ⟨h1,0,none⟩) 3 3,.slice (some ⟨h2,0,none⟩) 3 3] 90)).alloc (.cells #[.int .i64 0,.int .i64 0] 57)=V7:=⟨_,rfl⟩
 obtain⟨q7,hq7⟩:∃q7,w7.heap.size=q7:=⟨_,rfl⟩
 have hb7V:Below w7.heap.size w7 V7:=by rw[←hV7];exact Below.new2 w7 _ _
 have hb67:Below V6.heap.size V6 V7:=hb7.trans (hb7V.mono hb7.size)
 have hss:SB V7 q7 90 #[.slice (some ⟨h1,0,none⟩) 3 3,.slice (some ⟨h2,0,none⟩) 3 3]:=by rw[←hV7,←hq7];exact(SB.new w7 _ _).alloc _
 have hsf:SB V7 (q7+1) 57 #[.int .i64 0,.int .i64 0]:=by rw[←hV7,←hq7];exact Qax w7 _ _ _
 have s3:=HS3d.out.below hb67 HS3d.out.lt
 have s4:=HS4c.out.below hb67 HS4c.out.lt
 have k0:V7.cell? ⟨p2,0,none⟩=some (.int .i64 0):=s3.cell 0
 have k1:V7.cell? ⟨p4,0,none⟩=some (.int .i64 0):=s4.cell 0
 have k2:V7.cell? ⟨q7+1,0,none⟩=some (.int .i64 0):=hsf.cell 0
 have k3:V7.cell? ⟨q7,0,none⟩=some (.slice (some ⟨h1,0,none⟩) 3 3):=hss.cell 0
 have k4:V7.cell? ⟨q7,1,none⟩=some (.slice (some ⟨h2,0,none⟩) 3 3):=hss.cell 1
 have HB7:=Hi (HB6.out.trans (hb67.mono HB6.out.size))
 obtain⟨V8,hV8⟩:∃V8,(V7.alloc (.cells #[.string ⟨#[49]⟩,.string ⟨#[45,49]⟩,.string ⟨#[49]⟩] 23)).alloc (.cells #[.string ⟨#[45,49]⟩,.string ⟨#[45,49]⟩,.string ⟨#[49]⟩] 23)=V8:=⟨_,rfl⟩
 have hb78:Below V7.heap.size V7 V8:=by rw[←hV8];exact Below.new2 V7 _ _
 have t1:TLst V8 (some ⟨V7.heap.size,0,none⟩) [⟨#[49]⟩,⟨#[45,49]⟩,⟨#[49]⟩]:=by
  rw[←hV8]
  exact SB.texts (l:=[⟨#[49]⟩,⟨#[45,49]⟩,⟨#[49]⟩]) ((SB.new V7 23 _).alloc _)
 have t2:TLst V8 (some ⟨V7.heap.size+1,0,none⟩) [⟨#[45,49]⟩,⟨#[45,49]⟩,⟨#[49]⟩]:=by
  rw[←hV8]
  exact SB.texts (l:=[⟨#[45,49]⟩,⟨#[45,49]⟩,⟨#[49]⟩]) (Qax V7 _ 23 _)
 have HST:=Hi (Qjw (some ⟨h1,0,none⟩) (some ⟨h2,0,none⟩) (some ⟨V7.heap.size,0,none⟩) (some ⟨V7.heap.size+1,0,none⟩) 3 3 3 3 [⟨#[49]⟩,⟨#[45,49]⟩,⟨#[49]⟩] [⟨#[45,49]⟩,⟨#[45,49]⟩,⟨#[49]⟩] V8 ((ht1.below hb7V).below hb78) ((ht2.below hb7V).below hb78) t1 t2 (by decide) (by decide))
 have HB8:=Hi (HB7.out.trans (hb78.mono HB7.out.size))
 rw[←hV7] at k0 k1
 rw[←hV7,←hq7] at k2 k3 k4
 have hz7:V7.heap.size=w7.heap.size+1+1:=by rw[←hV7];simp
 rw[hz7] at HST
 have HV7:=Hi hV7
 have HQ7:=Hi hq7
 have HV8:=Hi hV8
 clear ht1 ht2 hb7 hb7V hb67 hss hsf s3 s4 hb78 t1 t2 hV7 hq7 hV8 HCY hz7
 go_wp2_with fail
 rw[HV7.out,HV8.out]
 go_fit HST.out
 rintro e w9 ⟨rfl,hb9⟩
 have HB9:=Hi (HB8.out.trans (hb9.mono HB8.out.size))
 clear hb9 k0 k1 k2 k3 k4
 go_wp2
 go_ret
 exact⟨rfl,HB9.out⟩
def textD{H:Type}(s:ByteArray):DataW H:=.lit (.string s.data.toList)
def spotD{H:Type}(s:S2):DataW H:=.agg [textD s.x,textD s.y]
def barD{H:Type}(b:B6):DataW H:=.agg [.lit (.int .i64 b.a),.lit (.int .i64 b.b),textD b.c,textD b.e,textD b.l,textD b.m]
def holdD{H:Type}(h:H3):DataW H:=.agg [.lit (.int .i64 h.j),.lit (.int .i64 h.w),textD h.q]
section
variable {H:Type} {enc:TypeId × Value→H} {P:Program} {w:World} {base:Nat} {spare:Nat→Bool} {held:Bool} {fuel:Nat} {cs:List Value} {x:DataW H × List MemPlace} {tE tS tQ tI tI':TypeId} {f0 f1 f2 f3 f4 f5:Field}
theorem Qia(uB:P.underlying tE=some (.struct #[f0,f1,f2,f3,f4,f5]))(uQ:P.underlying tQ=some .string)(uI:P.underlying tI=some (.int .i64))(cB:P.cellsOf tE=6)(cQ:P.cellsOf tQ=1)(cI:P.cellsOf tI=1)
 (t0:f0.type=tI) (t1:f1.type=tI) (t2:f2.type=tQ) (t3:f3.type=tQ) (t4:f4.type=tQ) (t5:f5.type=tQ) (o0:f0.offset=0) (o1:f1.offset=1) (o2:f2.offset=2) (o3:f3.offset=3) (o4:f4.offset=4) (o5:f5.offset=5)
 (h:DataW.trod enc P w base spare held fuel tE cs=some x):∃b:B6,cs=b.cells∧x.1=barD b:=by
 obtain⟨xs,n,rfl,rfl,hl,hxl,hf⟩:=DataW.trod_struct uB h
 rw[cB] at hl
 clear h
 have h0:=hf 0 f0 rfl
 have h1:=hf 1 f1 rfl
 have h2:=hf 2 f2 rfl
 have h3:=hf 3 f3 rfl
 have h4:=hf 4 f4 rfl
 have h5:=hf 5 f5 rfl
 rw[t0,o0,cI] at h0
 rw[t1,o1,cI] at h1
 rw[t2,o2,cQ] at h2
 rw[t3,o3,cQ] at h3
 rw[t4,o4,cQ] at h4
 rw[t5,o5,cQ] at h5
 clear hf
 match cs,hl,xs,hxl with
 | [v0,v1,v2,v3,v4,v5],_,[y0,y1,y2,y3,y4,y5],_=>
   simp only[List.drop_zero,List.drop_succ_cons,List.take_succ_cons,List.take_zero,List.getElem?_cons_zero,List.getElem?_cons_succ] at h0 h1 h2 h3 h4 h5
   obtain⟨a,e0,rfl,_⟩:=DataW.trod_int uI h0
   obtain⟨b,e1,rfl,_⟩:=DataW.trod_int uI h1
   obtain⟨c,e2,rfl,_⟩:=DataW.trod_string uQ h2
   obtain⟨e,e3,rfl,_⟩:=DataW.trod_string uQ h3
   obtain⟨l,e4,rfl,_⟩:=DataW.trod_string uQ h4
   obtain⟨m,e5,rfl,_⟩:=DataW.trod_string uQ h5
   obtain rfl:v0=_:=by simpa using e0
   obtain rfl:v1=_:=by simpa using e1
   obtain rfl:v2=_:=by simpa using e2
   obtain rfl:v3=_:=by simpa using e3
   obtain rfl:v4=_:=by simpa using e4
   obtain rfl:v5=_:=by simpa using e5
   exact⟨⟨a,b,c,e,l,m⟩,rfl,rfl⟩
theorem Qib(uB:P.underlying tE=some (.struct #[f0,f1,f2]))(uQ:P.underlying tQ=some .string)(uI:P.underlying tI=some (.int .i64))(uI':P.underlying tI'=some (.int .i64))(cB:P.cellsOf tE=3)(cQ:P.cellsOf tQ=1)(cI:P.cellsOf tI=1)(cI':P.cellsOf tI'=1)
 (t0:f0.type=tI) (t1:f1.type=tI') (t2:f2.type=tQ) (o0:f0.offset=0) (o1:f1.offset=1) (o2:f2.offset=2)
 (h:DataW.trod enc P w base spare held fuel tE cs=some x):∃b:H3,cs=b.cells∧x.1=holdD b:=by
 obtain⟨xs,n,rfl,rfl,hl,hxl,hf⟩:=DataW.trod_struct uB h
 rw[cB] at hl
 clear h
 have h0:=hf 0 f0 rfl
 have h1:=hf 1 f1 rfl
 have h2:=hf 2 f2 rfl
 rw[t0,o0,cI] at h0
 rw[t1,o1,cI'] at h1
 rw[t2,o2,cQ] at h2
 clear hf
 match cs,hl,xs,hxl with
 | [v0,v1,v2],_,[y0,y1,y2],_=>
   simp only[List.drop_zero,List.drop_succ_cons,List.take_succ_cons,List.take_zero,List.getElem?_cons_zero,List.getElem?_cons_succ] at h0 h1 h2
   obtain⟨a,e0,rfl,_⟩:=DataW.trod_int uI h0
   obtain⟨b,e1,rfl,_⟩:=DataW.trod_int uI' h1
   obtain⟨c,e2,rfl,_⟩:=DataW.trod_string uQ h2
   obtain rfl:v0=_:=by simpa using e0
   obtain rfl:v1=_:=by simpa using e1
   obtain rfl:v2=_:=by simpa using e2
   exact⟨⟨a,b,c⟩,rfl,rfl⟩
theorem Qoy(u:P.underlying tE=some (.struct #[f0,f1,f2]))(cB:P.cellsOf tE=3){t0 t1 t2:TypeId}(e0:f0.type=t0)(e1:f1.type=t1)(e2:f2.type=t2)(k0:P.cellsOf t0=1)(k1:P.cellsOf t1=1)(k2:P.cellsOf t2=1)(o0:f0.offset=0)(o1:f1.offset=1)(o2:f2.offset=2)
 (h:DataW.trod enc P w base spare held fuel tE cs=some x):∃n v0 v1 v2 y0 y1 y2,cs= [v0,v1,v2]∧x.1=.agg [y0.1,y1.1,y2.1]∧DataW.trod enc P w base spare held n t0 [v0]=some y0∧DataW.trod enc P w base spare held n t1 [v1]=some y1∧DataW.trod enc P w base spare held n t2 [v2]=some y2:=by
 obtain⟨xs,n,rfl,rfl,hl,hxl,hf⟩:=DataW.trod_struct u h
 rw[cB] at hl
 clear h
 have h0:=hf 0 f0 rfl
 have h1:=hf 1 f1 rfl
 have h2:=hf 2 f2 rfl
 rw[e0,o0,k0] at h0
 rw[e1,o1,k1] at h1
 rw[e2,o2,k2] at h2
 clear hf
 match cs,hl,xs,hxl with
 | [v0,v1,v2],_,[y0,y1,y2],_=>
   simp only[List.drop_zero,List.drop_succ_cons,List.take_succ_cons,List.take_zero,List.getElem?_cons_zero,List.getElem?_cons_succ] at h0 h1 h2
   exact⟨n,v0,v1,v2,y0,y1,y2,rfl,rfl,h0,h1,h2⟩
theorem Qe5{α:Type}{c:α→List Value}{dat:α→DataW H}{sz:Nat}{t:TypeId}(dflt:α)(hsz:0<sz)(hc:∀e,(c e).length=sz)(ut:P.underlying t=some (.slice tE))(cE:P.cellsOf tE=sz)
 (each:∀(fuel:Nat) (cs:List Value) (x:DataW H × List MemPlace),DataW.trod enc P w base spare held fuel tE cs=some x→∃e,cs=c e∧x.1=dat e)
 (h:DataW.trod enc P w base spare held fuel t cs=some x):
 ∃(a:Option Addr) (cap:Nat) (es:List α),cs= [.slice a es.length cap]∧ARow c w a cap es∧(∀l r,x.1=.slice l r→l=es.map dat)∧((es= []∧x.1=.nil)∨∃l r,x.1=.slice l r):=by
 rcases Deep.open_slice ut h with ⟨rfl,rfl⟩|⟨a,len,cap,m,n,D,Pl,rfl,hb,hlc,hcm,hm,rfl,hD⟩
 · exact⟨none,0,[],rfl,⟨by simp,⟨fun j u hj=>by simp at hj⟩⟩,fun l r e=>by simp at e,.inl ⟨rfl,rfl⟩⟩
 have hlm:len≤m:=by rw[hm];split<;>omega
 have eachI:∀i,∃f:α,i<len→w.cells? base (a.add (i*sz)) sz=some (c f)∧D i=dat f:=by
  intro i
  by_cases hi:i<len
  ·
   obtain⟨cs',h1,h2⟩:=hD i (by omega)
   obtain⟨f,rfl,hd⟩:=each _ _ _ h2
   rw[cE] at h1
   exact⟨f,fun _=>⟨h1,hd⟩⟩
  · exact⟨dflt,fun h=>absurd h hi⟩
 obtain⟨F,hF⟩:=Classical.axiomOfChoice eachI
 refine⟨some a,cap,(List.range len).map F,by simp,⟨by simpa using hlc,⟨?_⟩⟩,?_,.inr ⟨_,_,rfl⟩⟩
 ·
  intro j u hj
  have hjl:=(List.getElem?_eq_some_iff.1 hj).1
  rw[Qa8 hc] at hjl
  simp only[List.length_map,List.length_range] at hjl
  have hil:j / sz<len:=(Nat.div_lt_iff_lt_mul hsz).2 hjl
  have hkl:j % sz<sz:=Nat.mod_lt _ hsz
  obtain⟨u',hu'⟩:∃u',(c (F (j / sz)))[j % sz]?=some u':=⟨_,List.getElem?_eq_getElem (by rw[hc];exact hkl)⟩
  have h1:((List.range len).map F)[j / sz]?=some (F (j / sz)):=by simp[hil]
  have h2:=Qb8 hc _ _ _ _ _ h1 hu'
  rw[Nat.div_add_mod' j sz,hj] at h2
  obtain rfl:=Option.some.inj h2
  obtain⟨hcl,_⟩:=hF _ hil
  obtain⟨_,_,hcell⟩:=World.cells?_some hcl
  obtain⟨b,off,sp⟩:=a
  have c0:=hcell (j % sz) (by omega)
  have z:=(World.cells?_some (hF 0 (Nat.lt_of_le_of_lt (Nat.zero_le _) hil)).1).2.2 0 hsz
  have hsp:sp=none:=by
   cases sp with
   |none=>rfl
   |some v=>
    exfalso
    obtain⟨z0,hz0⟩:∃z0,(c (F 0))[0]?=some z0:=⟨_,List.getElem?_eq_getElem (by rw[hc];exact hsz)⟩
    rw[hz0] at z
    simp only[Nat.zero_mul,Addr.add,if_true,World.cell?] at z
    split at z<;>simp at z
  subst hsp
  have ea:∀j k,(Addr.add ⟨b,off,none⟩ j).add k=⟨b,off+j+k,none⟩:=by
   intro j k
   unfold Addr.add
   by_cases hj:j=0<;>by_cases hk:k=0<;>simp[hj,hk]
  rw[ea,hu',Nat.add_assoc,Nat.div_add_mod'] at c0
  exact⟨b,off,rfl,World.block_lt_of_cell? _ _ c0,c0⟩
 ·
  intro l r e
  have e1:(List.range len).map D=l:=by simpa using (DataW.slice.inj e).1
  rw[←e1,List.map_map]
  refine List.map_congr_left fun i hi=>?_
  exact(hF i (by simpa using hi)).2
end
end Go.Proofs.YtgnmjaponiclhaaGreatDoor
namespace Go.Proofs.YtgnmjaponiclhaaGreatDoor
open Go.ChangeShapes Go.WideShapes Go.ChangeAt Go.RowKit
set_option linter.unusedVariables false
set_option linter.unusedSimpArgs false
theorem Qe8:Tryz.prog.cellsOf 69=6:=by kernel_rfl
theorem Qe9:Tryz.prog.cellsOf 71=3:=by kernel_rfl
theorem Qpy:Tryz.prog.cellsOf 50=1:=by kernel_rfl
theorem Qpz:Tryz.prog.cellsOf 51=1:=by kernel_rfl
theorem Qp0:Tryz.prog.cellsOf 52=1:=by kernel_rfl
theorem Qp1:Tryz.prog.cellsOf 54=3:=by kernel_rfl
theorem Qp2:Tryz.prog.readableRec 54=true:=by kernel_rfl
theorem Qp3:54<Tryz.prog.types.size:=by refine of_decide_eq_true ?_;kernel_rfl
section
variable {H:Type}
theorem Qfa{α:Type}(dat:α→DataW H)(hd:∀e,1≤Rows.uptoBulk (dat e))(es:List α):es.length≤Rows.uptoBulkAll (es.map dat):=by
 induction es with
 |nil=>simp
 |cons e l ih=>
  have:=hd e
  simp only[List.map_cons,Rows.uptoBulkAll,List.length_cons]
  omega
theorem Qfb{α:Type}{dat:α→DataW H}{es:List α}{d:DataW H}{N:Nat}(hb:Rows.uptoBulk d≤N)(hl:∀l r,d=.slice l r→l=es.map dat)(hs:(es= []∧d=.nil)∨∃l r,d=.slice l r):Rows.uptoBulkAll (es.map dat)≤N:=by
 rcases hs with ⟨rfl,_⟩|⟨l,r,rfl⟩
 · simp[Rows.uptoBulkAll]
 · rw[←hl l r rfl]
   exact Nat.le_trans (Qpj l r) hb
theorem Qir(s:S2):1≤Rows.uptoBulk (spotD (H:=H) s)∧s.x.size+s.y.size≤Rows.uptoBulk (spotD (H:=H) s):=by
 simp[spotD,textD,Rows.uptoBulk,Rows.uptoBulkAll];omega
theorem Qis(b:B6):1≤Rows.uptoBulk (barD (H:=H) b)∧b.c.size+b.e.size+b.l.size+b.m.size≤Rows.uptoBulk (barD (H:=H) b):=by
 simp[barD,textD,Rows.uptoBulk,Rows.uptoBulkAll];omega
theorem Qit(h:H3):1≤Rows.uptoBulk (holdD (H:=H) h)∧h.q.size≤Rows.uptoBulk (holdD (H:=H) h):=by
 simp[holdD,textD,Rows.uptoBulk,Rows.uptoBulkAll];omega
theorem Qfc{α:Type}(dat:α→DataW H){es:List α}{e:α}(he:e∈ es):Rows.uptoBulk (dat e)≤Rows.uptoBulkAll (es.map dat):=Qiq (List.mem_map.2 ⟨e,he,rfl⟩)
variable {enc:TypeId × Value→H} {W:World}
theorem Qp4{cs:Array Value}{d:DataW H}{ps:List MemPlace}(hb:Rows.uptoBulk d≤1048576)
 (h:DataW.Trod enc Tryz.prog W 0 (fun _=>true) true 54 (.agg cs) d ps):
 ∃(a1 a2 a3:Option Addr) (c1 c2 c3:Nat) (js:List S2) (bs:List B6) (hs:List H3),cs=#[.slice a1 js.length c1,.slice a2 bs.length c2,.slice a3 hs.length c3]∧FrRow W a1 a2 a3 c1 c2 c3 js bs hs∧FrSized js bs hs∧js.length≤1048576∧bs.length≤1048576∧hs.length≤1048576:=by
 obtain⟨fuel,h⟩:=h
 obtain⟨n,v0,v1,v2,y0,y1,y2,hcs,hx,h0,h1,h2⟩:=Qoy Tryz.underlying54 Qp1 rfl rfl rfl Qpy Qpz Qp0 rfl rfl rfl h
 have e0:(Value.agg cs).cells.toList=cs.toList:=by rfl
 rw[e0] at hcs
 clear h e0
 obtain⟨a1,c1,js,e1,r1,l1,s1⟩:=Qe5 (c:=S2.cells) (dat:=spotD) (sz:=2) ⟨⟨#[]⟩,⟨#[]⟩⟩ (by decide) (fun _=>rfl) Tryz.underlying50 Qe6 (fun fuel cs x hx=>by
  obtain⟨s,t,e,hd,_⟩:=Qic Tryz.underlying25 Tryz.underlying23 Qe6 Qb0 rfl rfl rfl rfl hx
  exact⟨⟨s,t⟩,e,hd⟩) h0
 obtain⟨a2,c2,bs,e2,r2,l2,s2⟩:=Qe5 (c:=B6.cells) (dat:=barD) (sz:=6) ⟨0,0,⟨#[]⟩,⟨#[]⟩,⟨#[]⟩,⟨#[]⟩⟩ (by decide) (fun _=>rfl) Tryz.underlying51 Qe8 (fun fuel cs x hx=>Qia Tryz.underlying69 Tryz.underlying23 Tryz.underlying3 Qe8 Qb0 cellsInt rfl rfl rfl rfl rfl rfl rfl rfl rfl rfl rfl rfl hx) h1
 obtain⟨a3,c3,hs,e3,r3,l3,s3⟩:=Qe5 (c:=H3.cells) (dat:=holdD) (sz:=3) ⟨0,0,⟨#[]⟩⟩ (by decide) (fun _=>rfl) Tryz.underlying52 Qe9 (fun fuel cs x hx=>Qib Tryz.underlying71 Tryz.underlying23 Tryz.underlying3 Tryz.underlying3 Qe9 Qb0 cellsInt cellsInt rfl rfl rfl rfl rfl rfl hx) h2
 obtain rfl:v0=_:=by simpa using e1
 obtain rfl:v1=_:=by simpa using e2
 obtain rfl:v2=_:=by simpa using e3
 have hd:d=.agg [y0.1,y1.1,y2.1]:=hx
 subst hd
 have b0:Rows.uptoBulk y0.1≤1048576:=Nat.le_trans (by simp only[Rows.uptoBulk,Rows.uptoBulkAll];omega) hb
 have b1:Rows.uptoBulk y1.1≤1048576:=Nat.le_trans (by simp only[Rows.uptoBulk,Rows.uptoBulkAll];omega) hb
 have b2:Rows.uptoBulk y2.1≤1048576:=Nat.le_trans (by simp only[Rows.uptoBulk,Rows.uptoBulkAll];omega) hb
 have k0:=Qfb b0 l1 s1
 have k1:=Qfb b1 l2 s2
 have k2:=Qfb b2 l3 s3
 have n0:=Qfa (H:=H) spotD (fun e=>(Qir e).1) js
 have n1:=Qfa (H:=H) barD (fun e=>(Qis e).1) bs
 have n2:=Qfa (H:=H) holdD (fun e=>(Qit e).1) hs
 refine⟨a1,a2,a3,c1,c2,c3,js,bs,hs,by rw[←Array.toArray_toList (xs:=cs),hcs],⟨r1,r2,r3⟩,⟨fun p hp=>?_,fun p hp=>?_,fun p hp=>?_⟩,by omega,by omega,by omega⟩
 ·
  have g1:=Qfc (H:=H) spotD hp
  have g2:=(Qir (H:=H) p).2
  omega
 ·
  have g1:=Qfc (H:=H) barD hp
  have g2:=(Qis (H:=H) p).2
  omega
 ·
  have g1:=Qfc (H:=H) holdD hp
  have g2:=(Qit (H:=H) p).2
  omega
end
theorem Qbk{s:ByteArray}{l:List UInt8}(h:s.data.toList=l):s=⟨l.toArray⟩:=by
 obtain⟨⟨m⟩⟩:=s
 simp at h
 subst h
 rfl
theorem gSpot:Tryz.prog.globalNamed "rafter/raftersame.Spot" =some 2:=by kernel_rfl
theorem gSpotType:(Tryz.prog.globals[2]?).map (·.type)=some 25:=by kernel_rfl
theorem gBar:Tryz.prog.globalNamed "rafter/raftersame.Bar" =some 3:=by kernel_rfl
theorem gBarType:(Tryz.prog.globals[3]?).map (·.type)=some 69:=by kernel_rfl
theorem gHold:Tryz.prog.globalNamed "rafter/raftersame.Hold" =some 4:=by kernel_rfl
theorem gHoldType:(Tryz.prog.globals[4]?).map (·.type)=some 71:=by kernel_rfl
theorem Qpq{W:World}{rest:List (String × DataW Unit)}(h:laidMet Tryz.prog (("rafter/raftersame.Spot",Rows.laid_rafter_raftersame_Spot) :: rest) W):W.cell? ⟨2,0,none⟩=some (.string ⟨#[109,97,114,107]⟩)∧W.cell? ⟨2,1,none⟩=some (.string ⟨#[]⟩):=by
 obtain⟨ps,⟨g,t,cs,fuel,p,q,hg,ht,hvar,hd,_,_⟩,_⟩:=h
 obtain rfl:=Option.some.inj (gSpot.symm.trans hg)
 obtain rfl:=Option.some.inj (gSpotType.symm.trans ht)
 obtain⟨x,y,hcs,hx,_⟩:=Qic Tryz.underlying25 Tryz.underlying23 Qe6 Qb0 rfl rfl rfl rfl hd
 simp only[Rows.laid_rafter_raftersame_Spot,DataW.agg.injEq,List.cons.injEq,DataW.lit.injEq,Lit.string.injEq,and_true] at hx
 obtain⟨h0,h1⟩:=hx
 have c:∀i,W.cell? ⟨2,i,none⟩=cs.toList[i]?:=fun i=>by rw[World.var?_cell gSpot hvar i];simp
 rw[hcs] at c
 refine⟨?_,?_⟩
 · rw[c 0,←Qbk h0.symm];rfl
 · rw[c 1,←Qbk h1.symm];rfl
theorem Qpr{W:World}{rest:List (String × DataW Unit)}(h:laidMet Tryz.prog (("rafter/raftersame.Bar",Rows.laid_rafter_raftersame_Bar) :: rest) W):
 W.cell? ⟨3,0,none⟩=some (.int .i64 (-9))∧W.cell? ⟨3,1,none⟩=some (.int .i64 0)∧W.cell? ⟨3,2,none⟩=some (.string ⟨#[]⟩)∧W.cell? ⟨3,3,none⟩=some (.string ⟨#[]⟩)∧W.cell? ⟨3,4,none⟩=some (.string ⟨#[]⟩)∧W.cell? ⟨3,5,none⟩=some (.string ⟨#[]⟩):=by
 obtain⟨ps,⟨g,t,cs,fuel,p,q,hg,ht,hvar,hd,_,_⟩,_⟩:=h
 obtain rfl:=Option.some.inj (gBar.symm.trans hg)
 obtain rfl:=Option.some.inj (gBarType.symm.trans ht)
 obtain⟨b,hcs,hx⟩:=Qia Tryz.underlying69 Tryz.underlying23 Tryz.underlying3 Qe8 Qb0 cellsInt rfl rfl rfl rfl rfl rfl rfl rfl rfl rfl rfl rfl hd
 simp only[Rows.laid_rafter_raftersame_Bar,barD,textD,DataW.agg.injEq,List.cons.injEq,DataW.lit.injEq,Lit.string.injEq,Lit.int.injEq,true_and,and_true] at hx
 obtain⟨h0,h1,h2,h3,h4,h5⟩:=hx
 have c:∀i,W.cell? ⟨3,i,none⟩=cs.toList[i]?:=fun i=>by rw[World.var?_cell gBar hvar i];simp
 rw[hcs] at c
 refine⟨?_,?_,?_,?_,?_,?_⟩
 · rw[c 0,h0];rfl
 · rw[c 1,h1];rfl
 · rw[c 2,←Qbk h2.symm];rfl
 · rw[c 3,←Qbk h3.symm];rfl
 · rw[c 4,←Qbk h4.symm];rfl
 · rw[c 5,←Qbk h5.symm];rfl
theorem Qps{W:World}{rest:List (String × DataW Unit)}(h:laidMet Tryz.prog (("rafter/raftersame.Hold",Rows.laid_rafter_raftersame_Hold) :: rest) W):W.cell? ⟨4,0,none⟩=some (.int .i64 (-9))∧W.cell? ⟨4,1,none⟩=some (.int .i64 0)∧W.cell? ⟨4,2,none⟩=some (.string ⟨#[]⟩):=by
 obtain⟨ps,⟨g,t,cs,fuel,p,q,hg,ht,hvar,hd,_,_⟩,_⟩:=h
 obtain rfl:=Option.some.inj (gHold.symm.trans hg)
 obtain rfl:=Option.some.inj (gHoldType.symm.trans ht)
 obtain⟨b,hcs,hx⟩:=Qib Tryz.underlying71 Tryz.underlying23 Tryz.underlying3 Tryz.underlying3 Qe9 Qb0 cellsInt cellsInt rfl rfl rfl rfl rfl rfl hd
 simp only[Rows.laid_rafter_raftersame_Hold,holdD,textD,DataW.agg.injEq,List.cons.injEq,DataW.lit.injEq,Lit.string.injEq,Lit.int.injEq,true_and,and_true] at hx
 obtain⟨h0,h1,h2⟩:=hx
 have c:∀i,W.cell? ⟨4,i,none⟩=cs.toList[i]?:=fun i=>by rw[World.var?_cell gHold hvar i];simp
 rw[hcs] at c
 refine⟨?_,?_,?_⟩
 · rw[c 0,h0];rfl
 · rw[c 1,h1];rfl
 · rw[c 2,←Qbk h2.symm];rfl
theorem Qpt{W:World}{rest:List (String × DataW Unit)}(h:laidMet Tryz.prog (("rafter/raftersame.Spot",Rows.laid_rafter_raftersame_Spot) :: ("rafter/raftersame.Bar",Rows.laid_rafter_raftersame_Bar) :: ("rafter/raftersame.Hold",Rows.laid_rafter_raftersame_Hold) :: rest) W):Marks3 W:=by
 obtain⟨s0,s1⟩:=Qpq h
 obtain⟨b0,b1,b2,b3,b4,b5⟩:=Qpr (Qa2 h)
 obtain⟨h0,h1,h2⟩:=Qps (Qa2 (Qa2 h))
 exact⟨s0,s1,b0,b1,b2,b3,b4,b5,h0,h1,h2⟩
namespace rigChecks
set_option maxRecDepth 100000 in
set_option maxHeartbeats 1000000 in
theorem Qpu(H:Type)(enc:TypeId × Value→H)(W:World)(base:Nat)(args:Array Value)(ds gs:List (DataW H))(before:List MemPlace)
 (hval:∀(j:Nat) t v,Tryz.f5.params[j]?=some t→args[j]?=some v→Value.okWide Tryz.prog W .any base t v)
 (hW:DataW.Whole enc Tryz.prog Tryz.f5.params.toList Rows.rigChecksSpec.vars false W args.toList ds gs before) (hk:Rows.uptoSmall H (ds++gs)=true) (hG:Glob W) (hM:Marks3 W):
 Calls Tryz.prog 5 args W fun e W'=>∃v,e=.returned v∧Rows.rigChecksSpec.post enc Tryz.prog Tryz.f5 false true false false W args v W':=by
 have hW':=hW
 obtain⟨p,q,hA0,hV,rfl,hfz,hnd⟩:=hW
 have hA:DataW.TrodAll enc Tryz.prog W 0 (fun _=>true) true Tryz.f5.params.toList args.toList ds p:=hA0
 rw[Tryz.params5] at hA hval
 obtain⟨v0,d0,rfl,rfl,h0⟩:=trodAll_one hA
 obtain⟨rfl,rfl⟩:=trodVars_none hV
 clear hA0
 obtain⟨cs,rfl,hcs⟩:=okWide_struct Tryz.underlying54 (hval 0 54 v0 rfl rfl)
 unfold Rows.uptoSmall at hk
 have hb:=of_decide_eq_true hk
 rw[List.append_nil] at hb
 obtain⟨a1,a2,a3,c1,c2,c3,js,bs,hs,rfl,hf,hz,n1,n2,n3⟩:=Qp4 (Nat.le_trans (Qiq (by simp)) hb) h0
 have hlt:∀x∈ p++ [],x.block<W.heap.size:=fun x hx=>hW'.lt x hx
 refine(Qmd (fun v hv=>Qj1 v hv) a1 a2 a3 c1 c2 c3 js bs hs W hG hM hf hz n1 n2 n3).mono ?_
 rintro e W' ⟨rfl,hbel⟩
 refine⟨_,rfl,[d0],[],p++ [],[],p++ [],[],hW',trodAll_cons_mk (shut_bool Tryz.underlying4 _) trodAll_mk0,?_,rfl,hbel.frame _,fun h=>by cases h⟩
 show DataW.TrodAll enc Tryz.prog W' 0 (fun b=>decide (b<W.heap.size)) true Tryz.f5.params.toList _ [d0] _
 rw[Tryz.params5]
 exact trodAll_cons_mk (Below.trod Qpi Qp2 Qp3 h0 hbel (fun x hx=>hlt x (by simp[hx]))) trodAll_mk0
theorem glob{W:World}(hL:laidMetH Tryz.prog Rows.rigChecksUptoRow.laid W)(hsh:W.ShapedOpen Tryz.prog):Glob W:=
 ⟨Qpp hsh,Qpo (Qa2 (Qa2 (show laidMet Tryz.prog Rows.rigChecksUptoRow.laid W from hL)))⟩
theorem mark{W:World}(hL:laidMetH Tryz.prog Rows.rigChecksUptoRow.laid W):Marks3 W:=
 Qpt (Qa2 (Qa2 (Qa2 (Qa2 (show laidMet Tryz.prog Rows.rigChecksUptoRow.laid W from hL)))))
end rigChecks
def tabledF(w:World):World:=
 put 11 Rows.laid_math_bits_deBruijn32tab (put 12 Rows.laid_math_bits_deBruijn64tab (put 8 Rows.laid_internal_strconv_uint64pow10
  (put 7 Rows.laid_unicode_utf8_acceptRanges (put 6 Rows.laid_unicode_utf8_first (put 2 Rows.laid_rafter_raftersame_Spot (put 3 Rows.laid_rafter_raftersame_Bar (put 4 Rows.laid_rafter_raftersame_Hold w)))))))
end Go.Proofs.YtgnmjaponiclhaaGreatDoor
