/- For every world that holds the tables, and all stones and texts that together are of bulk at most 1048576: ArchStands answers true; what its row's premises give. -/
import Derived.Test.YtldjeecnapgakaaGreatDoorV42ArkQ
import Derived.Test.YtldjeecnapgakaaGreatDoorCards
import Derived.Test.YtldjeecnapgakaaGreatDoorTie
import Derived.Deep.DeepHandedRow
namespace Go.Proofs.YtldjeecnapgakaaGreatDoor
open Go.RowKit
open Go.Proofs.Tryz
set_option linter.unusedSimpArgs false
set_option linter.unusedVariables false
set_option maxHeartbeats 8000000
set_option maxRecDepth 1000000
theorem Qea{c:UInt8}{l:List UInt8}{q:Rat}(hl:l= [c])(h1:48<=c.toNat)(h2:c.toNat<=57)(ht:Lib.trimPrefix l [45]=l)(hp:Lib.hasPrefix l [45]=false)(hc:Lib.cut l [47]=(l,[],false))(hq:q=mkRat (decVal l:Nat) 1):QOf l q:=by
 refine⟨q,.inl ⟨⟨?_,?_⟩,?_⟩,by rw[hp];rfl⟩
 .
  rw[ht,hc,hl];exact⟨by simp,fun d hd=>by
   obtain rfl:d=c:=by simpa using hd
   exact⟨h1,h2⟩⟩
 . rw[ht,hc];intro h;cases h
 . rw[ht,hc];simpa using hq
theorem vq0:QOf [48] 0:=Qea rfl (by decide) (by decide) (by decide) (by decide) (by decide) (by decide)
theorem vq1:QOf [49] 1:=Qea rfl (by decide) (by decide) (by decide) (by decide) (by decide) (by decide)
theorem vq2:QOf [50] 2:=Qea rfl (by decide) (by decide) (by decide) (by decide) (by decide) (by decide)
theorem vqe:QOf [] 0:=⟨0,.inr ⟨fun h=>h.1.1 (by decide),rfl⟩,by decide⟩
theorem Qeb{d:Nat}(h0:0<d)(h9:d<10):QText [UInt8.ofNat (48+d)] ((d:Nat):Rat):=
 ⟨[UInt8.ofNat (48+d)],⟨[UInt8.ofNat (48+d)],.inr ⟨by simp;omega,[d],⟨fun e he=>by simp at he;omega,.inr (by simp;omega),by simp[val]⟩,by simp⟩,by
   rw[if_neg (by simp)]⟩,.inl ⟨by simp,rfl⟩⟩
theorem vt0:QText [48] 0:=⟨[48],⟨[48],.inl ⟨by decide,rfl⟩,by decide⟩,.inl ⟨by decide,rfl⟩⟩
theorem vt1:QText [49] 1:=Qeb (d:=1) (by decide) (by decide)
theorem vt2:QText [50] 2:=Qeb (d:=2) (by decide) (by decide)
theorem vt4:QText [52] 4:=Qeb (d:=4) (by decide) (by decide)
def vauV:List V4:=[(0,0,0,0),(1,1,1,2),(2,0,0,0)]
theorem Qc3:archF vauV=(0,0):=by decide
theorem Qk4:vauV.length=3:=rfl
theorem Qc4:atF vauV 0=0/\atF vauV 1=1/\atF vauV 2=2:=⟨rfl,rfl,rfl⟩
theorem Qc5:loF vauV 0=0/\loF vauV 1=1/\loF vauV 2=0:=⟨rfl,rfl,rfl⟩
theorem Qc6:hiF vauV 0=0/\hiF vauV 1=2/\hiF vauV 2=0:=⟨rfl,rfl,rfl⟩
theorem Qc7(h:Rat):shp (atF vauV) (wtF vauV) h 0=0/\shp (atF vauV) (wtF vauV) h 1=0/\shp (atF vauV) (wtF vauV) h 2= -h:=by
 have w1:wtF vauV 1=1:=rfl;have a1:atF vauV 1=1:=rfl;have a2:atF vauV 2=2:=rfl;refine⟨rfl,rfl,?_⟩;simp only[shp,slo,w1,a1,a2];grind
theorem Qgc(h:Rat):HasLine vauV h↔InR 2 (some 4) h:=by
 obtain⟨hr,hw,hlh⟩:=Qa5 (vs:=vauV) (by rw[Qc3]);unfold HasLine InR;rw[Qf0 (by decide) hr hlh];obtain⟨a0,a1,a2⟩:=Qc4;obtain⟨l0,l1,l2⟩:=Qc5;obtain⟨u0,u1,u2⟩:=Qc6;obtain⟨s0,s1,s2⟩:=Qc7 1;constructor
 .
  rintro⟨h0,hall⟩;have:=hall 0 1 2 (by decide) (by decide) (by decide);unfold abv at this;rw[a0,a1,a2,l0,l1,l2,u0,u1,u2,s0,s1,s2] at this;refine⟨by grind,fun m hm=>?_⟩;obtain rfl:=Option.some.inj hm;grind
 .
  rintro⟨h2,h4⟩;have h4:=h4 4 rfl;refine⟨by grind,fun i j k hij hjk hk=>?_⟩;rw[Qk4] at hk;obtain⟨rfl,rfl,rfl⟩:i=0/\j=1/\k=2:=by omega
  unfold abv;rw[a0,a1,a2,l0,l1,l2,u0,u1,u2,s0,s1,s2];constructor<;>grind
theorem Qk5{i j:Nat}(hf:fitsTo vauV (lnC vauV 2 i j) 3):lnC vauV 2 i j 0=0/\lnC vauV 2 i j 1=1/\lnC vauV 2 i j 2=0:=by
 obtain⟨a0,a1,a2⟩:=Qc4;obtain⟨l0,l1,l2⟩:=Qc5;obtain⟨u0,u1,u2⟩:=Qc6;obtain⟨s0,s1,s2⟩:=Qc7 2;have f0:=hf 0 (by decide);have f1:=hf 1 (by decide);have f2:=hf 2 (by decide);unfold lnC lnV at f0 f1 f2 ⊢;rw[a0,l0,u0,s0] at f0;rw[a1,l1,u1,s1] at f1;rw[a2,l2,u2,s2] at f2;rw[a0,a1,a2,s0,s1,s2];generalize stC vauV 2 i=st at*;generalize slC vauV 2 i j=m at*;generalize atF vauV i=pa at*;refine⟨by grind,by grind,by grind⟩
theorem Qk6:fitsTo vauV (lnC vauV 2 0 2) 3:=by
 obtain⟨a0,a1,a2⟩:=Qc4;obtain⟨l0,l1,l2⟩:=Qc5;obtain⟨u0,u1,u2⟩:=Qc6;obtain⟨s0,s1,s2⟩:=Qc7 2;have e1:stC vauV 2 0=0:=by unfold stC;rw[l0,s0];grind
 have e2:slC vauV 2 0 2=1:=by unfold slC;rw[u2,s2,a2,a0,e1];grind
 intro k hk;unfold lnC lnV;rw[e1,e2,a0];have:k=0∨k=1∨k=2:=by omega
 rcases this with rfl|rfl|rfl
 . rw[a0,l0,u0,s0];constructor<;>grind
 . rw[a1,l1,u1,s1];constructor<;>grind
 . rw[a2,l2,u2,s2];constructor<;>grind
def vauZ(i:Nat):Rat:=if i=1 then 1 else 0
theorem Qk7:goesTo (lnS vauV 2 vauZ) vauZ 3/\fitsTo vauV (lnS vauV 2 vauZ) 3:=by
 obtain⟨a0,a1,a2⟩:=Qc4;obtain⟨l0,l1,l2⟩:=Qc5;obtain⟨u0,u1,u2⟩:=Qc6;obtain⟨s0,s1,s2⟩:=Qc7 2;have z0:vauZ 0=0:=rfl;have z1:vauZ 1=1:=rfl;have z2:vauZ 2=0:=rfl;have e:((1:Rat) - 0 - (0 - 0)) / (1 - 0)=1:=by grind
 have key:lnS vauV 2 vauZ 0=0/\lnS vauV 2 vauZ 1=1/\lnS vauV 2 vauZ 2=0:=by
  unfold lnS lnV;rw[z0,z1,a0,a1,a2,s0,s1,s2,e];refine⟨by grind,by grind,by grind⟩
 constructor
 .
  intro k hk;have:k=0∨k=1∨k=2:=by omega
  rcases this with rfl|rfl|rfl
  . rw[key.1,z0]
  . rw[key.2.1,z1]
  . rw[key.2.2,z2]
 .
  intro k hk;have:k=0∨k=1∨k=2:=by omega
  rcases this with rfl|rfl|rfl
  . rw[key.1,l0,u0];constructor<;>grind
  . rw[key.2.1,l1,u1];constructor<;>grind
  . rw[key.2.2,l2,u2];constructor<;>grind
def vauS:List T4:=[⟨⟨#[48]⟩,⟨#[]⟩,⟨#[]⟩,⟨#[48]⟩⟩,⟨⟨#[49]⟩,⟨#[49]⟩,⟨#[49]⟩,⟨#[50]⟩⟩,⟨⟨#[50]⟩,⟨#[]⟩,⟨#[]⟩,⟨#[48]⟩⟩]
def vauT:List ByteArray:=[⟨#[48]⟩,⟨#[49]⟩,⟨#[48]⟩]
theorem vf0:Fits 0 4194400:=(show Fits 0 2 from ⟨by decide,by decide⟩).mono (by decide)
theorem vf1:Fits 1 4194400:=(show Fits 1 2 from ⟨by decide,by decide⟩).mono (by decide)
theorem vf2:Fits 2 4194400:=(show Fits 2 2 from ⟨by decide,by decide⟩).mono (by decide)
theorem Qec:StonesV vauS vauV:=by
 refine⟨rfl,fun i s v hs hv=>?_⟩;have hi:i<3:=(gZ hs).1;have:i=0∨i=1∨i=2:=by omega
 rcases this with rfl|rfl|rfl<;>cases hs<;>cases hv
 . exact⟨vq0,vqe,vqe,vq0,⟨by decide,vf0⟩,⟨by decide,vf0⟩,⟨by decide,vf0⟩,⟨by decide,vf0⟩⟩
 . exact⟨vq1,vq1,vq1,vq2,⟨by decide,vf1⟩,⟨by decide,vf1⟩,⟨by decide,vf1⟩,⟨by decide,vf2⟩⟩
 . exact⟨vq2,vqe,vqe,vq0,⟨by decide,vf2⟩,⟨by decide,vf0⟩,⟨by decide,vf0⟩,⟨by decide,vf0⟩⟩
theorem Qk8:HeightsV vauT vauZ 1:=by
 refine⟨fun i s hs=>?_,by decide⟩;have hi:i<3:=(gZ hs).1;have:i=0∨i=1∨i=2:=by omega
 rcases this with rfl|rfl|rfl<;>cases hs
 . exact⟨vq0,⟨by decide,by decide⟩,by decide⟩
 . exact⟨vq1,⟨by decide,by decide⟩,by decide⟩
 . exact⟨vq0,⟨by decide,by decide⟩,by decide⟩
theorem SB.arowV{α:Type}{c:α->List Value}{w:World}{g cap:Nat}{t:TypeId}{C:Array Value}{es:List α}(h:SB w g t C)(hc:C.toList=es.flatMap c)(hl:es.length<=cap):ARow c w (some ⟨g,0,none⟩) cap es:=
 ⟨hl,⟨fun j u hj=>⟨g,0,rfl,h.lt,by rw[Nat.zero_add,h.cell,<-Array.getElem?_toList,hc];exact hj⟩⟩⟩
theorem ba_eq{s:ByteArray}{l:List UInt8}(h:s.data.toList=l):s=⟨l.toArray⟩:=by
 cases s;simp at h;simp[<-h]
theorem Qk9{e:Ending}(h:SlacksSays vauV e):e=.returned (.tuple #[.string ⟨#[50]⟩,.string ⟨#[52]⟩,.bool false,.agg #[.int .i64 0,.int .i64 0]]):=by
 obtain⟨s1,s2,o,c1,c2,rfl,hs⟩:=h;have hl:InR 2 (some 4) 2:=⟨Rat.le_refl,fun m hm=>by cases hm;decide⟩;rcases hs with ⟨h,_⟩|⟨_,_,_,_,_,h⟩|⟨_,hc,least,most,h1,h2,h3,h4⟩
 . rw[Qc3] at h
   exact absurd rfl h
 . exact absurd ((Qgc 2).2 hl) (h 2)
 .
  obtain⟨rfl,rfl⟩:=InR.uniq (fun x=>(h4 x).trans (Qgc x)) h3;obtain⟨rfl,rfl⟩:=Prod.mk.inj hc;rcases h2 with ⟨_,_,h⟩|⟨rfl,m,hm,hq⟩
  . cases h
  . cases hm
    rw[ba_eq (h1.inj vt2),ba_eq (hq.inj vt4)]
theorem Qla{w:World}{e:Ending}{w':World}(h:LineSays vauV 2 w e w'):∃g,e=.returned (.tuple #[.slice (some ⟨g,0,none⟩) 3 3,.agg #[.int .i64 0,.int .i64 0]])/\SB w' g 23 (textsV vauT).toArray:=by
 obtain⟨v,c1,c2,rfl,hs⟩:=h;rcases hs with ⟨h,_⟩|⟨_,h,_⟩|⟨_,_,_,_,h⟩|⟨_,_,hc,i,j,g,ls,hij,hj,hf,rfl,hg,hl,hsb,hq⟩
 . rw[Qc3] at h
   exact absurd rfl h
 . exact absurd h (by decide)
 . exact absurd Qk6 (h 0 2 (by decide) (by decide))
 .
  obtain⟨rfl,rfl⟩:=Prod.mk.inj hc;obtain⟨y0,y1,y2⟩:=Qk5 hf;have e:ls=vauT:=by
   match ls,hl,hq with
   | [a,b,c],_,hq=>
     have h0:=hq 0 a rfl;have h1:=hq 1 b rfl;have h2:=hq 2 c rfl;rw[y0] at h0;rw[y1] at h1;rw[y2] at h2;rw[ba_eq (h0.inj vt0),ba_eq (h1.inj vt1),ba_eq (h2.inj vt0)];rfl
  subst e;exact⟨g,rfl,hsb⟩
theorem Qlb{b:Bool}{c1 c2:Int}(h:standsF vauV 2 3 vauZ b (c1,c2)):b=true/\c1=0/\c2=0:=by
 unfold standsF at h;rw[if_neg (by rw[Qc3];decide),if_neg (by decide),if_neg (by decide)] at h;obtain⟨h1,h2⟩:=h;obtain⟨rfl,rfl⟩:=Prod.mk.inj h1;exact⟨h2.2 Qk7,rfl,rfl⟩
theorem Qlc(w:World)(hg:Glob w):Calls prog 5 #[] w fun e w'=>e=.returned (.bool true)/\Below w.heap.size w w':=by
 have HG:=Hi hg;obtain⟨B,hB⟩:=nm w.heap.size;obtain⟨V,hV⟩:=nm (w.alloc (.cells #[.string ⟨#[48]⟩,.string ⟨#[]⟩,.string ⟨#[]⟩,.string ⟨#[48]⟩,.string ⟨#[49]⟩,.string ⟨#[49]⟩,.string ⟨#[49]⟩,.string ⟨#[50]⟩,.string ⟨#[50]⟩,.string ⟨#[]⟩,.string ⟨#[]⟩,.string ⟨#[48]⟩] 28));have HBV:=Ua hV;have HRW:O (ARow T4.cells V (some ⟨B,0,none⟩) 3 vauS):=Hi (SB.arowV (by rw[<-hV,<-hB];exact SB.new w _ _) rfl (by decide));obtain⟨HVE,HBE⟩:=Ia hV hB;clear hg hV hB;go_enter func5,ntmps5;go_wp2_with fail;rw[HVE.o];simp only[HBE.o];refine(Qgb (some ⟨B,0,none⟩) 3 vauS vauV V (HG.o.below HBV.o) HRW.o Qec (by decide)).mono ?_;rintro e w1 ⟨hs,hb1⟩;obtain rfl:=Qk9 hs;clear hs;obtain⟨b5,hb5⟩:∃b,w1.heap.size=b:=⟨_,rfl⟩
 obtain⟨V1,hV1⟩:∃V,w1.alloc (.cells #[.int .i64 0,.int .i64 0] 32)=V:=⟨_,rfl⟩;have hbv:Below w1.heap.size w1 V1:=by rw[<-hV1];exact(Below.refl _ _).alloc lZ _
 have HS5:=Uf hV1 hb5;have HB1:O (Below V.heap.size V V1):=Hi (hb1.trans (hbv.mono hb1.size));obtain⟨HV1,HB5⟩:=Ia hV1 hb5;clear hb1 hbv hV1 hb5 HVE;go_wp2_with fail;rw[HV1.o];simp only[HB5.o];have HBW1:=Hi (HBV.o.trans (HB1.o.mono HBV.o.size));refine(Qf9 (some ⟨B,0,none⟩) 3 4194400 2 vauS vauV ⟨#[50]⟩ 2 V1 (HG.o.below HBW1.o) (HRW.o.below HB1.o) Qec (by decide) vq2 (by decide) ⟨by decide,by decide⟩ (by decide) (by decide) (by decide) (by decide)).mono ?_;rintro e w2 ⟨hs,hb2⟩;obtain⟨g,rfl,hg⟩:=Qla hs;clear hs;obtain⟨b7,hb7⟩:∃b,w2.heap.size=b:=⟨_,rfl⟩;obtain⟨V2,hV2⟩:∃V,w2.alloc (.cells #[.int .i64 0,.int .i64 0] 32)=V:=⟨_,rfl⟩;obtain⟨V3,hV3⟩:∃V,V2.alloc (.cells #[.string ⟨#[48]⟩,.string ⟨#[49]⟩,.string ⟨#[48]⟩] 23)=V:=⟨_,rfl⟩;have hz2:V2.heap.size=b7+1:=by rw[<-hV2,World.size_alloc,hb7]
 have h23:Below V2.heap.size V2 V3:=by rw[<-hV3];exact(Below.refl _ _).alloc lZ _
 have h2v:Below w2.heap.size w2 V2:=by rw[<-hV2];exact(Below.refl _ _).alloc lZ _
 have hs7:SB V2 b7 32 #[.int .i64 0,.int .i64 0]:=by rw[<-hV2,<-hb7];exact SB.new w2 _ _
 have HS7:=Hi (hs7.below h23 hs7.lt);have HR3:O (ARow tc V3 (some ⟨b7+1,0,none⟩) 3 vauT):=Hi (SB.arowV (by rw[<-hV3,<-hz2];exact SB.new V2 _ _) rfl (by decide));have HB3:O (Below V1.heap.size V1 V3):=Hi ((hb2.trans (h2v.mono hb2.size)).trans (h23.mono (Nat.le_trans hb2.size h2v.size)));obtain⟨HGS,HBW3,HRV3,HS53⟩:=Ic ((hg.below h2v hg.lt).below h23 (hg.below h2v hg.lt).lt) (HBW1.o.trans (HB3.o.mono HBW1.o.size)) ((HRW.o.below HB1.o).below HB3.o) (HS5.o.below HB3.o HS5.o.lt);have HV23:O ((w2.alloc (.cells #[.int .i64 0,.int .i64 0] 32)).alloc (.cells #[.string ⟨#[48]⟩,.string ⟨#[49]⟩,.string ⟨#[48]⟩] 23)=V3):=Hi (by rw[hV2,hV3]);have HB7:=Hi hb7;clear hb2 hg hb7 hV2 hV3 hz2 h23 h2v hs7 HV1;go_wp2_with fail;rw[HV23.o];simp only[HB7.o]
 refine(Qf8 (some ⟨B,0,none⟩) (some ⟨b7+1,0,none⟩) 3 3 4194400 2 1 vauS vauV ⟨#[50]⟩ 2 vauT vauZ V3 (HG.o.below HBW3.o) HRV3.o Qec (by decide) (by decide) vq2 (by decide) ⟨by decide,by decide⟩ (by decide) HR3.o Qk8 (by decide) (by decide) (by decide) (by decide)).mono ?_;rintro e w4 ⟨⟨b,c1,c2,rfl,hs⟩,hb4⟩;obtain⟨rfl,rfl,rfl⟩:=Qlb hs;clear hs;obtain⟨b9,hb9⟩:∃b,w4.heap.size=b:=⟨_,rfl⟩;obtain⟨V4,hV4⟩:∃V,w4.alloc (.cells #[.int .i64 0,.int .i64 0] 32)=V:=⟨_,rfl⟩;obtain⟨V5,hV5⟩:∃V,V4.alloc (.cells #[.string ⟨#[48]⟩,.string ⟨#[49]⟩,.string ⟨#[48]⟩] 23)=V:=⟨_,rfl⟩;have hz4:V4.heap.size=b9+1:=by rw[<-hV4,World.size_alloc,hb9]
 have h45:Below V4.heap.size V4 V5:=by rw[<-hV5];exact(Below.refl _ _).alloc lZ _
 have h4v:Below w4.heap.size w4 V4:=by rw[<-hV4];exact(Below.refl _ _).alloc lZ _
 have h34:Below V3.heap.size V3 V4:=hb4.trans (h4v.mono hb4.size);have h35:Below V3.heap.size V3 V5:=h34.trans (h45.mono h34.size);obtain⟨x0,x1⟩:=Qai (HS53.o.below h34 HS53.o.lt);obtain⟨y0,y1⟩:=Qai (HS7.o.below h34 HS7.o.lt);obtain⟨z0,z1⟩:=Qai (show SB V4 b9 32 #[.int .i64 0,.int .i64 0] by rw[<-hV4,<-hb9];exact SB.new w4 _ _);rw[<-hV4] at x0 x1 y0 y1 z0 z1;rw[<-hb9] at z0 z1;obtain⟨HE,HBW5⟩:=Ia (Qhd (some ⟨g,0,none⟩) (some ⟨b9+1,0,none⟩) 3 3 vauT V5 (HGS.o.below h35 HGS.o.lt).texts (show SB V5 (b9+1) 23 (textsV vauT).toArray by rw[<-hV5,<-hz4];exact SB.new V4 _ _).texts (by decide)) (HBW3.o.trans (h35.mono HBW3.o.size));have HV45:O ((w4.alloc (.cells #[.int .i64 0,.int .i64 0] 32)).alloc (.cells #[.string ⟨#[48]⟩,.string ⟨#[49]⟩,.string ⟨#[48]⟩] 23)=V5):=Hi (by rw[hV4,hV5]);have HB9:=Hi hb9;clear hb4 hb9 hV4 hV5 hz4 h45 h4v h34 h35 HV23;go_wp2_with fail;rw[HV45.o]
 simp only[HB9.o];refine HE.o.mono ?_;rintro e w6 ⟨rfl,hb6⟩;have HBW6:=Hi (HBW5.o.trans (hb6.mono HBW5.o.size));clear hb6 x0 x1 y0 y1 z0 z1;go_wp2;go_ret;exact⟨rfl,HBW6.o⟩
end Go.Proofs.YtldjeecnapgakaaGreatDoor
namespace Go.Proofs.YtldjeecnapgakaaGreatDoor
open Go.Proofs.Tryz
set_option linter.unusedSimpArgs false
set_option linter.unusedVariables false
set_option maxHeartbeats 8000000
set_option maxRecDepth 1000000
def VFits(A:Nat)(vs:List V4):Prop:=∀v,v∈ vs->Fits v.1 A/\Fits v.2.1 A/\Fits v.2.2.1 A/\Fits v.2.2.2 A
section
variable {A H:Nat} {vs:List V4} {h:Rat}
theorem VFits.at(hv:VFits A vs)(hA:0<A)(i:Nat):Fits (atF vs i) A/\Fits (wtF vs i) A/\Fits (loF vs i) A/\Fits (hiF vs i) A:=by
 unfold atF wtF loF hiF;cases e:vs[i]? with
 |none=>exact⟨Fits.zero.mono hA,Fits.zero.mono hA,Fits.zero.mono hA,Fits.zero.mono hA⟩
 |some v=>exact hv v (mO e)
theorem Qgd(hv:VFits A vs)(hh:Fits h H)(hA:0<A)(hH:0<H):∀i,Fits (slo (wtF vs) h i) (1+(i - 1)*(H+A+1))
 |0=>Fits.zero.mono (by omega)
 |1=>Fits.zero.mono (by omega)
 |i+2=>by
  have h1:=Qgd hv hh hA hH (i+1);have h2:=hh.mul (hv.at hA (i+1)).2.1 hH;have e:1+(i+2 - 1)*(H+A+1)=1+(i+1 - 1)*(H+A+1)+(H+A)+1:=by
   rw[show i+2 - 1=i+1 by omega,show i+1 - 1=i by omega,Nat.succ_mul];omega
  rw[e];exact h1.sub h2
def tK(A H:Nat):Nat->Nat
 |0=>1
 |1=>1
 |i+2=>tK A H (i+1)+(1+(i+1)*(H+A+1)+(A+A+1))+1
theorem tK_up(A H:Nat):∀i,tK A H i<=tK A H (i+1)
 |0=>Nat.le_refl _
 |i+1=>by show tK A H (i+1)<=tK A H (i+1)+_+1;omega
theorem tK_le{A H i j:Nat}(h:i<=j):tK A H i<=tK A H j:=by
 induction h with
 |refl=>exact Nat.le_refl _
 |step _ ih=>exact Nat.le_trans ih (tK_up A H _)
theorem Qld(A H:Nat):tK A H 9=52*A+36*H+61:=by simp only[tK];omega
theorem Qge(hv:VFits A vs)(hh:Fits h H)(hA:0<A)(hH:0<H):∀i,Fits (shp (atF vs) (wtF vs) h i) (tK A H i)
 |0=>Fits.zero
 |1=>Fits.zero
 |i+2=>by
  have h1:=Qge hv hh hA hH (i+1);have h2:=(Qgd hv hh hA hH (i+2)).mul ((hv.at hA (i+2)).1.sub (hv.at hA (i+1)).1) (by omega);exact h1.add h2
theorem Qle(hv:VFits A vs)(hh:Fits h H)(hA:0<A)(hH:0<H){i j k:Nat}(hi:i<=9)(hj:j<=9)(hk:k<=9):Fits (lnC vs h i j k) (215*A+144*H+252):=by
 have s:∀q,q<=9->Fits (shp (atF vs) (wtF vs) h q) (52*A+36*H+61):=fun q hq=>by rw[<-Qld];exact(Qge hv hh hA hH q).mono (tK_le hq)
 have h1:Fits (stC vs h i) (A+(52*A+36*H+61)+1):=(hv.at hA i).2.2.1.sub (s i hi);have h2:Fits (slC vs h i j) (A+(52*A+36*H+61)+1+(A+(52*A+36*H+61)+1)+1+(A+A+1)):=(((hv.at hA j).2.2.2.sub (s j hj)).sub h1).div ((hv.at hA j).1.sub (hv.at hA i).1) (by omega) (by omega);have h3:=(h1.add (h2.mul ((hv.at hA k).1.sub (hv.at hA i).1) (by omega))).add (s k hk);exact h3.mono (by omega)
end
theorem IsDec.lenS{d:List UInt8}{n K:Nat}(h:IsDec d n)(hn:n<2 ^ K):d.length<=K / 3+1:=by
 have h10:n<10 ^ (K / 3+1):=Nat.lt_of_lt_of_le hn (Nat.le_trans (Nat.pow_le_pow_right (by decide) (show K<=3*(K / 3+1) by omega)) (by rw[Nat.pow_mul];exact Nat.pow_le_pow_left (by decide) _));rcases h with ⟨_,rfl⟩|⟨_,ds,hd,rfl⟩
 . simp
 . have:=hd.length_le_of_lt (k:=K / 3+1) (by decide) h10
   simpa using this
theorem QText.lenS{s:ByteArray}{q:Rat}{K:Nat}(h:QText s.data.toList q)(hq:Fits q K):s.size<=2*(K / 3)+4:=by
 obtain⟨m,⟨k,hk,rfl⟩,h⟩:=h;have h2:=hk.lenS hq.1;have h3:(if q.num<0 then 45 :: k else k).length<=k.length+1:=by split<;>simp
 have h4:s.data.toList.length=s.size:=by simp
 rcases h with ⟨_,h⟩|⟨_,d,hd,h⟩
 . rw[h] at h4;omega
 .
  have h5:=hd.lenS hq.2;rw[h,List.length_append,List.length_cons] at h4;omega
theorem Qlf{vs:List V4}{h st m pa:Rat}(h0:(archF vs).1=0){k:Nat}:lnS vs h (lnV st m pa vs h) k=lnV st m pa vs h k:=by
 obtain⟨h2,_⟩:=Qat h0;have hr:=(Qa5 h0).1 0 1 (by decide) (by omega);unfold lnS lnV;generalize shp (atF vs) (wtF vs) h 0=s0;generalize shp (atF vs) (wtF vs) h 1=s1;generalize shp (atF vs) (wtF vs) h k=sk;generalize atF vs 0=a0 at*;generalize atF vs 1=a1 at*;generalize atF vs k=ak at*;have e:(st+m*(a1 - pa)+s1 - s1 - (st+m*(a0 - pa)+s0 - s0)) / (a1 - a0)=m:=by
  rw[show st+m*(a1 - pa)+s1 - s1 - (st+m*(a0 - pa)+s0 - s0)=m*(a1 - a0) by grind];exact Rat.mul_div_cancel (by grind)
 rw[e];grind
theorem Qlg(vs:List V4)(h:Rat)(i j k:Nat):thr (atF vs) (shp (atF vs) (wtF vs) h) i (loF vs i) j (hiF vs j) k=lnC vs h i j k:=rfl
theorem Qlh(vs:List V4)(h:Rat)(i j k:Nat):lnC vs h i j k=lnAt (atF vs) (shp (atF vs) (wtF vs) h) (stC vs h i - slC vs h i j*atF vs i) (slC vs h i j) k:=by
 unfold lnC lnV lnAt;grind
open Go.RowKit
def RF(q:Rat)(k:Nat):Fact:=fun v w=>∃b,v=.pointer (some ⟨b,0,none⟩)/\RatVal w b q/\Fits q k/\0<k
theorem RF.stays(q:Rat)(k:Nat):Stays (RF q k):=fun _ _ _ hb ⟨b,e,h,r⟩=>⟨b,e,h.below hb,r⟩
theorem RF.below{q:Rat}{k:Nat}{v:Value}{w w':World}(h:RF q k v w)(hb:Below w.heap.size w w'):RF q k v w':=RF.stays q k v w w' hb h
theorem NewRat.makes{w w':World}{q:Rat}{k:Nat}{e:Ending}(h:NewRat w q e w')(hf:Fits q k)(hk:0<k):Makes w (RF q k) e w':=by
 obtain⟨⟨b,rfl,_,hv⟩,hb⟩:=h;exact⟨_,rfl,hb,b,rfl,hv,hf,hk⟩
theorem RF.add{u v:Value}{p q:Rat}{j k:Nat}{w:World}(h1:RF p j u w)(h2:RF q k v w)(hj:j+k<274877906000):Calls prog 27 #[u,v] w (Makes w (RF (p+q) (j+k+1))):=by
 obtain⟨b,rfl,r1,f1,_⟩:=h1;obtain⟨c,rfl,r2,f2,_⟩:=h2;exact(Qr0 b c j k p q w r1 r2 f1 f2 hj).mono fun e w' h=>h.makes (f1.add f2) (by omega)
theorem RF.sub{u v:Value}{p q:Rat}{j k:Nat}{w:World}(h1:RF p j u w)(h2:RF q k v w)(hj:j+k<274877906000):Calls prog 26 #[u,v] w (Makes w (RF (p - q) (j+k+1))):=by
 obtain⟨b,rfl,r1,f1,_⟩:=h1;obtain⟨c,rfl,r2,f2,_⟩:=h2;exact(Qr1 b c j k p q w r1 r2 f1 f2 hj).mono fun e w' h=>h.makes (f1.sub f2) (by omega)
theorem RF.mul{u v:Value}{p q:Rat}{j k:Nat}{w:World}(h1:RF p j u w)(h2:RF q k v w)(hj:j+k<274877906000):Calls prog 29 #[u,v] w (Makes w (RF (p*q) (j+k))):=by
 obtain⟨b,rfl,r1,f1,hj0⟩:=h1;obtain⟨c,rfl,r2,f2,_⟩:=h2;exact(Qr2 b c j k p q w r1 r2 f1 f2 hj).mono fun e w' h=>h.makes (f1.mul f2 hj0) (by omega)
theorem RF.text{u:Value}{p:Rat}{j:Nat}{w:World}(h:RF p j u w)(hj:j<=1099511627776):Calls prog 17 #[u] w (Makes w (TF p)):=by
 obtain⟨b,rfl,r1,f1,_⟩:=h;exact(ref_T b j p w r1 f1 hj).mono fun e w' ⟨⟨s,he,hs⟩,hb⟩=>⟨_,he,hb,s,rfl,hs⟩
theorem RF.of{s:ByteArray}{q:Rat}{K:Nat}{w:World}(hg:Glob w)(hq:QOf s.data.toList q)(hs:s.size<=1073741824)(hf:Fits q K)(hK:0<K):Calls prog 18 #[.string s] w (Makes w (RF q K)):=by
 obtain⟨m,hm⟩:=hg.most;refine(Qrz s m w hm hs).mono ?_;rintro e w' ⟨q',hq',hn⟩;obtain rfl:=hq.inj hq';exact hn.makes hf hK
theorem RF.sign{u:Value}{p:Rat}{j:Nat}{w:World}(h:RF p j u w):Calls prog 19 #[u] w (Makes w (Is (.int .i64 (sgn3 p.num)))):=by
 obtain⟨b,rfl,r1,f1,_⟩:=h;exact(Qrm b p w r1).mono fun e w' ⟨he,hw⟩=>⟨_,he,by rw[hw];exact Below.refl _ _,rfl⟩
theorem Qli(s:ByteArray):s.data.toList.length=s.size:=by simp
theorem QOf.fitsS{s:ByteArray}{q:Rat}(h:QOf s.data.toList q):Fits q (4*s.size+1):=QOf.fits h (Nat.le_of_eq (Qli s))
theorem Qlj{vs:List V4}{q:Rat}{A H i j:Nat}{ls:List ByteArray}(hv:VFits A vs)(hq:Fits q H)(hA:0<A)(hH:0<H)(hn:vs.length<=10)(hij:i<j)(hj:j<vs.length)(hl:ls.length=vs.length)(ht:∀(k:Nat) (s:ByteArray),ls[k]?=some s->QText s.data.toList (lnC vs q i j k))(hk:215*A+144*H+252<=1600000000):HeightsV ls (lnC vs q i j) (215*A+144*H+252):=by
 refine⟨fun k s hs=>?_,by omega⟩;have hkl:=(gZ hs).1;have hf:Fits (lnC vs q i j k) (215*A+144*H+252):=Qle hv hq hA hH (by omega) (by omega) (by omega);have h1:=ht k s hs;exact⟨h1.back,hf,by have:=h1.lenS hf;omega⟩
theorem Qgf:∀(l:List ByteArray),textsV l=l.flatMap tc
 | []=>rfl
 |a :: l=>by
  have ih:=Qgf l;unfold textsV at ih ⊢;rw[List.map_cons,List.flatMap_cons,ih];rfl
theorem Qgg{w:World}{g cap:Nat}{t:TypeId}{l:List ByteArray}(h:SB w g t (textsV l).toArray)(hl:l.length<=cap):ARow tc w (some ⟨g,0,none⟩) cap l:=
 SB.arowV h (Qgf l) hl
end Go.Proofs.YtldjeecnapgakaaGreatDoor
namespace Go.Proofs.YtldjeecnapgakaaGreatDoor
open Go.ChangeShapes Go.WideShapes Go.ChangeAt Go.RowKit
open Go.Proofs.Tryz
set_option linter.unusedSimpArgs false
set_option linter.unusedVariables false
set_option maxHeartbeats 8000000
set_option maxRecDepth 1000000
theorem Qed:prog.cellsOf 28=4:=by kernel_rfl
theorem Qlk:prog.readableRec 22=true:=by kernel_rfl
theorem Qll:prog.readableRec 24=true:=by kernel_rfl
theorem Qlm:prog.readableRec 23=true:=by kernel_rfl
theorem manyStone:22<prog.types.size/\24<prog.types.size/\23<prog.types.size/\3<prog.types.size:=by refine⟨?_,?_,?_,?_⟩<;>(refine of_decide_eq_true ?_;kernel_rfl)
def stoneD{H:Type}(s:T4):DataW H:=.agg [textD s.a,textD s.w,textD s.l,textD s.h]
section
variable {H:Type} {enc:TypeId × Value->H} {P:Program} {w:World} {base:Nat} {spare:Nat->Bool} {held:Bool} {fuel:Nat} {cs:List Value} {x:DataW H × List MemPlace} {tS tQ:TypeId} {f0 f1 f2 f3:Field}
theorem Qgh(uS:P.underlying tS=some (.struct #[f0,f1,f2,f3]))(uQ:P.underlying tQ=some .string)(cS:P.cellsOf tS=4)(cQ:P.cellsOf tQ=1)(t0:f0.type=tQ)(t1:f1.type=tQ)(t2:f2.type=tQ)(t3:f3.type=tQ)(o0:f0.offset=0)(o1:f1.offset=1)(o2:f2.offset=2)(o3:f3.offset=3)
 (h:DataW.trod enc P w base spare held fuel tS cs=some x):∃s:T4,cs=T4.cells s/\x.1=stoneD s:=by
 obtain⟨xs,n,rfl,rfl,hl,hxl,hf⟩:=DataW.trod_struct uS h;rw[cS] at hl;clear h;have h0:=hf 0 f0 rfl;have h1:=hf 1 f1 rfl;have h2:=hf 2 f2 rfl;have h3:=hf 3 f3 rfl;rw[t0,o0,cQ] at h0;rw[t1,o1,cQ] at h1;rw[t2,o2,cQ] at h2;rw[t3,o3,cQ] at h3;clear hf
 match cs,hl,xs,hxl with
 | [v0,v1,v2,v3],_,[y0,y1,y2,y3],_=>
   simp only[List.drop_zero,List.drop_succ_cons,List.take_succ_cons,List.take_zero,List.getElem?_cons_zero,List.getElem?_cons_succ] at h0 h1 h2 h3;obtain⟨s,e0,rfl,_⟩:=DataW.trod_string uQ h0;obtain⟨t,e1,rfl,_⟩:=DataW.trod_string uQ h1;obtain⟨u,e2,rfl,_⟩:=DataW.trod_string uQ h2;obtain⟨v,e3,rfl,_⟩:=DataW.trod_string uQ h3;obtain rfl:v0=_:=by simpa using e0
   obtain rfl:v1=_:=by simpa using e1
   obtain rfl:v2=_:=by simpa using e2
   obtain rfl:v3=_:=by simpa using e3
   exact⟨⟨s,t,u,v⟩,rfl,rfl⟩
end
section
variable {H:Type}
theorem Qgi{α:Type}(dat:α->DataW H)(hd:∀e,1<=Rows.uptoBulk (dat e))(es:List α):es.length<=Rows.uptoBulkAll (es.map dat):=by
 induction es with
 |nil=>simp
 |cons e l ih=>
  have:=hd e;simp only[List.map_cons,Rows.uptoBulkAll,List.length_cons];omega
theorem Qgj{α:Type}{dat:α->DataW H}{es:List α}{d:DataW H}(hl:∀l r,d=.slice l r->l=es.map dat)(hs:(es= []/\d=.nil)∨∃l r,d=.slice l r):Rows.uptoBulkAll (es.map dat)<=Rows.uptoBulk d:=by
 rcases hs with ⟨rfl,_⟩|⟨l,r,rfl⟩
 . simp[Rows.uptoBulkAll]
 . rw[<-hl l r rfl]
   exact Qse l r
theorem Qee(s:ByteArray):s.size<=Rows.uptoBulk (textD (H:=H) s)/\1<=Rows.uptoBulk (textD (H:=H) s):=by
 simp[textD,Rows.uptoBulk]
theorem Qgk(s:T4):1<=Rows.uptoBulk (stoneD (H:=H) s)/\s.a.size+s.w.size+s.l.size+s.h.size<=Rows.uptoBulk (stoneD (H:=H) s):=by
 simp[stoneD,textD,Rows.uptoBulk,Rows.uptoBulkAll];omega
variable {enc:TypeId × Value->H} {W:World}
theorem Qln{a:Option Addr}{len cap:Nat}{d:DataW H}{ps:List MemPlace}(h:DataW.Trod enc prog W 0 (fun _=>true) true 22 (.slice a len cap) d ps):
 ∃ss:List T4,len=ss.length/\ARow T4.cells W a cap ss/\ss.length<=Rows.uptoBulk d/\∀s,s∈ ss->s.a.size+s.w.size+s.l.size+s.h.size<=Rows.uptoBulk d:=by
 obtain⟨fuel,h⟩:=h;obtain⟨a',cap',ss,e,hr,hl,hs⟩:=Qjb (c:=T4.cells) (dat:=stoneD) (sz:=4) ⟨⟨#[]⟩,⟨#[]⟩,⟨#[]⟩,⟨#[]⟩⟩ (by decide) (fun _=>rfl) underlying22 Qed (fun fuel cs x hx=>Qgh underlying28 underlying23 Qed Qfh rfl rfl rfl rfl rfl rfl rfl rfl hx) h;have e': [Value.slice a len cap]= [Value.slice a' ss.length cap']:=e;simp only[List.cons.injEq,and_true,Value.slice.injEq] at e';obtain⟨rfl,rfl,rfl⟩:=e';have k:=Qgj hl hs;have n:=Qgi (H:=H) stoneD (fun e=>(Qgk e).1) ss;refine⟨ss,rfl,hr,Nat.le_trans n k,fun s hm=>?_⟩;exact Nat.le_trans (Qgk (H:=H) s).2 (Nat.le_trans (Qju (List.mem_map.2 ⟨s,hm,rfl⟩)) k)
theorem Qlo{a:Option Addr}{len cap:Nat}{d:DataW H}{ps:List MemPlace}(h:DataW.Trod enc prog W 0 (fun _=>true) true 24 (.slice a len cap) d ps):
 ∃ls:List ByteArray,len=ls.length/\ARow tc W a cap ls/\ls.length<=Rows.uptoBulk d/\∀s,s∈ ls->s.size<=Rows.uptoBulk d:=by
 obtain⟨fuel,h⟩:=h;obtain⟨a',cap',ss,e,hr,hl,hs⟩:=Qjb (c:=tc) (dat:=textD) (sz:=1) ⟨#[]⟩ (by decide) (fun _=>rfl) underlying24 Qfh (fun fuel cs x hx=>by
  obtain⟨s,e0,rfl,_⟩:=DataW.trod_string underlying23 hx
  exact⟨s,e0,rfl⟩) h
 have e': [Value.slice a len cap]= [Value.slice a' ss.length cap']:=e;simp only[List.cons.injEq,and_true,Value.slice.injEq] at e';obtain⟨rfl,rfl,rfl⟩:=e';have k:=Qgj hl hs;have n:=Qgi (H:=H) textD (fun e=>(Qee e).2) ss;refine⟨ss,rfl,hr,Nat.le_trans n k,fun s hm=>?_⟩;exact Nat.le_trans (Qee (H:=H) s).1 (Nat.le_trans (Qju (List.mem_map.2 ⟨s,hm,rfl⟩)) k)
theorem Qlp{s:ByteArray}{d:DataW H}{ps:List MemPlace}(h:DataW.Trod enc prog W 0 (fun _=>true) true 23 (.string s) d ps):s.size<=Rows.uptoBulk d:=by
 obtain⟨fuel,h⟩:=h;obtain⟨t,e,hd,_⟩:=DataW.trod_string underlying23 h;have e': [Value.string s]= [Value.string t]:=e;simp only[List.cons.injEq,and_true,Value.string.injEq] at e';subst e';have hd':d=textD s:=congrArg Prod.fst hd;rw[hd'];exact(Qee (H:=H) s).1
end
theorem Qgl{n1:Nat}(h1:n1<=1048576):∀(ss:List T4),(∀s,s∈ ss->s.a.size<=n1/\s.w.size<=n1/\s.l.size<=n1/\s.h.size<=n1)->∃vs,StonesV ss vs/\VFits (4*n1+1) vs
 | [],_=>⟨[],⟨rfl,fun i s v hs=>by cases hs⟩,fun v hv=>by cases hv⟩
 |s :: l,h=>by
  obtain⟨vs,hv,hf⟩:=Qgl h1 l (fun t ht=>h t (List.mem_cons_of_mem _ ht));obtain⟨za,zw,zl,zh⟩:=h s List.mem_cons_self;obtain⟨qa,ha⟩:=QOf.ex s.a.data.toList;obtain⟨qw,hw⟩:=QOf.ex s.w.data.toList;obtain⟨ql,hl⟩:=QOf.ex s.l.data.toList;obtain⟨qh,hh⟩:=QOf.ex s.h.data.toList;have fa:=ha.fitsS.mono (show _<=4*n1+1 by omega);have fw:=hw.fitsS.mono (show _<=4*n1+1 by omega);have fl:=hl.fitsS.mono (show _<=4*n1+1 by omega);have fh:=hh.fitsS.mono (show _<=4*n1+1 by omega);refine⟨(qa,qw,ql,qh) :: vs,⟨by simp[hv.len],fun i t v ht hv'=>?_⟩,fun v hm=>?_⟩
  .
   cases i with
   |zero=>
    cases ht;cases hv';exact⟨ha,hw,hl,hh,⟨by omega,fa.mono (by omega)⟩,⟨by omega,fw.mono (by omega)⟩,⟨by omega,fl.mono (by omega)⟩,⟨by omega,fh.mono (by omega)⟩⟩
   |succ i=>exact hv.each i t v ht hv'
  .
   rcases List.mem_cons.1 hm with rfl|hm
   . exact⟨fa,fw,fl,fh⟩
   . exact hf v hm
def tabledA(w:World):World:=
 put 7 Rows.laid_math_bits_deBruijn32tab (put 8 Rows.laid_math_bits_deBruijn64tab (put 6 Rows.laid_internal_strconv_uint64pow10
  (put 3 Rows.laid_unicode_utf8_acceptRanges (put 2 Rows.laid_unicode_utf8_first w))))
namespace archStands
end archStands
end Go.Proofs.YtldjeecnapgakaaGreatDoor
