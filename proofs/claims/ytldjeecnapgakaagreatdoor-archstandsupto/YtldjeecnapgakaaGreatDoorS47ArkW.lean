/- The law ArchStands: its pieces. -/
import Derived.Test.YtldjeecnapgakaaGreatDoorS46ArkQ
namespace Go.Proofs.YtldjeecnapgakaaGreatDoor
open Go.RowKit
set_option linter.unusedVariables false
set_option linter.unusedSimpArgs false
theorem Qd3{c:UInt8}{l:List UInt8}{q:Rat}(hl:l= [c])(h1:48≤c.toNat)(h2:c.toNat≤57)(ht:Lib.trimPrefix l [45]=l)(hp:Lib.hasPrefix l [45]=false)(hc:Lib.cut l [47]=(l,[],false))(hq:q=mkRat (decVal l:Nat) 1):QOf l q:=by
 refine⟨q,.inl ⟨⟨?_,?_⟩,?_⟩,by rw[hp];rfl⟩
 ·
  rw[ht,hc,hl];exact⟨by simp,fun d hd=>by
   obtain rfl:d=c:=by simpa using hd
   exact⟨h1,h2⟩⟩
 · rw[ht,hc];intro h;cases h
 · rw[ht,hc];simpa using hq
theorem vq0:QOf [48] 0:=Qd3 rfl (by decide) (by decide) (by decide) (by decide) (by decide) (by decide)
theorem vq1:QOf [49] 1:=Qd3 rfl (by decide) (by decide) (by decide) (by decide) (by decide) (by decide)
theorem vq2:QOf [50] 2:=Qd3 rfl (by decide) (by decide) (by decide) (by decide) (by decide) (by decide)
theorem vqe:QOf [] 0:=⟨0,.inr ⟨fun h=>h.1.1 (by decide),rfl⟩,by decide⟩
theorem Qd4{d:Nat}(h0:0<d)(h9:d<10):QText [UInt8.ofNat (48+d)] ((d:Nat):Rat):=
 ⟨[UInt8.ofNat (48+d)],⟨[UInt8.ofNat (48+d)],.inr ⟨by simp;omega,[d],⟨fun e he=>by simp at he;omega,.inr (by simp;omega),by simp[val]⟩,by simp⟩,by
   rw[if_neg (by simp)]⟩,.inl ⟨by simp,rfl⟩⟩
theorem vt0:QText [48] 0:=⟨[48],⟨[48],.inl ⟨by decide,rfl⟩,by decide⟩,.inl ⟨by decide,rfl⟩⟩
theorem vt1:QText [49] 1:=Qd4 (d:=1) (by decide) (by decide)
theorem vt2:QText [50] 2:=Qd4 (d:=2) (by decide) (by decide)
theorem vt4:QText [52] 4:=Qd4 (d:=4) (by decide) (by decide)
def vauV:List V4:=[(0,0,0,0),(1,1,1,2),(2,0,0,0)]
theorem Qct:archF vauV=(0,0):=by decide
theorem Qkb:vauV.length=3:=rfl
theorem Qcu:atF vauV 0=0∧atF vauV 1=1∧atF vauV 2=2:=⟨rfl,rfl,rfl⟩
theorem Qcv:loF vauV 0=0∧loF vauV 1=1∧loF vauV 2=0:=⟨rfl,rfl,rfl⟩
theorem Qcw:hiF vauV 0=0∧hiF vauV 1=2∧hiF vauV 2=0:=⟨rfl,rfl,rfl⟩
theorem Qcx(h:Rat):shp (atF vauV) (wtF vauV) h 0=0∧shp (atF vauV) (wtF vauV) h 1=0∧shp (atF vauV) (wtF vauV) h 2= -h:=by
 have w1:wtF vauV 1=1:=rfl;have a1:atF vauV 1=1:=rfl;have a2:atF vauV 2=2:=rfl;refine⟨rfl,rfl,?_⟩;simp only[shp,slo,w1,a1,a2];grind
theorem Qfq(h:Rat):HasLine vauV h↔InR 2 (some 4) h:=by
 obtain⟨hr,hw,hlh⟩:=Qb5 (vs:=vauV) (by rw[Qct]);unfold HasLine InR;rw[Qfh (by decide) hr hlh];obtain⟨a0,a1,a2⟩:=Qcu;obtain⟨l0,l1,l2⟩:=Qcv;obtain⟨u0,u1,u2⟩:=Qcw;obtain⟨s0,s1,s2⟩:=Qcx 1;constructor
 ·
  rintro⟨h0,hall⟩;have:=hall 0 1 2 (by decide) (by decide) (by decide);unfold abv at this;rw[a0,a1,a2,l0,l1,l2,u0,u1,u2,s0,s1,s2] at this;refine⟨by grind,fun m hm=>?_⟩;obtain rfl:=Option.some.inj hm;grind
 ·
  rintro⟨h2,h4⟩;have h4:=h4 4 rfl;refine⟨by grind,fun i j k hij hjk hk=>?_⟩;rw[Qkb] at hk;obtain⟨rfl,rfl,rfl⟩:i=0∧j=1∧k=2:=by omega
  unfold abv;rw[a0,a1,a2,l0,l1,l2,u0,u1,u2,s0,s1,s2];constructor<;>grind
theorem Qkc{i j:Nat}(hf:fitsTo vauV (lnC vauV 2 i j) 3):lnC vauV 2 i j 0=0∧lnC vauV 2 i j 1=1∧lnC vauV 2 i j 2=0:=by
 obtain⟨a0,a1,a2⟩:=Qcu;obtain⟨l0,l1,l2⟩:=Qcv;obtain⟨u0,u1,u2⟩:=Qcw;obtain⟨s0,s1,s2⟩:=Qcx 2;have f0:=hf 0 (by decide);have f1:=hf 1 (by decide);have f2:=hf 2 (by decide);unfold lnC lnV at f0 f1 f2 ⊢;rw[a0,l0,u0,s0] at f0;rw[a1,l1,u1,s1] at f1;rw[a2,l2,u2,s2] at f2;rw[a0,a1,a2,s0,s1,s2];generalize stC vauV 2 i=st at*;generalize slC vauV 2 i j=m at*;generalize atF vauV i=pa at*;refine⟨by grind,by grind,by grind⟩
theorem Qkd:fitsTo vauV (lnC vauV 2 0 2) 3:=by
 obtain⟨a0,a1,a2⟩:=Qcu;obtain⟨l0,l1,l2⟩:=Qcv;obtain⟨u0,u1,u2⟩:=Qcw;obtain⟨s0,s1,s2⟩:=Qcx 2;have e1:stC vauV 2 0=0:=by unfold stC;rw[l0,s0];grind
 have e2:slC vauV 2 0 2=1:=by unfold slC;rw[u2,s2,a2,a0,e1];grind
 intro k hk;unfold lnC lnV;rw[e1,e2,a0];have:k=0∨k=1∨k=2:=by omega
 rcases this with rfl|rfl|rfl
 · rw[a0,l0,u0,s0];constructor<;>grind
 · rw[a1,l1,u1,s1];constructor<;>grind
 · rw[a2,l2,u2,s2];constructor<;>grind
def vauZ(i:Nat):Rat:=if i=1 then 1 else 0
theorem Qke:goesTo (lnS vauV 2 vauZ) vauZ 3∧fitsTo vauV (lnS vauV 2 vauZ) 3:=by
 obtain⟨a0,a1,a2⟩:=Qcu;obtain⟨l0,l1,l2⟩:=Qcv;obtain⟨u0,u1,u2⟩:=Qcw;obtain⟨s0,s1,s2⟩:=Qcx 2;have z0:vauZ 0=0:=rfl;have z1:vauZ 1=1:=rfl;have z2:vauZ 2=0:=rfl;have e:((1:Rat) - 0 - (0 - 0)) / (1 - 0)=1:=by grind
 have key:lnS vauV 2 vauZ 0=0∧lnS vauV 2 vauZ 1=1∧lnS vauV 2 vauZ 2=0:=by
  unfold lnS lnV;rw[z0,z1,a0,a1,a2,s0,s1,s2,e];refine⟨by grind,by grind,by grind⟩
 constructor
 ·
  intro k hk;have:k=0∨k=1∨k=2:=by omega
  rcases this with rfl|rfl|rfl
  · rw[key.1,z0]
  · rw[key.2.1,z1]
  · rw[key.2.2,z2]
 ·
  intro k hk;have:k=0∨k=1∨k=2:=by omega
  rcases this with rfl|rfl|rfl
  · rw[key.1,l0,u0];constructor<;>grind
  · rw[key.2.1,l1,u1];constructor<;>grind
  · rw[key.2.2,l2,u2];constructor<;>grind
def vauS:List T4:=[⟨⟨#[48]⟩,⟨#[]⟩,⟨#[]⟩,⟨#[48]⟩⟩,⟨⟨#[49]⟩,⟨#[49]⟩,⟨#[49]⟩,⟨#[50]⟩⟩,⟨⟨#[50]⟩,⟨#[]⟩,⟨#[]⟩,⟨#[48]⟩⟩]
def vauT:List ByteArray:=[⟨#[48]⟩,⟨#[49]⟩,⟨#[48]⟩]
theorem vf0:Fits 0 4194400:=(show Fits 0 2 from ⟨by decide,by decide⟩).mono (by decide)
theorem vf1:Fits 1 4194400:=(show Fits 1 2 from ⟨by decide,by decide⟩).mono (by decide)
theorem vf2:Fits 2 4194400:=(show Fits 2 2 from ⟨by decide,by decide⟩).mono (by decide)
theorem Qd5:StonesV vauS vauV:=by
 refine⟨rfl,fun i s v hs hv=>?_⟩;have hi:i<3:=(List.getElem?_eq_some_iff.1 hs).1;have:i=0∨i=1∨i=2:=by omega
 rcases this with rfl|rfl|rfl<;>cases hs<;>cases hv
 · exact⟨vq0,vqe,vqe,vq0,⟨by decide,vf0⟩,⟨by decide,vf0⟩,⟨by decide,vf0⟩,⟨by decide,vf0⟩⟩
 · exact⟨vq1,vq1,vq1,vq2,⟨by decide,vf1⟩,⟨by decide,vf1⟩,⟨by decide,vf1⟩,⟨by decide,vf2⟩⟩
 · exact⟨vq2,vqe,vqe,vq0,⟨by decide,vf2⟩,⟨by decide,vf0⟩,⟨by decide,vf0⟩,⟨by decide,vf0⟩⟩
theorem Qkf:HeightsV vauT vauZ 1:=by
 refine⟨fun i s hs=>?_,by decide⟩;have hi:i<3:=(List.getElem?_eq_some_iff.1 hs).1;have:i=0∨i=1∨i=2:=by omega
 rcases this with rfl|rfl|rfl<;>cases hs
 · exact⟨vq0,⟨by decide,by decide⟩,by decide⟩
 · exact⟨vq1,⟨by decide,by decide⟩,by decide⟩
 · exact⟨vq0,⟨by decide,by decide⟩,by decide⟩
theorem SB.arowV{α:Type}{c:α→List Value}{w:World}{g cap:Nat}{t:TypeId}{C:Array Value}{es:List α}(h:SB w g t C)(hc:C.toList=es.flatMap c)(hl:es.length≤cap):ARow c w (some ⟨g,0,none⟩) cap es:=
 ⟨hl,⟨fun j u hj=>⟨g,0,rfl,h.lt,by rw[Nat.zero_add,h.cell,←Array.getElem?_toList,hc];exact hj⟩⟩⟩
theorem ba_eq{s:ByteArray}{l:List UInt8}(h:s.data.toList=l):s=⟨l.toArray⟩:=by
 cases s;simp at h;simp[←h]
theorem Qkg{e:Ending}(h:SlacksSays vauV e):e=.returned (.tuple #[.string ⟨#[50]⟩,.string ⟨#[52]⟩,.bool false,.agg #[.int .i64 0,.int .i64 0]]):=by
 obtain⟨s1,s2,o,c1,c2,rfl,hs⟩:=h;have hl:InR 2 (some 4) 2:=⟨Rat.le_refl,fun m hm=>by cases hm;decide⟩;rcases hs with ⟨h,_⟩|⟨_,_,_,_,_,h⟩|⟨_,hc,least,most,h1,h2,h3,h4⟩
 · rw[Qct] at h
   exact absurd rfl h
 · exact absurd ((Qfq 2).2 hl) (h 2)
 ·
  obtain⟨rfl,rfl⟩:=InR.uniq (fun x=>(h4 x).trans (Qfq x)) h3;obtain⟨rfl,rfl⟩:=Prod.mk.inj hc;rcases h2 with ⟨_,_,h⟩|⟨rfl,m,hm,hq⟩
  · cases h
  · cases hm
    rw[ba_eq (h1.inj vt2),ba_eq (hq.inj vt4)]
theorem Qkh{w:World}{e:Ending}{w':World}(h:LineSays vauV 2 w e w'):∃g,e=.returned (.tuple #[.slice (some ⟨g,0,none⟩) 3 3,.agg #[.int .i64 0,.int .i64 0]])∧SB w' g 23 (textsV vauT).toArray:=by
 obtain⟨v,c1,c2,rfl,hs⟩:=h;rcases hs with ⟨h,_⟩|⟨_,h,_⟩|⟨_,_,_,_,h⟩|⟨_,_,hc,i,j,g,ls,hij,hj,hf,rfl,hg,hl,hsb,hq⟩
 · rw[Qct] at h
   exact absurd rfl h
 · exact absurd h (by decide)
 · exact absurd Qkd (h 0 2 (by decide) (by decide))
 ·
  obtain⟨rfl,rfl⟩:=Prod.mk.inj hc;obtain⟨y0,y1,y2⟩:=Qkc hf;have e:ls=vauT:=by
   match ls,hl,hq with
   | [a,b,c],_,hq=>
     have h0:=hq 0 a rfl;have h1:=hq 1 b rfl;have h2:=hq 2 c rfl;rw[y0] at h0;rw[y1] at h1;rw[y2] at h2;rw[ba_eq (h0.inj vt0),ba_eq (h1.inj vt1),ba_eq (h2.inj vt0)];rfl
  subst e;exact⟨g,rfl,hsb⟩
theorem Qki{b:Bool}{c1 c2:Int}(h:standsF vauV 2 3 vauZ b (c1,c2)):b=true∧c1=0∧c2=0:=by
 unfold standsF at h;rw[if_neg (by rw[Qct];decide),if_neg (by decide),if_neg (by decide)] at h;obtain⟨h1,h2⟩:=h;obtain⟨rfl,rfl⟩:=Prod.mk.inj h1;exact⟨h2.2 Qke,rfl,rfl⟩
set_option maxRecDepth 100000 in
set_option maxHeartbeats 4000000 in
theorem Qkj(w:World)(hg:Glob w):Calls Tryz.prog 5 #[] w fun e w'=>e=.returned (.bool true)∧Below w.heap.size w w':=by
 have HG:=Hi hg;obtain⟨B,hB⟩:∃B,w.heap.size=B:=⟨_,rfl⟩;obtain⟨V,hV⟩:∃V,w.alloc (.cells #[.string ⟨#[48]⟩,.string ⟨#[]⟩,.string ⟨#[]⟩,.string ⟨#[48]⟩,.string ⟨#[49]⟩,.string ⟨#[49]⟩,.string ⟨#[49]⟩,.string ⟨#[50]⟩,.string ⟨#[50]⟩,.string ⟨#[]⟩,.string ⟨#[]⟩,.string ⟨#[48]⟩] 28)=V:=⟨_,rfl⟩;have HBV:Hid (Below w.heap.size w V):=Hi (by rw[←hV];exact(Below.refl _ _).alloc (Nat.le_refl _) _);have HRW:Hid (ARow T4.cells V (some ⟨B,0,none⟩) 3 vauS):=Hi (SB.arowV (by rw[←hV,←hB];exact SB.new w _ _) rfl (by decide));have HVE:=Hi hV;have HBE:=Hi hB;clear hg hV hB;go_enter Tryz.func5,Tryz.ntmps5;go_wp2_with fail;rw[HVE.out];simp only[HBE.out];refine(Qka (some ⟨B,0,none⟩) 3 vauS vauV V (HG.out.below HBV.out) HRW.out Qd5 (by decide)).mono ?_;rintro e w1 ⟨hs,hb1⟩;obtain rfl:=Qkg hs;clear hs;obtain⟨b5,hb5⟩:∃b,w1.heap.size=b:=⟨_,rfl⟩
 obtain⟨V1,hV1⟩:∃V,w1.alloc (.cells #[.int .i64 0,.int .i64 0] 32)=V:=⟨_,rfl⟩;have hbv:Below w1.heap.size w1 V1:=by rw[←hV1];exact(Below.refl _ _).alloc (Nat.le_refl _) _
 have HS5:Hid (SB V1 b5 32 #[.int .i64 0,.int .i64 0]):=Hi (by rw[←hV1,←hb5];exact SB.new w1 _ _);have HB1:Hid (Below V.heap.size V V1):=Hi (hb1.trans (hbv.mono hb1.size));have HV1:=Hi hV1;have HB5:=Hi hb5;clear hb1 hbv hV1 hb5 HVE;go_wp2_with fail;rw[HV1.out];simp only[HB5.out];have HBW1:=Hi (HBV.out.trans (HB1.out.mono HBV.out.size));refine(Qcp (some ⟨B,0,none⟩) 3 4194400 2 vauS vauV ⟨#[50]⟩ 2 V1 (HG.out.below HBW1.out) (HRW.out.below HB1.out) Qd5 (by decide) vq2 (by decide) ⟨by decide,by decide⟩ (by decide) (by decide) (by decide) (by decide)).mono ?_;rintro e w2 ⟨hs,hb2⟩;obtain⟨g,rfl,hg⟩:=Qkh hs;clear hs;obtain⟨b7,hb7⟩:∃b,w2.heap.size=b:=⟨_,rfl⟩;obtain⟨V2,hV2⟩:∃V,w2.alloc (.cells #[.int .i64 0,.int .i64 0] 32)=V:=⟨_,rfl⟩;obtain⟨V3,hV3⟩:∃V,V2.alloc (.cells #[.string ⟨#[48]⟩,.string ⟨#[49]⟩,.string ⟨#[48]⟩] 23)=V:=⟨_,rfl⟩;have hz2:V2.heap.size=b7+1:=by rw[←hV2,World.size_alloc,hb7]
 have h23:Below V2.heap.size V2 V3:=by rw[←hV3];exact(Below.refl _ _).alloc (Nat.le_refl _) _
 have h2v:Below w2.heap.size w2 V2:=by rw[←hV2];exact(Below.refl _ _).alloc (Nat.le_refl _) _
 have hs7:SB V2 b7 32 #[.int .i64 0,.int .i64 0]:=by rw[←hV2,←hb7];exact SB.new w2 _ _
 have HS7:=Hi (hs7.below h23 hs7.lt);have HR3:Hid (ARow tc V3 (some ⟨b7+1,0,none⟩) 3 vauT):=Hi (SB.arowV (by rw[←hV3,←hz2];exact SB.new V2 _ _) rfl (by decide));have HB3:Hid (Below V1.heap.size V1 V3):=Hi ((hb2.trans (h2v.mono hb2.size)).trans (h23.mono (Nat.le_trans hb2.size h2v.size)));have HGS:=Hi ((hg.below h2v hg.lt).below h23 (hg.below h2v hg.lt).lt);have HBW3:=Hi (HBW1.out.trans (HB3.out.mono HBW1.out.size));have HRV3:=Hi ((HRW.out.below HB1.out).below HB3.out);have HS53:=Hi (HS5.out.below HB3.out HS5.out.lt);have HV23:Hid ((w2.alloc (.cells #[.int .i64 0,.int .i64 0] 32)).alloc (.cells #[.string ⟨#[48]⟩,.string ⟨#[49]⟩,.string ⟨#[48]⟩] 23)=V3):=Hi (by rw[hV2,hV3]);have HB7:=Hi hb7;clear hb2 hg hb7 hV2 hV3 hz2 h23 h2v hs7 HV1;go_wp2_with fail;rw[HV23.out];simp only[HB7.out]
 refine(Qdz (some ⟨B,0,none⟩) (some ⟨b7+1,0,none⟩) 3 3 4194400 2 1 vauS vauV ⟨#[50]⟩ 2 vauT vauZ V3 (HG.out.below HBW3.out) HRV3.out Qd5 (by decide) (by decide) vq2 (by decide) ⟨by decide,by decide⟩ (by decide) HR3.out Qkf (by decide) (by decide) (by decide) (by decide)).mono ?_;rintro e w4 ⟨⟨b,c1,c2,rfl,hs⟩,hb4⟩;obtain⟨rfl,rfl,rfl⟩:=Qki hs;clear hs;obtain⟨b9,hb9⟩:∃b,w4.heap.size=b:=⟨_,rfl⟩;obtain⟨V4,hV4⟩:∃V,w4.alloc (.cells #[.int .i64 0,.int .i64 0] 32)=V:=⟨_,rfl⟩;obtain⟨V5,hV5⟩:∃V,V4.alloc (.cells #[.string ⟨#[48]⟩,.string ⟨#[49]⟩,.string ⟨#[48]⟩] 23)=V:=⟨_,rfl⟩;have hz4:V4.heap.size=b9+1:=by rw[←hV4,World.size_alloc,hb9]
 have h45:Below V4.heap.size V4 V5:=by rw[←hV5];exact(Below.refl _ _).alloc (Nat.le_refl _) _
 have h4v:Below w4.heap.size w4 V4:=by rw[←hV4];exact(Below.refl _ _).alloc (Nat.le_refl _) _
 have h34:Below V3.heap.size V3 V4:=hb4.trans (h4v.mono hb4.size);have h35:Below V3.heap.size V3 V5:=h34.trans (h45.mono h34.size);obtain⟨x0,x1⟩:=Qan (HS53.out.below h34 HS53.out.lt);obtain⟨y0,y1⟩:=Qan (HS7.out.below h34 HS7.out.lt);obtain⟨z0,z1⟩:=Qan (show SB V4 b9 32 #[.int .i64 0,.int .i64 0] by rw[←hV4,←hb9];exact SB.new w4 _ _);rw[←hV4] at x0 x1 y0 y1 z0 z1;rw[←hb9] at z0 z1;have HE:=Hi (Qmf (some ⟨g,0,none⟩) (some ⟨b9+1,0,none⟩) 3 3 vauT V5 (HGS.out.below h35 HGS.out.lt).texts (show SB V5 (b9+1) 23 (textsV vauT).toArray by rw[←hV5,←hz4];exact SB.new V4 _ _).texts (by decide));have HBW5:=Hi (HBW3.out.trans (h35.mono HBW3.out.size));have HV45:Hid ((w4.alloc (.cells #[.int .i64 0,.int .i64 0] 32)).alloc (.cells #[.string ⟨#[48]⟩,.string ⟨#[49]⟩,.string ⟨#[48]⟩] 23)=V5):=Hi (by rw[hV4,hV5]);have HB9:=Hi hb9;clear hb4 hb9 hV4 hV5 hz4 h45 h4v h34 h35 HV23;go_wp2_with fail;rw[HV45.out]
 simp only[HB9.out];refine HE.out.mono ?_;rintro e w6 ⟨rfl,hb6⟩;have HBW6:=Hi (HBW5.out.trans (hb6.mono HBW5.out.size));clear hb6 x0 x1 y0 y1 z0 z1;go_wp2;go_ret;exact⟨rfl,HBW6.out⟩
end Go.Proofs.YtldjeecnapgakaaGreatDoor
namespace Go.Proofs.YtldjeecnapgakaaGreatDoor
set_option linter.unusedVariables false
set_option linter.unusedSimpArgs false
def VFits(A:Nat)(vs:List V4):Prop:=∀v,v∈ vs→Fits v.1 A∧Fits v.2.1 A∧Fits v.2.2.1 A∧Fits v.2.2.2 A
section
variable {A H:Nat} {vs:List V4} {h:Rat}
theorem VFits.at(hv:VFits A vs)(hA:0<A)(i:Nat):Fits (atF vs i) A∧Fits (wtF vs i) A∧Fits (loF vs i) A∧Fits (hiF vs i) A:=by
 unfold atF wtF loF hiF;cases e:vs[i]? with
 |none=>exact⟨Fits.zero.mono hA,Fits.zero.mono hA,Fits.zero.mono hA,Fits.zero.mono hA⟩
 |some v=>exact hv v (List.mem_of_getElem? e)
theorem Qfr(hv:VFits A vs)(hh:Fits h H)(hA:0<A)(hH:0<H):∀i,Fits (slo (wtF vs) h i) (1+(i - 1)*(H+A+1))
 |0=>Fits.zero.mono (by omega)
 |1=>Fits.zero.mono (by omega)
 |i+2=>by
  have h1:=Qfr hv hh hA hH (i+1);have h2:=hh.mul (hv.at hA (i+1)).2.1 hH;have e:1+(i+2 - 1)*(H+A+1)=1+(i+1 - 1)*(H+A+1)+(H+A)+1:=by
   rw[show i+2 - 1=i+1 by omega,show i+1 - 1=i by omega,Nat.succ_mul];omega
  rw[e];exact h1.sub h2
def tK(A H:Nat):Nat→Nat
 |0=>1
 |1=>1
 |i+2=>tK A H (i+1)+(1+(i+1)*(H+A+1)+(A+A+1))+1
theorem tK_up(A H:Nat):∀i,tK A H i≤tK A H (i+1)
 |0=>Nat.le_refl _
 |i+1=>by show tK A H (i+1)≤tK A H (i+1)+_+1;omega
theorem tK_le{A H i j:Nat}(h:i≤j):tK A H i≤tK A H j:=by
 induction h with
 |refl=>exact Nat.le_refl _
 |step _ ih=>exact Nat.le_trans ih (tK_up A H _)
theorem Qkk(A H:Nat):tK A H 9=52*A+36*H+61:=by simp only[tK];omega
theorem Qfs(hv:VFits A vs)(hh:Fits h H)(hA:0<A)(hH:0<H):∀i,Fits (shp (atF vs) (wtF vs) h i) (tK A H i)
 |0=>Fits.zero
 |1=>Fits.zero
 |i+2=>by
  have h1:=Qfs hv hh hA hH (i+1);have h2:=(Qfr hv hh hA hH (i+2)).mul ((hv.at hA (i+2)).1.sub (hv.at hA (i+1)).1) (by omega);exact h1.add h2
theorem Qkl(hv:VFits A vs)(hh:Fits h H)(hA:0<A)(hH:0<H){i j k:Nat}(hi:i≤9)(hj:j≤9)(hk:k≤9):Fits (lnC vs h i j k) (215*A+144*H+252):=by
 have s:∀q,q≤9→Fits (shp (atF vs) (wtF vs) h q) (52*A+36*H+61):=fun q hq=>by rw[←Qkk];exact(Qfs hv hh hA hH q).mono (tK_le hq)
 have h1:Fits (stC vs h i) (A+(52*A+36*H+61)+1):=(hv.at hA i).2.2.1.sub (s i hi);have h2:Fits (slC vs h i j) (A+(52*A+36*H+61)+1+(A+(52*A+36*H+61)+1)+1+(A+A+1)):=(((hv.at hA j).2.2.2.sub (s j hj)).sub h1).div ((hv.at hA j).1.sub (hv.at hA i).1) (by omega) (by omega);have h3:=(h1.add (h2.mul ((hv.at hA k).1.sub (hv.at hA i).1) (by omega))).add (s k hk);exact h3.mono (by omega)
end
theorem IsDec.lenS{d:List UInt8}{n K:Nat}(h:IsDec d n)(hn:n<2 ^ K):d.length≤K / 3+1:=by
 have h10:n<10 ^ (K / 3+1):=Nat.lt_of_lt_of_le hn (Nat.le_trans (Nat.pow_le_pow_right (by decide) (show K≤3*(K / 3+1) by omega)) (by rw[Nat.pow_mul];exact Nat.pow_le_pow_left (by decide) _));rcases h with ⟨_,rfl⟩|⟨_,ds,hd,rfl⟩
 · simp
 · have:=hd.length_le_of_lt (k:=K / 3+1) (by decide) h10
   simpa using this
theorem QText.lenS{s:ByteArray}{q:Rat}{K:Nat}(h:QText s.data.toList q)(hq:Fits q K):s.size≤2*(K / 3)+4:=by
 obtain⟨m,⟨k,hk,rfl⟩,h⟩:=h;have h2:=hk.lenS hq.1;have h3:(if q.num<0 then 45 :: k else k).length≤k.length+1:=by split<;>simp
 have h4:s.data.toList.length=s.size:=by simp
 rcases h with ⟨_,h⟩|⟨_,d,hd,h⟩
 · rw[h] at h4;omega
 ·
  have h5:=hd.lenS hq.2;rw[h,List.length_append,List.length_cons] at h4;omega
theorem Qkm{vs:List V4}{h st m pa:Rat}(h0:(archF vs).1=0){k:Nat}:lnS vs h (lnV st m pa vs h) k=lnV st m pa vs h k:=by
 obtain⟨h2,_⟩:=Qaz h0;have hr:=(Qb5 h0).1 0 1 (by decide) (by omega);unfold lnS lnV;generalize shp (atF vs) (wtF vs) h 0=s0;generalize shp (atF vs) (wtF vs) h 1=s1;generalize shp (atF vs) (wtF vs) h k=sk;generalize atF vs 0=a0 at*;generalize atF vs 1=a1 at*;generalize atF vs k=ak at*;have e:(st+m*(a1 - pa)+s1 - s1 - (st+m*(a0 - pa)+s0 - s0)) / (a1 - a0)=m:=by
  rw[show st+m*(a1 - pa)+s1 - s1 - (st+m*(a0 - pa)+s0 - s0)=m*(a1 - a0) by grind];exact Rat.mul_div_cancel (by grind)
 rw[e];grind
theorem Qkn(vs:List V4)(h:Rat)(i j k:Nat):thr (atF vs) (shp (atF vs) (wtF vs) h) i (loF vs i) j (hiF vs j) k=lnC vs h i j k:=rfl
theorem Qft(vs:List V4)(h:Rat)(i j k:Nat):lnC vs h i j k=lnAt (atF vs) (shp (atF vs) (wtF vs) h) (stC vs h i - slC vs h i j*atF vs i) (slC vs h i j) k:=by
 unfold lnC lnV lnAt;grind
theorem Qko{vs:List V4}{a b k:Rat}{i j i' j':Nat}(h0:(archF vs).1=0)(hk0:0≤k)(hk1:k≤1)(hfa:fitsTo vs (lnC vs a i j) vs.length)(hfb:fitsTo vs (lnC vs b i' j') vs.length):
 ∃p q,p<q∧q<vs.length∧fitsTo vs (lnC vs (a+k*(b - a)) p q) vs.length:=by
 obtain⟨h2,_⟩:=Qaz h0;have hm:=Qjf (n:=vs.length) (at':=atF vs) (lo:=loF vs) (hi:=hiF vs) (sm:=shp (atF vs) (wtF vs) (a+k*(b - a))) hk0 hk1 (fun q hq=>by rw[←Qft];exact hfa q hq) (fun q hq=>by rw[←Qft];exact hfb q hq) (fun q _=>Qdt _ _ a b k q);obtain⟨p,q,hpq,hq,hf⟩:=Qje h2 (Qb5 h0).1 hm;exact⟨p,q,hpq,hq,fun x hx=>by rw[←Qkn];exact hf x hx⟩
theorem Qkp{vs:List V4}(h2:2≤vs.length)(h10:vs.length≤10)(hr:∀(i:Nat) (v u:V4),vs[i]?=some v→vs[i+1]?=some u→v.1<u.1)(hv:∀v,v∈ vs→0≤v.2.1∧v.2.2.1≤v.2.2.2):archF vs=(0,0):=by
 have h0:archF vs=archFrom 0 (ahead vs 0) (vs.drop 0):=by
  unfold archF;rw[if_neg (by omega)];rfl
 have val:∀v,v∈ vs→valC v=0:=fun v hm=>by
  unfold valC;rw[if_neg];rintro(h|h)
  · exact absurd h (Rat.not_lt.2 (hv v hm).1)
  · exact absurd h (Rat.not_lt.2 (hv v hm).2)
 have each:∀(k:Nat) (v:V4),vs[k]?=some v→stoneC (ahead vs k) v=0:=fun k v hk=>by
  cases k with
  |zero=>exact val v (List.mem_of_getElem? hk)
  |succ k=>
   have hkl:k<vs.length:=by have:=(List.getElem?_eq_some_iff.1 hk).1;omega
   have hp:vs[k]?=some vs[k]:=List.getElem?_eq_getElem hkl;have e:ahead vs (k+1)=some (vs[k]).1:=by simp[ahead,hp]
   rw[e];unfold stoneC;simp only;rw[if_neg (Rat.not_le.2 (hr k _ _ hp hk))];exact val v (List.mem_of_getElem? hk)
 have all:∀d,d≤vs.length→archFrom (vs.length - d) (ahead vs (vs.length - d)) (vs.drop (vs.length - d))=(0,0):=by
  intro d
  induction d with
  |zero=>intro _;exact Qfi
  |succ d ih=>
   intro hd;have hk:vs[vs.length - (d+1)]?=some vs[vs.length - (d+1)]:=List.getElem?_eq_getElem (by omega);rw[Qcm hk,if_pos (each _ _ hk),show vs.length - (d+1)+1=vs.length - d by omega];exact ih (by omega)
 rw[h0];have:=all vs.length (Nat.le_refl _);rw[Nat.sub_self] at this;exact this
structure Wider (vs us:List V4):Prop where
 len:us.length=vs.length
 each:∀(i:Nat) (v u:V4),vs[i]?=some v→us[i]?=some u→u.1=v.1∧u.2.1=v.2.1∧u.2.2.1≤v.2.2.1∧v.2.2.2≤u.2.2.2
section
variable {vs us:List V4}
theorem Wider.refl(vs:List V4):Wider vs vs:=⟨rfl,fun i v u h1 h2=>by
 obtain rfl:=Option.some.inj (h1.symm.trans h2)
 exact⟨rfl,rfl,Rat.le_refl,Rat.le_refl⟩⟩
theorem Wider.at(h:Wider vs us):atF us=atF vs∧wtF us=wtF vs:=by
 have key:∀i,(us[i]?=none∧vs[i]?=none)∨∃u v,us[i]?=some u∧vs[i]?=some v:=fun i=>by
  rcases Nat.lt_or_ge i vs.length with hi|hi
  · exact Or.inr ⟨us[i]'(by rw[h.len];exact hi),vs[i],List.getElem?_eq_getElem _,List.getElem?_eq_getElem _⟩
  · exact Or.inl ⟨List.getElem?_eq_none (by rw[h.len];exact hi),List.getElem?_eq_none hi⟩
 constructor<;>funext i
 ·
  unfold atF;rcases key i with ⟨e1,e2⟩|⟨u,v,e1,e2⟩
  · rw[e1,e2]
  · rw[e1,e2];exact(h.each i v u e2 e1).1
 ·
  unfold wtF;rcases key i with ⟨e1,e2⟩|⟨u,v,e1,e2⟩
  · rw[e1,e2]
  · rw[e1,e2];exact(h.each i v u e2 e1).2.1
theorem Wider.fits(h:Wider vs us){y:Nat→Rat}(hf:fitsTo vs y vs.length):fitsTo us y us.length:=fun i hi=>by
 rw[h.len] at hi;have e2:vs[i]?=some vs[i]:=List.getElem?_eq_getElem hi;have e1:us[i]?=some (us[i]'(by rw[h.len];exact hi)):=List.getElem?_eq_getElem _;obtain⟨_,_,h3,h4⟩:=h.each i _ _ e2 e1;have hf:=hf i hi;unfold loF hiF at hf ⊢;rw[e2] at hf;rw[e1];exact⟨Rat.le_trans h3 hf.1,Rat.le_trans hf.2 h4⟩
theorem Wider.line(h:Wider vs us)(st m pa q:Rat):lnV st m pa us q=lnV st m pa vs q:=by
 unfold lnV;rw[h.at.1,h.at.2]
theorem Wider.right(h:Wider vs us)(h0:(archF vs).1=0):archF us=(0,0):=by
 obtain⟨h2,h10⟩:=Qaz h0;obtain⟨hr,hw,hlh⟩:=Qb5 h0;refine Qkp (by rw[h.len];exact h2) (by rw[h.len];exact h10) (fun i v u hv hu=>?_) (fun u hu=>?_)
 ·
  have hi:i+1<vs.length:=by have:=(List.getElem?_eq_some_iff.1 hu).1;rw[h.len] at this;exact this
  have:=hr i (i+1) (by omega) hi;rw[←h.at.1] at this;unfold atF at this;rw[hv,hu] at this;exact this
 ·
  obtain⟨i,hi⟩:=List.getElem?_of_mem hu;have hl:i<vs.length:=by have:=(List.getElem?_eq_some_iff.1 hi).1;rw[h.len] at this;exact this
  have e2:vs[i]?=some vs[i]:=List.getElem?_eq_getElem hl;obtain⟨h1,h2,h3,h4⟩:=h.each i _ _ e2 hi;have w1:=hw i hl;have w2:=hlh i hl;unfold wtF at w1;unfold loF hiF at w2;rw[e2] at w1 w2;rw[h2];exact⟨w1,Rat.le_trans h3 (Rat.le_trans w2 h4)⟩
theorem Wider.stands(h:Wider vs us)(h0:(archF vs).1=0){q:Rat}{i j:Nat}(hq:¬q<0)(hf:fitsTo vs (lnC vs q i j) vs.length){b:Bool}{c1 c2:Int}(hs:standsF us q vs.length (lnC vs q i j) b (c1,c2)):b=true∧c1=0∧c2=0:=by
 have hu:=h.right h0;unfold standsF at hs;rw[if_neg (by rw[hu];simp),if_neg (by rw[h.len];simp),if_neg hq] at hs;obtain⟨h1,h2⟩:=hs;obtain⟨rfl,rfl⟩:=Prod.mk.inj h1;refine⟨h2.2 ?_,rfl,rfl⟩;have e:lnC vs q i j=lnV (stC vs q i) (slC vs q i j) (atF vs i) us q:=(h.line _ _ _ q).symm;have key:lnS us q (lnC vs q i j)=lnC vs q i j:=by
  rw[e];funext k;exact Qkm (by rw[hu])
 rw[key];exact⟨fun k _=>rfl,h.fits hf⟩
end
open Go.RowKit
set_option maxHeartbeats 1000000 in
theorem Qkq(x:Nat)(w:World)(hx:x≤8):Calls Tryz.prog 28 #[.int .i64 x,.int .i64 8] w (NewRat w (mkRat (x:Int) 8)):=by
 go_enter Tryz.func28,Tryz.ntmps28;go_wp2_with fail;refine(Qbc (x:Int) _ (by omega) (by omega)).mono ?_;rintro e w1 ⟨⟨b1,a1,cap1,l1,rfl,hb1',hs1,hu1⟩,hb1⟩;have HI1:=Hi (show IntAt w1 b1 0 x a1 cap1 l1 from ⟨by rw[hs1.cell];simp,by rw[hs1.cell];rfl,hu1,hs1.lt⟩);have HB1:=Hi hb1;clear hb1' hs1 hu1 hb1;go_wp2_with fail;refine(Qbc 8 _ (by decide) (by decide)).mono ?_;rintro e w2 ⟨⟨b2,a2,cap2,l2,rfl,hb2',hs2,hu2⟩,hb2⟩;have HI2:=Hi (show IntAt w2 b2 0 8 a2 cap2 l2 from ⟨by rw[hs2.cell];rfl,by rw[hs2.cell];rfl,hu2,hs2.lt⟩);have HB2:=Hi hb2;clear hb2' hs2 hu2 hb2;go_wp2_with fail;obtain⟨s0,s1,s2,s3,hs,hn⟩:=Qdp w;have hbb:=HB1.out.trans (HB2.out.mono HB1.out.size);have hle1:l1.length≤64:=HI1.out.num.len_bits (Nat.lt_of_le_of_lt (show ((x:Int)).natAbs≤8 by omega) (by decide:8<2 ^ 64));have hle2:l2.length≤64:=HI2.out.num.len_bits (by decide)
 refine(Qbx w.heap.size s0 s1 s2 s3 b1 0 x a1 cap1 l1 b2 0 8 a2 cap2 l2 _ (hs.below hbb hs.lt) hn (HI1.out.below HB2.out) HI2.out (by decide) (by omega) (by omega)).mono ?_;rintro e w3 hok;have HF:=Hi (RatOk.new (RatOk.of (Only.of_below hbb) hok));obtain⟨rfl,hon,hr⟩:=hok;clear hon hr hs hn hbb;go_wp2;go_ret;exact HF.out
def RF(q:Rat)(k:Nat):Fact:=fun v w=>∃b,v=.pointer (some ⟨b,0,none⟩)∧RatVal w b q∧Fits q k∧0<k
theorem RF.stays(q:Rat)(k:Nat):Stays (RF q k):=fun _ _ _ hb ⟨b,e,h,r⟩=>⟨b,e,h.below hb,r⟩
theorem RF.below{q:Rat}{k:Nat}{v:Value}{w w':World}(h:RF q k v w)(hb:Below w.heap.size w w'):RF q k v w':=RF.stays q k v w w' hb h
theorem NewRat.makes{w w':World}{q:Rat}{k:Nat}{e:Ending}(h:NewRat w q e w')(hf:Fits q k)(hk:0<k):Makes w (RF q k) e w':=by
 obtain⟨⟨b,rfl,_,hv⟩,hb⟩:=h;exact⟨_,rfl,hb,b,rfl,hv,hf,hk⟩
theorem RF.add{u v:Value}{p q:Rat}{j k:Nat}{w:World}(h1:RF p j u w)(h2:RF q k v w)(hj:j+k<274877906000):Calls Tryz.prog 27 #[u,v] w (Makes w (RF (p+q) (j+k+1))):=by
 obtain⟨b,rfl,r1,f1,_⟩:=h1;obtain⟨c,rfl,r2,f2,_⟩:=h2;exact(Qqe b c j k p q w r1 r2 f1 f2 hj).mono fun e w' h=>h.makes (f1.add f2) (by omega)
theorem RF.sub{u v:Value}{p q:Rat}{j k:Nat}{w:World}(h1:RF p j u w)(h2:RF q k v w)(hj:j+k<274877906000):Calls Tryz.prog 26 #[u,v] w (Makes w (RF (p - q) (j+k+1))):=by
 obtain⟨b,rfl,r1,f1,_⟩:=h1;obtain⟨c,rfl,r2,f2,_⟩:=h2;exact(Qqf b c j k p q w r1 r2 f1 f2 hj).mono fun e w' h=>h.makes (f1.sub f2) (by omega)
theorem RF.mul{u v:Value}{p q:Rat}{j k:Nat}{w:World}(h1:RF p j u w)(h2:RF q k v w)(hj:j+k<274877906000):Calls Tryz.prog 29 #[u,v] w (Makes w (RF (p*q) (j+k))):=by
 obtain⟨b,rfl,r1,f1,hj0⟩:=h1;obtain⟨c,rfl,r2,f2,_⟩:=h2;exact(Qqg b c j k p q w r1 r2 f1 f2 hj).mono fun e w' h=>h.makes (f1.mul f2 hj0) (by omega)
theorem RF.text{u:Value}{p:Rat}{j:Nat}{w:World}(h:RF p j u w)(hj:j≤1099511627776):Calls Tryz.prog 17 #[u] w (Makes w (TF p)):=by
 obtain⟨b,rfl,r1,f1,_⟩:=h;exact(ref_T b j p w r1 f1 hj).mono fun e w' ⟨⟨s,he,hs⟩,hb⟩=>⟨_,he,hb,s,rfl,hs⟩
theorem RF.of{s:ByteArray}{q:Rat}{K:Nat}{w:World}(hg:Glob w)(hq:QOf s.data.toList q)(hs:s.size≤1073741824)(hf:Fits q K)(hK:0<K):Calls Tryz.prog 18 #[.string s] w (Makes w (RF q K)):=by
 obtain⟨m,hm⟩:=hg.most;refine(Qqd s m w hm hs).mono ?_;rintro e w' ⟨q',hq',hn⟩;obtain rfl:=hq.inj hq';exact hn.makes hf hK
theorem RF.sign{u:Value}{p:Rat}{j:Nat}{w:World}(h:RF p j u w):Calls Tryz.prog 19 #[u] w (Makes w (Is (.int .i64 (sgn3 p.num)))):=by
 obtain⟨b,rfl,r1,f1,_⟩:=h;exact(Qpz b p w r1).mono fun e w' ⟨he,hw⟩=>⟨_,he,by rw[hw];exact Below.refl _ _,rfl⟩
structure WAt (w:World) (g cap:Nat) (es:List T4):Prop where
 blk:∃C,SB w g 28 C∧C.size=cap*4∧∀(j:Nat) (u:Value),(es.flatMap T4.cells)[j]?=some u→C[j]?=some u
 fit:es.length≤cap
theorem WAt.row{w:World}{g cap:Nat}{es:List T4}(h:WAt w g cap es):ARow T4.cells w (some ⟨g,0,none⟩) cap es:=by
 obtain⟨C,h1,h2,h3⟩:=h.blk;exact⟨h.fit,⟨fun j u hj=>⟨g,0,rfl,h1.lt,by rw[Nat.zero_add,h1.cell];exact h3 j u hj⟩⟩⟩
theorem WAt.below{w w':World}{g cap:Nat}{es:List T4}(h:WAt w g cap es)(hb:Below w.heap.size w w'):WAt w' g cap es:=by
 obtain⟨C,h1,h2,h3⟩:=h.blk;exact⟨⟨C,h1.below hb h1.lt,h2,h3⟩,h.fit⟩
theorem Qkr:(Tryz.prog.info? 28).map (fun i=>(i.zero,i.size,i.bytes))=some (some (.agg #[.string ⟨#[]⟩,.string ⟨#[]⟩,.string ⟨#[]⟩,.string ⟨#[]⟩]),4,64):=by kernel_rfl
theorem flat4:∀(ss:List T4),(ss.flatMap T4.cells).length=ss.length*4
 | []=>rfl
 |s :: l=>by rw[List.flatMap_cons,List.length_append,flat4 l];simp[T4.cells];omega
set_option maxHeartbeats 1000000 in
theorem Qks(ad:Addr)(cap:Nat)(ss:List T4)(w:World)(h:ARow T4.cells w (some ad) cap ss)(hn:0<ss.length)(hl:ss.length≤10):
 Calls Tryz.prog 25 #[.slice (some ad) ss.length cap] w fun e w'=>(∃g cap',e=.returned (.slice (some ⟨g,0,none⟩) ss.length cap')∧w.heap.size≤g∧WAt w' g cap' ss)∧Below w.heap.size w w':=by
 obtain⟨i0,hi,hz⟩:=Option.map_eq_some_iff.1 Qkr;simp only[Prod.mk.injEq] at hz;obtain⟨hz0,hz1,hz2⟩:=hz;have hq:∀(w:World) (a:Option Addr) (n c n' c':Nat),(binOp .eql 22 (.slice a n c) (.slice none n' c')).run Tryz.prog w=.ok (.bool a.isNone) w:=fun w a n c n' c'=>Lib.run_eql_slice_nil w _ _ a n c n' c' Tryz.underlying22
 have H:=Hi h;clear h;go_enter Tryz.func25,Tryz.ntmps25;go_wp2_with (at_builtin;refine wpList_append_own _ rfl _ _ 22 rfl w.heap.size 28 i0 (.agg #[.string ⟨#[]⟩,.string ⟨#[]⟩,.string ⟨#[]⟩,.string ⟨#[]⟩]) 4 64 Tryz.underlying22 hi hz0 hz1 hz2 rfl (by decide) _ _ _ rfl (World.ownsRow_made w #[] 0 (Nat.le_refl _) (Nat.zero_le _) rfl) ad ss.length cap (ss.flatMap T4.cells) rfl ?c1 ?c2 ?c3 ?c4 ?c5 ?c6 ?_)
 case c1=>exact flat4 ss
 case c2=>
  intro j u hj;obtain⟨b,off,e1,hb',hc⟩:=H.out.row.cell j u hj;cases e1;rw[Qcz];exact(((Below.refl w.heap.size w).alloc (Nat.le_refl _) _).cell (p:=⟨b,off+j,none⟩) hb').trans hc
 case c3=>
  intro u hu;obtain⟨t,_,hu⟩:=List.mem_flatMap.1 hu;simp[T4.cells] at hu;rcases hu with rfl|rfl|rfl|rfl<;>rfl
 case c4=>unfold maxLen;omega
 case c5=>omega
 case c6=>simp
 intro v' w1 hown hgrow hnil;obtain⟨g,cap',rfl,hg,hlt⟩:=hown.form (by omega);have HO:=Hi hown;have HG:=Hi hgrow;clear hown hgrow hnil;go_wp2;go_ret;obtain⟨_,h2⟩:=HO.out;rcases h2 with ⟨h2,_⟩|⟨g',cap2,cur,h2,h3,h4,h5,h6,h7,h8⟩
 · cases h2
 ·
  injection h2 with e1 e2 e3
  injection e1 with e1
  injection e1 with e1
  subst e1;subst e3;refine⟨⟨g,cap',rfl,h3,⟨cur,h4,h7,fun j u hj=>?_⟩,h5⟩,((Below.refl _ w).alloc (Nat.le_refl _) _).grown HG.out (by simp) (by intro k hk;simp[Value.ownBlock] at hk;omega)⟩;have hlt':j<ss.length*4:=by
   have:=(List.getElem?_eq_some_iff.1 hj).1;rw[flat4] at this;exact this
  rw[←h8,List.getElem?_take_of_lt hlt'] at hj
  simpa using hj
theorem Qfu{c:T4→T4}:∀(ss:List T4) (i:Nat) (e e':T4) (d:Nat) (v:Value),ss[i]?=some e→d<4→(T4.cells e).set d v=T4.cells e'→(ss.set i e').flatMap T4.cells=(ss.flatMap T4.cells).set (i*4+d) v
 | [],i,e,e',d,v,h,_,_=>by cases h
 |t :: l,0,e,e',d,v,h,hd,he=>by
  obtain rfl:=Option.some.inj h;simp only[List.set_cons_zero,List.flatMap_cons,Nat.zero_mul,Nat.zero_add];rw[←he,List.set_append_left _ _ (by simpa [T4.cells] using hd)]
 |t :: l,i+1,e,e',d,v,h,hd,he=>by
  have ih:=Qfu (c:=c) l i e e' d v h hd he;simp only[List.set_cons_succ,List.flatMap_cons];rw[ih,List.set_append_right _ _ (by simp[T4.cells];omega)]
  congr 2
  simp[T4.cells];omega
theorem WAt.set{w:World}{g cap i d:Nat}{es:List T4}{e e':T4}{v:Value}(h:WAt w g cap es)(hi:es[i]?=some e)(hd:d<4)(he:(T4.cells e).set d v=T4.cells e'):WAt (w.setCell ⟨g,i*4+d,none⟩ v) g cap (es.set i e')∧Only g w (w.setCell ⟨g,i*4+d,none⟩ v):=by
 obtain⟨C,h1,h2,h3⟩:=h.blk;refine⟨⟨⟨C.setIfInBounds (i*4+d) v,h1.set _ _,by simp[h2],fun j u hj=>?_⟩,by simpa using h.fit⟩,(Only.refl g w).setCell _ _⟩;rw[Qfu (c:=id) es i e e' d v hi hd he,List.getElem?_set] at hj;rw[Array.getElem?_setIfInBounds]
 split at hj
 ·
  rename_i hij;subst hij
  split at hj
  ·
   rename_i hl;rw[if_pos rfl];have hlt:i*4+d<C.size:=by
    rw[h2];have:=(List.getElem?_eq_some_iff.1 hi).1;have:=h.fit;omega
   rw[if_pos hlt];exact hj
  · cases hj
 ·
  rename_i hij;rw[if_neg hij];exact h3 j u hj
theorem Qd6{vs:List V4}{q:Rat}{w:World}{e:Ending}{w':World}(h:LineSays vs q w e w'):∃(v:Value) (c1 c2:Int),e=.returned (.tuple #[v,.agg #[.int .i64 c1,.int .i64 c2]])∧
 ((c1≠0∧v=.slice none 0 0∧((archF vs).1=0→¬q<0→∀i j,i<j→j<vs.length→¬fitsTo vs (lnC vs q i j) vs.length))∨
  (c1=0∧(archF vs).1=0∧¬q<0∧∃(i j g:Nat) (ls:List ByteArray),i<j∧j<vs.length∧fitsTo vs (lnC vs q i j) vs.length∧v=.slice (some ⟨g,0,none⟩) vs.length vs.length∧w.heap.size≤g∧ls.length=vs.length∧SB w' g 23 (textsV ls).toArray∧∀(k:Nat) (s:ByteArray),ls[k]?=some s→QText s.data.toList (lnC vs q i j k))):=by
 obtain⟨v,c1,c2,rfl,hs⟩:=h;refine⟨v,c1,c2,rfl,?_⟩;rcases hs with ⟨h1,h2,h3⟩|⟨h1,h2,h3,h4⟩|⟨h1,h2,h3,h4,h5⟩|⟨h1,h2,h3,h4⟩
 · have:c1=(archF vs).1:=by rw[←h3]
   exact Or.inl ⟨by rw[this];exact h1,h2,fun h=>absurd h h1⟩
 · obtain⟨rfl,_⟩:=Prod.mk.inj h4
   exact Or.inl ⟨by decide,h3,fun _ h=>absurd h2 h⟩
 · obtain⟨rfl,_⟩:=Prod.mk.inj h4
   exact Or.inl ⟨by decide,h3,fun _ _=>h5⟩
 · obtain⟨rfl,_⟩:=Prod.mk.inj h3
   exact Or.inr ⟨rfl,h1,h2,h4⟩
theorem Qkt(s:ByteArray):s.data.toList.length=s.size:=by simp
theorem QOf.fitsS{s:ByteArray}{q:Rat}(h:QOf s.data.toList q):Fits q (4*s.size+1):=QOf.fits h (Nat.le_of_eq (Qkt s))
theorem Qfv{vs:List V4}{q:Rat}{A H i j:Nat}{ls:List ByteArray}(hv:VFits A vs)(hq:Fits q H)(hA:0<A)(hH:0<H)(hn:vs.length≤10)(hij:i<j)(hj:j<vs.length)(hl:ls.length=vs.length)(ht:∀(k:Nat) (s:ByteArray),ls[k]?=some s→QText s.data.toList (lnC vs q i j k))(hk:215*A+144*H+252≤1600000000):HeightsV ls (lnC vs q i j) (215*A+144*H+252):=by
 refine⟨fun k s hs=>?_,by omega⟩;have hkl:=(List.getElem?_eq_some_iff.1 hs).1;have hf:Fits (lnC vs q i j k) (215*A+144*H+252):=Qkl hv hq hA hH (by omega) (by omega) (by omega);have h1:=ht k s hs;exact⟨h1.back,hf,by have:=h1.lenS hf;omega⟩
theorem Qku{a b:Rat}{x:Nat}(ha:¬a<0)(hb:¬b<0)(hx:x≤8):0≤mkRat (x:Int) 8∧mkRat (x:Int) 8≤1∧¬a+mkRat (x:Int) 8*(b - a)<0:=by
 have h0:(0:Rat)≤mkRat (x:Int) 8:=by
  have:x=0∨x=1∨x=2∨x=3∨x=4∨x=5∨x=6∨x=7∨x=8:=by omega
  rcases this with rfl|rfl|rfl|rfl|rfl|rfl|rfl|rfl|rfl<;>decide
 have h1:mkRat (x:Int) 8≤1:=by
  have:x=0∨x=1∨x=2∨x=3∨x=4∨x=5∨x=6∨x=7∨x=8:=by omega
  rcases this with rfl|rfl|rfl|rfl|rfl|rfl|rfl|rfl|rfl<;>decide
 refine⟨h0,h1,Rat.not_lt.2 ?_⟩;have ha':=Rat.not_lt.1 ha;have hb':=Rat.not_lt.1 hb;have p1:=Rat.mul_nonneg h0 hb';have p2:=Rat.mul_nonneg (show 0≤1 - mkRat (x:Int) 8 by grind) ha';grind
theorem Qkv{x:Nat}(hx:x≤8):Fits (mkRat (x:Int) 8) 4:=by
 have:x=0∨x=1∨x=2∨x=3∨x=4∨x=5∨x=6∨x=7∨x=8:=by omega
 rcases this with rfl|rfl|rfl|rfl|rfl|rfl|rfl|rfl|rfl<;>exact⟨by decide,by decide⟩
structure WideI (ss es:List T4) (vs us:List V4) (k:Nat):Prop where
 st:StonesV es us
 wd:Wider vs us
 le:es.length=ss.length
 old:∀(i:Nat),k≤i→es[i]?=ss[i]?∧us[i]?=vs[i]?
theorem WideI.same{ss es:List T4}{vs us:List V4}{k:Nat}(h:WideI ss es vs us k):WideI ss es vs us (k+1):=⟨h.st,h.wd,h.le,fun i hi=>h.old i (by omega)⟩
theorem WideI.next{ss es:List T4}{vs us:List V4}{k:Nat}{e:T4}{v:V4}{m:Rat}{s1 s2:ByteArray}(h:WideI ss es vs us k)(he:ss[k]?=some e)(hv:vs[k]?=some v)(h0:(archF vs).1=0)(hm:0<m)(hs:StoneV e v)
 (t1:QText s1.data.toList (v.2.2.1 - m)) (t2:QText s2.data.toList (v.2.2.2+m)) (f1:Fits (v.2.2.1 - m) 4194400) (f2:Fits (v.2.2.2+m) 4194400):WideI ss ((es.set k ⟨e.a,e.w,s1,e.h⟩).set k ⟨e.a,e.w,s1,s2⟩) vs (us.set k (v.1,v.2.1,v.2.2.1 - m,v.2.2.2+m)) (k+1):=by
 have hke:k<es.length:=by rw[h.le];exact(List.getElem?_eq_some_iff.1 he).1
 have hku:k<us.length:=by rw[h.wd.len];exact(List.getElem?_eq_some_iff.1 hv).1
 rw[List.set_set];refine⟨⟨by simpa using h.st.len,fun i s u hi hu=>?_⟩,⟨by simpa using h.wd.len,fun i v' u hi hu=>?_⟩,by simpa using h.le,fun i hi=>?_⟩
 ·
  by_cases e1:i=k
  ·
   subst e1;rw[List.getElem?_set_self hke] at hi;rw[List.getElem?_set_self hku] at hu;cases hi;cases hu;have z1:=t1.len f1;have z2:=t2.len f2;exact⟨hs.a,hs.w,t1.back,t2.back,hs.za,hs.zw,⟨by show s1.size≤_;omega,f1⟩,⟨by show s2.size≤_;omega,f2⟩⟩
  · rw[List.getElem?_set_ne (Ne.symm e1)] at hi hu
    exact h.st.each i s u hi hu
 ·
  by_cases e1:i=k
  ·
   subst e1;rw[List.getElem?_set_self hku] at hu;obtain rfl:=Option.some.inj (hv.symm.trans hi);cases hu;refine⟨rfl,rfl,?_,?_⟩<;>dsimp only<;>grind
  · rw[List.getElem?_set_ne (Ne.symm e1)] at hu
    exact h.wd.each i v' u hi hu
 · rw[List.getElem?_set_ne (by omega),List.getElem?_set_ne (by omega)]
   exact h.old i (by omega)
theorem WAt.cell{w:World}{g cap i:Nat}{es:List T4}{e:T4}(h:WAt w g cap es)(hi:es[i]?=some e):w.cell? ⟨g,i*4+2,none⟩=some (.string e.l)∧w.cell? ⟨g,i*4+3,none⟩=some (.string e.h):=by
 obtain⟨b,off,e1,hb,h0,h1,h2,h3⟩:=h.row.stone hi;cases e1;rw[Nat.zero_add] at h2 h3;exact⟨h2,h3⟩
theorem WAt.free{w:World}{g cap:Nat}{es:List T4}(h:WAt w g cap es)(i:Nat):w.frozen? ⟨g,i,none⟩=false:=by
 obtain⟨C,h1,_⟩:=h.blk;exact h1.free i
end Go.Proofs.YtldjeecnapgakaaGreatDoor
