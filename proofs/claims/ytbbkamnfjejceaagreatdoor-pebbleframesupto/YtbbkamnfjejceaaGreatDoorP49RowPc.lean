/- For every world that holds the tables, and every frame of bulk at most 1048576: PebbleFrames answers true: the statement and its card. -/
import Derived.Test.YtbbkamnfjejceaaGreatDoorP48BalJ
import Derived.Test.YtbbkamnfjejceaaGreatDoorCards
import Derived.Test.YtbbkamnfjejceaaGreatDoorTie
import Derived.Deep.DeepHandedRow
namespace Go.Proofs.YtbbkamnfjejceaaGreatDoor
open Go.RowKit Go.MapKept
set_option linter.unusedVariables false
set_option linter.unusedSimpArgs false
theorem Qjz{bs:List B6}{j:Nat}{b:B6}(h:bs[j]?=some b):(bs.take (j+1)).map barE=(bs.take j).map barE++ [barE b]:=by
 rw[List.take_add_one,h];simp
set_option maxRecDepth 100000 in
set_option maxHeartbeats 8000000 in
theorem Qj0(a1 a2 a3:Option Addr)(c1 c2 c3:Nat)(js:List S2)(bs:List B6)(hs:List H3)(w:World)(hg:Glob w)(hf:FrRow w a1 a2 a3 c1 c2 c3 js bs hs)(hz:FrSized js bs hs):
 Calls Tryz.prog 6 #[.agg #[.slice a1 js.length c1,.slice a2 bs.length c2,.slice a3 hs.length c3]] w fun e w'=>e=.returned (.bool true)∧Below w.heap.size w w':=by
 have HG:=Hi hg;have HF:Hid (FrRow w a1 a2 none c1 c2 0 js bs []):=Hi ⟨hf.j,hf.b,⟨Nat.le_refl _,⟨fun i u hi=>by simp at hi⟩⟩⟩;have HZ:Hid (FrSized js bs []):=Hi ⟨hz.j,hz.b,fun x hx=>by cases hx⟩;clear hg hf hz;obtain⟨B0,hB0⟩:∃B0,w.heap.size=B0:=⟨_,rfl⟩;obtain⟨W,hW⟩:∃W,w.alloc (.cells #[.slice a1 js.length c1,.slice a2 bs.length c2,.slice a3 hs.length c3] 54)=W:=⟨_,rfl⟩;have HBW:Hid (Below w.heap.size w W):=Hi (by rw[←hW];exact(Below.refl _ _).alloc (Nat.le_refl _) _);have HSW:Hid (SB W B0 54 #[.slice a1 js.length c1,.slice a2 bs.length c2,.slice a3 hs.length c3]):=Hi (by rw[←hW,←hB0];exact SB.new w _ _);have HWE:=Hi hW;have HB0:=Hi hB0;clear hW hB0;go_enter Tryz.func6,Tryz.ntmps6;go_wp2_with fail;rw[HWE.out,HB0.out];go_fit (Peb.law_plays W);rintro e w1 ⟨rfl,hb1⟩;have HL1:=Hi (Qi7 w1 (HG.out.below (HBW.out.trans (hb1.mono HBW.out.size))))
 have HB1:=Hi (HBW.out.trans (hb1.mono HBW.out.size));have HS1:=Hi (HSW.out.below hb1 HSW.out.lt);clear hb1 HWE;go_wp2_with fail;go_fit HL1.out;rintro e w2 ⟨rfl,hb2⟩;have HB2:=Hi (HB1.out.trans (hb2.mono HB1.out.size));have hs2:=HS1.out.below hb2 HS1.out.lt;have x0:w2.cell? ⟨B0,0,none⟩=some (.slice a1 js.length c1):=hs2.cell 0;have x1:w2.cell? ⟨B0,1,none⟩=some (.slice a2 bs.length c2):=hs2.cell 1;have x2:w2.cell? ⟨B0,2,none⟩=some (.slice a3 hs.length c3):=hs2.cell 2;have f2:=hs2.free 2;obtain⟨V,hV⟩:∃V,w2.setCell ⟨B0,2,none⟩ (.slice none 0 0)=V:=⟨_,rfl⟩;have hle:w.heap.size≤B0:=by have:=HB0.out;omega
 have HBV:Hid (Below w.heap.size w V):=Hi (by rw[←hV];exact HB2.out.setCell (p:=⟨B0,2,none⟩) hle _);have HSV:Hid (SB V B0 54 #[.slice a1 js.length c1,.slice a2 bs.length c2,.slice none 0 0]):=Hi (by rw[←hV];exact hs2.set 2 _);have y0:V.cell? ⟨B0,0,none⟩=some (.slice a1 js.length c1):=HSV.out.cell 0;have y1:V.cell? ⟨B0,1,none⟩=some (.slice a2 bs.length c2):=HSV.out.cell 1;have y2:V.cell? ⟨B0,2,none⟩=some (.slice none 0 0):=HSV.out.cell 2;have HV:=Hi hV;rw[←hV] at y0 y1 y2;have HCT:=Hi (Qjf a1 a2 none c1 c2 0 js bs [] V (HG.out.below HBV.out) (HF.out.below HBV.out) HZ.out);clear hb2 hs2 hV HL1 HS1;go_wp2_with fail;rw[HV.out];go_fit HCT.out;rintro e w3 ⟨r,m,y,c,at_,rfl,hff,hnul,hb3⟩;obtain⟨U,hU⟩:∃U,w3.alloc (.cells #[.int .i64 c,.int .i64 at_] 57)=U:=⟨_,rfl⟩;obtain⟨G0,hG0⟩:∃G0,w3.heap.size=G0:=⟨_,rfl⟩;have hbVU:Below V.heap.size V U:=by rw[←hU];exact hb3.alloc hb3.size _
 have HBU:=Hi (HBV.out.trans (hbVU.mono HBV.out.size));have HSU:=Hi (HSV.out.below hbVU HSV.out.lt);have HSG:Hid (SB U G0 57 #[.int .i64 c,.int .i64 at_]):=Hi (by rw[←hU,←hG0];exact SB.new w3 _ _);have HGL:Hid (w.heap.size≤G0):=Hi (by rw[←hG0];have h1:=HBV.out.size;have h2:=hb3.size;omega);have HFF:=Hi hff;have HNU:=Hi hnul;have p0:U.cell? ⟨G0,0,none⟩=some (.int .i64 c):=HSG.out.cell 0;have u0:U.cell? ⟨B0,0,none⟩=some (.slice a1 js.length c1):=HSU.out.cell 0;have u1:U.cell? ⟨B0,1,none⟩=some (.slice a2 bs.length c2):=HSU.out.cell 1;have HU:=Hi hU;have HG0:=Hi hG0;rw[←hU] at p0 u0 u1;rw[←hG0] at p0;clear hbVU hff hnul hU hG0 hb3 HCT x0 x1 x2 f2 y0 y1 y2;by_cases hc:c=0
 ·
  subst hc;by_cases hm:m=0
  ·
   subst hm;obtain⟨vb,vh,hv,hpt⟩:=Qe5 HZ.out HFF.out;obtain⟨hnm,_,_,rfl⟩:=HFF.out.few;have b1:1≤js.length:=Nat.le_of_not_lt fun h=>hnm (.inl (by omega))
   have b2:bs.length≤24:=Nat.le_of_not_lt fun h=>hnm (.inr (.inr (.inl h)))
   have b3:js.length≤10:=Nat.le_of_not_lt fun h=>hnm (.inr (.inl h))
   have HGR:=Hi (Qjy hv hpt b1 rfl (HNU.out rfl rfl vb vh hv));clear hnm hv hpt;go_wp2_with fail;rw[HU.out,HG0.out];clear p0 u0 u1;go_loopw [35,7] (fun iv kv wi=>∃j:Nat,j≤bs.length∧iv=.int .i64 j∧Peb.EOwn wi U.heap.size kv ((bs.take j).map barE)∧Below U.heap.size U wi) (fun iv _ _=>bs.length - (intOf iv).toNat)
   case atStart=>exact⟨0,by omega,rfl,Peb.EOwn.nil _ _,Below.refl _ _⟩
   case round=>
    obtain⟨j,hj,rfl,hown,hbi⟩:=hrel;have HOJ:=Hi hown;have HBI:=Hi hbi;clear hown hbi;by_cases hje:j<bs.length
    ·
     obtain⟨b,hbj⟩:∃b,bs[j]?=some b:=⟨bs[j],List.getElem?_eq_getElem hje⟩;obtain⟨fb,off,rfl,hfb,d0,d1,d2,d3,d4,d5⟩:=((HF.out.below HBU.out).below HBI.out).b.bar hbj;obtain⟨V1,hV1⟩:∃V1,wr.alloc (.cells #[.int .i64 b.a,.int .i64 b.b,.string b.c,.string b.e,.string b.l,.string b.m] 68)=V1:=⟨_,rfl⟩;have hbV1:Below wr.heap.size wr V1:=by rw[←hV1];exact(Below.refl _ _).alloc (Nat.le_refl _) _
     have hbUV:Below U.heap.size U V1:=HBI.out.trans (hbV1.mono HBI.out.size);have hsv:SB V1 wr.heap.size 68 #[.int .i64 b.a,.int .i64 b.b,.string b.c,.string b.e,.string b.l,.string b.m]:=by rw[←hV1];exact SB.new wr _ _
     have p0:V1.cell? ⟨wr.heap.size,0,none⟩=some (.int .i64 b.a):=hsv.cell 0;have p1:V1.cell? ⟨wr.heap.size,1,none⟩=some (.int .i64 b.b):=hsv.cell 1;have hoV:=HOJ.out.below hbV1;obtain⟨X,hX⟩:∃X,V1.alloc (.cells #[.int .i64 b.a,.int .i64 b.b] 69)=X:=⟨_,rfl⟩;have hbX:Below V1.heap.size V1 X:=by rw[←hX];exact(Below.refl _ _).alloc (Nat.le_refl _) _
     have hszV:V1.heap.size=wr.heap.size+1:=by rw[←hV1,World.size_alloc]
     have hcX:∀i u,(([barE b]:List (Int × Int)).flatMap Peb.eCells)[i]?=some u→X.cell? ((⟨wr.heap.size+1,0,none⟩:Addr).add i)=some u:=fun i u hi=>by
      rw[←hszV,Peb.add_at,Nat.zero_add,←hX,(SB.new V1 69 #[.int .i64 b.a,.int .i64 b.b]).cell]
      simpa [Peb.eCells,barE] using hi
     have hoX:=hoV.below hbX;obtain⟨v6,w6,happ,ho6,hg6,_⟩:=hoX.app ⟨wr.heap.size+1,0,none⟩ [barE b] hcX (by rw[List.length_map,List.length_take,List.length_singleton];omega) (by have:=hbUV.size;have:=hbX.size;omega) 1;have hbUX:=hbUV.trans (hbX.mono hbUV.size);have HB6:Hid (Below U.heap.size U w6):=Hi (hbUX.trans ⟨hg6.os,hg6.tape,hg6.output,hg6.size,fun b hb=>hg6.block b (by have:=hbUX.size;omega) (fun e=>by have:=(hoX.block e.symm).1;omega)⟩);have HO6:Hid (Peb.EOwn w6 U.heap.size v6 ((bs.take (j+1)).map barE)):=Hi (by rw[Qjz hbj];exact ho6);have happ':Peb.appRun Tryz.prog 66 66 u7 (.slice (some ⟨wr.heap.size+1,0,none⟩) 1 1) ((wr.alloc (.cells #[.int .i64 b.a,.int .i64 b.b,.string b.c,.string b.e,.string b.l,.string b.m] 68)).alloc (.cells #[.int .i64 b.a,.int .i64 b.b] 69))=.ok v6 w6:=by rw[hV1,hX];exact happ
     have q3:((j:Int)<(bs.length:Int)):=by omega
     rw[←hV1] at p0 p1;clear hbj hV1 hbV1 hbUV hsv hoV hX hbX hszV hcX hoX happ ho6 hg6 hbUX;go_wp2;go_roundw
     case rel=>exact⟨j+1,by omega,by go_num,HO6.out,HB6.out⟩
     case measure=>simp[intOf];omega
    ·
     obtain rfl:j=bs.length:=by omega
     have hoe:Peb.EOwn wr U.heap.size u7 (bs.map barE):=by
      have:=HOJ.out;rw[List.take_length] at this;exact this
     obtain⟨ak,ck,rfl,hrk,hrl⟩:=hoe.row;rw[List.length_map];have HFR:=Hi (Peb.peb_Free (js.length:Nat) ak ck (bs.map barE) wr hrk hrl);rw[List.length_map] at HFR;have hsb:=HSU.out.below HBI.out HSU.out.lt;have u0:wr.cell? ⟨B0,0,none⟩=some (.slice a1 js.length c1):=hsb.cell 0;clear hoe hrk hrl hsb;go_wp2_with fail;go_fit HFR.out;rintro e w7 ⟨c2',at2,v2,rfl,hck,hb7,hres⟩;obtain⟨rfl,rfl⟩:=HGR.out.1 _ _ hck;rcases hres with ⟨hc,_⟩|⟨_,l,hbr,hrun⟩
     · exact absurd rfl hc
     rw[Int.toNat_natCast] at hrun;obtain⟨hcnt,hll⟩:=HGR.out.2 l hrun;have hbU7:Below U.heap.size U w7:=HBI.out.trans (hb7.mono HBI.out.size);have hs7:=HSG.out.below hbU7 HSG.out.lt;have z0:w7.cell? ⟨G0,0,none⟩=some (.int .i64 0):=hs7.cell 0;have z1:w7.cell? ⟨G0,1,none⟩=some (.int .i64 0):=hs7.cell 1;have f0:w7.frozen? ⟨G0,0,none⟩=false:=hs7.free 0;have f1:w7.frozen? ⟨G0,1,none⟩=false:=hs7.free 1;obtain⟨w8,hw8⟩:∃w8,(w7.setCell ⟨G0,0,none⟩ (.int .i64 0)).setCell ⟨G0,1,none⟩ (.int .i64 0)=w8:=⟨_,rfl⟩;have hs8:SB w8 G0 57 #[.int .i64 0,.int .i64 0]:=by rw[←hw8];exact(hs7.set 0 _).set 1 _
     have hk8:∀b,b≠G0→w8.heap[b]?=w7.heap[b]?:=fun b hb=>by rw[←hw8,Below.heap_setCell _ _ _ _ hb,Below.heap_setCell _ _ _ _ hb]
     have hsz8:w8.heap.size=w7.heap.size:=by rw[←hw8];simp[World.setCell]
     have HB8:Hid (Below w.heap.size w w8):=Hi (by
      rw[←hw8];have h1:=HGL.out
      exact((HBU.out.trans (hbU7.mono HBU.out.size)).setCell (p:=⟨G0,0,none⟩) h1 _).setCell (p:=⟨G0,1,none⟩) h1 _)
     have y0:w8.cell? ⟨G0,0,none⟩=some (.int .i64 0):=hs8.cell 0;have hlt:G0<U.heap.size:=HSG.out.lt;have hb24:Peb.BLst w8 v2 l:=by
      rcases hbr.at with ⟨rfl,rfl⟩|⟨g5,c5,rfl,hg5,_,_,_,hc5⟩
      · exact⟨none,0,rfl,fun i q hi=>by simp at hi⟩
      ·
       refine⟨_,c5,rfl,fun i q hi=>⟨g5,0,rfl,?_,?_⟩⟩
       · rw[hsz8]
         exact World.block_lt_of_cell? _ _ (hc5 i q hi)
       · rw[Nat.zero_add,World.cell?_of_block (w:=w7) (hk8 g5 (by have:=HBI.out.size;omega))]
         exact hc5 i q hi
     have HM1:=Hi (Peb.ref_Many v2 l w8 hb24 (by rw[hll];omega));rw[hcnt] at HM1;have HW8:=Hi hw8;rw[←hw8] at y0;clear hck hb7 hbr hrun hbU7 hs7 hw8 hs8 hk8 hsz8 hlt hb24 hcnt hll;go_wp2_with fail;rw[HW8.out];go_fit HM1.out;rintro e w9 ⟨rfl,rfl⟩;go_wp2;go_ret;exact⟨by simp,HB8.out⟩
  ·
   have e1:(m != 0)=true:=by simpa using hm
   go_wp2;rw[HU.out];go_ret;exact⟨rfl,HBU.out⟩
 ·
  have e0:(c != 0)=true:=by simpa using hc
  go_wp2;rw[HU.out];go_ret;exact⟨rfl,HBU.out⟩
end Go.Proofs.YtbbkamnfjejceaaGreatDoor
namespace Go.Proofs.YtbbkamnfjejceaaGreatDoor
open Go.ChangeShapes Go.WideShapes Go.ChangeAt Go.RowKit
set_option linter.unusedVariables false
set_option linter.unusedSimpArgs false
namespace pebbleFrames
set_option maxRecDepth 100000 in
set_option maxHeartbeats 1000000 in
theorem Qon(H:Type)(enc:TypeId × Value→H)(W:World)(base:Nat)(args:Array Value)(ds gs:List (DataW H))(before:List MemPlace)
 (hval:∀(j:Nat) t v,Tryz.f6.params[j]?=some t→args[j]?=some v→Value.okWide Tryz.prog W .any base t v)
 (hW:DataW.Whole enc Tryz.prog Tryz.f6.params.toList Rows.pebbleFramesSpec.vars false W args.toList ds gs before) (hk:Rows.uptoSmall H (ds++gs)=true) (hG:Glob W):
 Calls Tryz.prog 6 args W fun e W'=>∃v,e=.returned v∧Rows.pebbleFramesSpec.post enc Tryz.prog Tryz.f6 false true false false W args v W':=by
 have hW':=hW;obtain⟨p,q,hA0,hV,rfl,hfz,hnd⟩:=hW;have hA:DataW.TrodAll enc Tryz.prog W 0 (fun _=>true) true Tryz.f6.params.toList args.toList ds p:=hA0;rw[Tryz.params6] at hA hval;obtain⟨v0,d0,rfl,rfl,h0⟩:=trodAll_one hA;obtain⟨rfl,rfl⟩:=trodVars_none hV;clear hA0;obtain⟨cs,rfl,hcs⟩:=okWide_struct Tryz.underlying54 (hval 0 54 v0 rfl rfl);unfold Rows.uptoSmall at hk;have hb:=of_decide_eq_true hk;rw[List.append_nil] at hb;obtain⟨a1,a2,a3,c1,c2,c3,js,bs,hs,rfl,hf,hz,n1,n2,n3,_⟩:=Qom (Nat.le_trans (Qhv (by simp)) hb) h0;have hlt:∀x∈ p++ [],x.block<W.heap.size:=fun x hx=>hW'.lt x hx
 refine(Qj0 a1 a2 a3 c1 c2 c3 js bs hs W hG hf hz).mono ?_;rintro e W' ⟨rfl,hbel⟩;refine⟨_,rfl,[d0],[],p++ [],[],p++ [],[],hW',trodAll_cons_mk (shut_bool Tryz.underlying4 _) trodAll_mk0,?_,rfl,hbel.frame _,fun h=>by cases h⟩
 show DataW.TrodAll enc Tryz.prog W' 0 (fun b=>decide (b<W.heap.size)) true Tryz.f6.params.toList _ [d0] _
 rw[Tryz.params6];exact trodAll_cons_mk (Below.trod Qn8 Qok Qol h0 hbel (fun x hx=>hlt x (by simp[hx]))) trodAll_mk0
theorem glob{W:World}(hL:laidMetH Tryz.prog Rows.pebbleFramesUptoRow.laid W)(hsh:W.ShapedOpen Tryz.prog):Glob W:=
 ⟨Qof hsh,Qoe (Qhw (Qhw (show laidMet Tryz.prog Rows.pebbleFramesUptoRow.laid W from hL)))⟩
end pebbleFrames
def tabledP(w:World):World:=
 put 10 Rows.laid_math_bits_deBruijn32tab (put 11 Rows.laid_math_bits_deBruijn64tab (put 9 Rows.laid_internal_strconv_uint64pow10
  (put 6 Rows.laid_unicode_utf8_acceptRanges (put 5 Rows.laid_unicode_utf8_first w))))
end Go.Proofs.YtbbkamnfjejceaaGreatDoor
namespace Go.Proofs.YtbbkamnfjejceaaGreatDoor
namespace pebbleFrames
open Go.ChangeShapes Go.WideShapes Go.ChangeAt Go.RowKit
set_option linter.unusedVariables false
set_option linter.unusedSimpArgs false
theorem Qop(os:Os):laidMet Tryz.prog Rows.pebbleFramesUptoRow.laid ((tabledP (World.holding Tryz.prog os ⟨#[],#[],[]⟩)).forCall (fun _ _=>0) ⟨#[],#[.agg #[.slice none 0 0,.slice none 0 0,.slice none 0 0]],[]⟩).memory:=
 laidMet_of_run' 8 (by kernel_rfl) (by kernel_rfl)
theorem reads(os:Os){H:Type}(enc:TypeId × Value→H):∃places,DataW.whole enc Tryz.prog ((tabledP (World.holding Tryz.prog os ⟨#[],#[],[]⟩)).forCall (fun _ _=>0) ⟨#[],#[.agg #[.slice none 0 0,.slice none 0 0,.slice none 0 0]],[]⟩).memory Tryz.f6.params.toList Rows.pebbleFramesSpec.vars false #[Value.agg #[.slice none 0 0,.slice none 0 0,.slice none 0 0]].toList 8=some ([.agg [.nil,.nil,.nil]],[],places):=
 ⟨[],by kernel_rfl⟩
set_option maxRecDepth 100000 in
theorem Qoq(os:Os)(started:os.Started)(H:Type)(enc:TypeId × Value→H)(F:Stop.Interp):
 ReturnsInHanded {} Tryz.checked os 6 .any ((Rows.OpenSpec.upto Rows.pebbleFramesSpec).preRow enc Tryz.prog Tryz.f6 Rows.pebbleFramesUptoRow.domain false Rows.pebbleFramesUptoRow.laid) (((Rows.OpenSpec.upto Rows.pebbleFramesSpec).at F).post enc Tryz.prog Tryz.f6 false true false false):=by
 obtain⟨places,hx⟩:=reads os enc;refine returnsInHanded_of_row (C:=Tryz.checked) (s:=Rows.OpenSpec.upto Rows.pebbleFramesSpec) own started (by kernel_rfl) Tryz.func6
  (witness_row_at (enc:=enc) (C:=Tryz.checked) false (tabledP (World.holding Tryz.prog os ⟨#[],#[],[]⟩)) #[.agg #[.slice none 0 0,.slice none 0 0,.slice none 0 0]] rfl (by kernel_rfl) (by kernel_rfl) (by kernel_rfl)
    (OpenSpec.preRow_of_cond 8 hx (by kernel_rfl) (fun k hk=>by cases hk;kernel_rfl) (by kernel_rfl) (Qop os))) ?_
 intro W base args ds gs before hval hW _ hcond _ hL hsh _;exact Qon H enc W base args ds gs before hval hW (hcond _ rfl) (glob hL hsh)
end pebbleFrames
namespace pebbleFrames
open Go.ChangeShapes Go.WideShapes Go.ChangeAt Go.RowKit
set_option linter.unusedVariables false
set_option linter.unusedSimpArgs false
set_option maxRecDepth 100000 in
set_option maxHeartbeats 4000000 in
theorem Qoo:joinedFacts Tryz.prog 6 Tryz.f6 (Rows.OpenSpec.upto Rows.pebbleFramesSpec).bare Rows.pebbleFramesUptoRow=true:=by
 unfold joinedFacts;simp only[Bool.and_eq_true]
 repeat' with_reducible apply And.intro
 all_goals (as_aux_lemma=>kernel_rfl)
theorem named:Tryz.prog.funcNamed Rows.pebbleFramesUptoRow.func=some 6:=by kernel_rfl
theorem said:Rows.PebbleFramesUptoSaid:=
 OpenClaim.holds_of_cond 6 Tryz.f6 rfl rfl rfl rfl rfl rfl rfl ⟨rfl,rfl,rfl,rfl,rfl⟩ rfl rfl rfl rfl rfl named Tryz.func6 Qoo
  (of_decide_eq_true (by kernel_rfl)) (by unfold Func.isWrapper;first|(rw [if_pos (by decide +kernel)];kernel_rfl)|(rw [if_neg (by decide +kernel)];exact⟨rfl,rfl⟩))
  (fun os started H enc _ F=>by rw[OpenClaim.pre_eq_preRow];exact Qoq os started H enc F)
theorem plain(f:FuncId)(fn:Func)(hf:Tryz.pinned.checked.prog.funcNamed "rafter/rafterlaw.PebbleFrames" =some f)(hfn:Tryz.pinned.checked.prog.funcs[f]?=some fn):
 false=Tryz.pinned.checked.prog.looks []∧∀(j:Nat) t,fn.params[j]?=some t→Tryz.pinned.checked.prog.wantsStandIn t=false:=by
 obtain rfl:f=6:=Option.some.inj ((show Tryz.prog.funcNamed "rafter/rafterlaw.PebbleFrames" =some 6 by kernel_rfl).symm.trans hf) |>.symm;obtain rfl:fn=Tryz.f6:=(Option.some.inj (Tryz.func6.symm.trans hfn)).symm;refine⟨by kernel_rfl,fun j t ht=>?_⟩;rw[Tryz.params6] at ht;have:=Array.mem_of_getElem? ht;simp only[List.mem_toArray,List.mem_cons,List.not_mem_nil,or_false] at this;subst this;exact(show Tryz.prog.wantsStandIn 54=false by kernel_rfl)
end pebbleFrames
theorem pebbleFrames_upto:Rows.PebbleFramesUptoCardSaid:=
 Claim7.holds_tied_plain_at .later [] _ _ _ _ pebbleFrames.said (fun _ h=>by cases h) (by kernel_rfl) (fun _ h=>by cases h) pebbleFramesUpto_row_tie rfl ⟨rfl,rfl⟩ (by kernel_rfl) rfl pebbleFrames.plain (by kernel_rfl)
end Go.Proofs.YtbbkamnfjejceaaGreatDoor
