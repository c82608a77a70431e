/- raftersame's Still at spots, bars, holds and loads. -/
import Derived.Test.YtodfmpjhcmapmaaGreatDoorN28TcA
namespace Go.Proofs.YtodfmpjhcmapmaaGreatDoor
open Go.RowKit
set_option linter.unusedVariables false
set_option linter.unusedSimpArgs false
set_option maxRecDepth 100000 in
set_option maxHeartbeats 4000000 in
theorem Qrv(g:Nat)(a:Option Addr)(cap:Nat)(es:List S2)(m0:ByteArray)(m1:ByteArray)(w:World)(hl:ARow S2.cells w (some ⟨g,0,none⟩) (es.length+3) (es++ [⟨m0,m1⟩,⟨m0,m1⟩,⟨m0,m1⟩]))(hf:ARow S2.cells w a cap es)(hn:es.length≤1048576):
 Calls Tryz.prog 31 #[.slice (some ⟨g,0,none⟩) es.length (es.length+3),.slice a es.length cap,.agg #[.string m0,.string m1]] w fun e w'=>e=.returned (.bool true)∧Below w.heap.size w w':=by
 have HL:=Hi hl;have HF:=Hi hf;clear hl hf;go_enter Tryz.func31,Tryz.ntmps31;go_wp2_with fail;obtain⟨W,hW⟩:∃W,w.alloc (.cells #[.string m0,.string m1] 36)=W:=⟨_,rfl⟩;have HB0:Hid (Below w.heap.size w W):=Hi (by rw[←hW];exact(Below.refl _ _).alloc (Nat.le_refl _) _);have HSB:Hid (SB W w.heap.size 36 #[.string m0,.string m1]):=Hi (by rw[←hW];exact SB.new w _ _);have hlt:w.heap.size<W.heap.size:=HSB.out.lt;rw[hW];clear hW;go_loopw [17] (fun iv wr=>∃k:Nat,k≤es.length+3∧iv=.int .i64 k∧Below W.heap.size W wr) (fun iv _=>es.length+3 - (intOf iv).toNat)
 case atStart=>exact⟨0,by omega,rfl,Below.refl _ _⟩
 case round=>
  obtain⟨k,hk,rfl,hb⟩:=hrel;have HB:=Hi hb;have hsz:=hb.size;clear hb;by_cases hlt3:k<es.length+3
  ·
   obtain⟨f,hfk⟩:∃f,(es++ [⟨m0,m1⟩,⟨m0,m1⟩,⟨m0,m1⟩])[k]?=some f:=⟨_,List.getElem?_eq_getElem (by simpa using hlt3)⟩;obtain⟨fb,off,hfa,hfb,c0,c1⟩:=(HL.out.below (HB0.out.trans (HB.out.mono HB0.out.size))).spot hfk;simp only[Option.some.injEq,Addr.mk.injEq,and_true] at hfa;obtain⟨rfl,rfl⟩:=hfa;rw[Nat.zero_add] at c0 c1;by_cases hkn:k<es.length
   ·
    have hfk':es[k]?=some f:=by rw[List.getElem?_append_left hkn] at hfk;exact hfk
    obtain⟨ab,aoff,rfl,hab,d0,d1⟩:=(HF.out.below (HB0.out.trans (HB.out.mono HB0.out.size))).spot hfk';have q1:((k:Int)<(es.length:Int)):=by omega
    have q2:decide (es.length≤k)=false:=by simpa using hkn
    clear hfk hfk';go_wp2_with fail;obtain⟨V,hV⟩:∃V,wr.alloc (.cells #[.string f.x,.string f.y] 36)=V:=⟨_,rfl⟩;obtain⟨vb,hvb⟩:∃vb,wr.heap.size=vb:=⟨_,rfl⟩;have hsV:SB V vb 36 #[.string f.x,.string f.y]:=by rw[←hV,←hvb];exact SB.new wr _ _
    have hbV:Below wr.heap.size wr V:=by rw[←hV];exact(Below.refl _ _).alloc (Nat.le_refl _) _
    have HBV:Hid (Below W.heap.size W V):=Hi (HB.out.trans (hbV.mono HB.out.size));have hsm:=HSB.out.below HBV.out HSB.out.lt;have e0:V.cell? ⟨vb,0,none⟩=some (.string f.x):=hsV.cell 0;have e1:V.cell? ⟨vb,1,none⟩=some (.string f.y):=hsV.cell 1;have b0:V.cell? ⟨w.heap.size,0,none⟩=some (.string m0):=hsm.cell 0;have b1:V.cell? ⟨w.heap.size,1,none⟩=some (.string m1):=hsm.cell 1;rw[hV,hvb];clear hV hsV hsm hvb;have a0:V.cell? ⟨ab,aoff+k*2,none⟩=some (.string f.x):=(hbV.cell (p:=⟨ab,aoff+k*2,none⟩) hab).trans d0;have a1:V.cell? ⟨ab,aoff+k*2+1,none⟩=some (.string f.y):=(hbV.cell (p:=⟨ab,aoff+k*2+1,none⟩) hab).trans d1;clear c0 c1 d0 d1 hbV;go_quiet (fail);go_wp2;go_roundw
    case rel=>exact⟨k+1,by omega,by go_num,⟨HBV.out.os,HBV.out.tape,HBV.out.output,HBV.out.size,HBV.out.block⟩⟩
    case measure=>simp[intOf];omega
   ·
    have hm:f=⟨m0,m1⟩:=by
     rw[List.getElem?_append_right (by omega)] at hfk;have h3:k - es.length=0∨k - es.length=1∨k - es.length=2:=by omega
     rcases h3 with h|h|h<;>rw[h] at hfk<;>exact(Option.some.inj hfk).symm
    subst hm;have q1:¬((k:Int)<(es.length:Int)):=by omega
    have q2:decide ((k:Int)<(es.length:Int))=false:=by simpa using q1
    clear hfk;go_wp2_with fail;obtain⟨V,hV⟩:∃V,wr.alloc (.cells #[.string m0,.string m1] 36)=V:=⟨_,rfl⟩;obtain⟨vb,hvb⟩:∃vb,wr.heap.size=vb:=⟨_,rfl⟩;have hsV:SB V vb 36 #[.string m0,.string m1]:=by rw[←hV,←hvb];exact SB.new wr _ _
    have hbV:Below wr.heap.size wr V:=by rw[←hV];exact(Below.refl _ _).alloc (Nat.le_refl _) _
    have HBV:Hid (Below W.heap.size W V):=Hi (HB.out.trans (hbV.mono HB.out.size));have hsm:=HSB.out.below HBV.out HSB.out.lt;have e0:V.cell? ⟨vb,0,none⟩=some (.string m0):=hsV.cell 0;have e1:V.cell? ⟨vb,1,none⟩=some (.string m1):=hsV.cell 1;have b0:V.cell? ⟨w.heap.size,0,none⟩=some (.string m0):=hsm.cell 0;have b1:V.cell? ⟨w.heap.size,1,none⟩=some (.string m1):=hsm.cell 1;rw[hV,hvb];clear hV hsV hsm hvb;clear c0 c1 hbV;go_quiet (fail);go_wp2;go_roundw
    case rel=>exact⟨k+1,by omega,by go_num,⟨HBV.out.os,HBV.out.tape,HBV.out.output,HBV.out.size,HBV.out.block⟩⟩
    case measure=>simp[intOf];omega
  ·
   have hk':k=es.length+3:=by omega
   subst hk';go_wp2;go_ret;exact⟨rfl,HB0.out.trans (HB.out.mono HB0.out.size)⟩
set_option maxRecDepth 100000 in
set_option maxHeartbeats 4000000 in
theorem Qrw(g:Nat)(a:Option Addr)(cap:Nat)(es:List B6)(m0:Int)(m1:Int)(m2:ByteArray)(m3:ByteArray)(m4:ByteArray)(m5:ByteArray)(w:World)(hl:ARow B6.cells w (some ⟨g,0,none⟩) (es.length+3) (es++ [⟨m0,m1,m2,m3,m4,m5⟩,⟨m0,m1,m2,m3,m4,m5⟩,⟨m0,m1,m2,m3,m4,m5⟩]))(hf:ARow B6.cells w a cap es)(hn:es.length≤1048576):
 Calls Tryz.prog 32 #[.slice (some ⟨g,0,none⟩) es.length (es.length+3),.slice a es.length cap,.agg #[.int .i64 m0,.int .i64 m1,.string m2,.string m3,.string m4,.string m5]] w fun e w'=>e=.returned (.bool true)∧Below w.heap.size w w':=by
 have HL:=Hi hl;have HF:=Hi hf;clear hl hf;go_enter Tryz.func32,Tryz.ntmps32;go_wp2_with fail;obtain⟨W,hW⟩:∃W,w.alloc (.cells #[.int .i64 m0,.int .i64 m1,.string m2,.string m3,.string m4,.string m5] 39)=W:=⟨_,rfl⟩;have HB0:Hid (Below w.heap.size w W):=Hi (by rw[←hW];exact(Below.refl _ _).alloc (Nat.le_refl _) _);have HSB:Hid (SB W w.heap.size 39 #[.int .i64 m0,.int .i64 m1,.string m2,.string m3,.string m4,.string m5]):=Hi (by rw[←hW];exact SB.new w _ _);have hlt:w.heap.size<W.heap.size:=HSB.out.lt;rw[hW];clear hW;go_loopw [17] (fun iv wr=>∃k:Nat,k≤es.length+3∧iv=.int .i64 k∧Below W.heap.size W wr) (fun iv _=>es.length+3 - (intOf iv).toNat)
 case atStart=>exact⟨0,by omega,rfl,Below.refl _ _⟩
 case round=>
  obtain⟨k,hk,rfl,hb⟩:=hrel;have HB:=Hi hb;have hsz:=hb.size;clear hb;by_cases hlt3:k<es.length+3
  ·
   obtain⟨f,hfk⟩:∃f,(es++ [⟨m0,m1,m2,m3,m4,m5⟩,⟨m0,m1,m2,m3,m4,m5⟩,⟨m0,m1,m2,m3,m4,m5⟩])[k]?=some f:=⟨_,List.getElem?_eq_getElem (by simpa using hlt3)⟩;obtain⟨fb,off,hfa,hfb,c0,c1,c2,c3,c4,c5⟩:=(HL.out.below (HB0.out.trans (HB.out.mono HB0.out.size))).bar hfk;simp only[Option.some.injEq,Addr.mk.injEq,and_true] at hfa;obtain⟨rfl,rfl⟩:=hfa;rw[Nat.zero_add] at c0 c1 c2 c3 c4 c5;by_cases hkn:k<es.length
   ·
    have hfk':es[k]?=some f:=by rw[List.getElem?_append_left hkn] at hfk;exact hfk
    obtain⟨ab,aoff,rfl,hab,d0,d1,d2,d3,d4,d5⟩:=(HF.out.below (HB0.out.trans (HB.out.mono HB0.out.size))).bar hfk';have q1:((k:Int)<(es.length:Int)):=by omega
    have q2:decide (es.length≤k)=false:=by simpa using hkn
    clear hfk hfk';go_wp2_with fail;obtain⟨V,hV⟩:∃V,wr.alloc (.cells #[.int .i64 f.a,.int .i64 f.b,.string f.c,.string f.e,.string f.l,.string f.m] 39)=V:=⟨_,rfl⟩;obtain⟨vb,hvb⟩:∃vb,wr.heap.size=vb:=⟨_,rfl⟩;have hsV:SB V vb 39 #[.int .i64 f.a,.int .i64 f.b,.string f.c,.string f.e,.string f.l,.string f.m]:=by rw[←hV,←hvb];exact SB.new wr _ _
    have hbV:Below wr.heap.size wr V:=by rw[←hV];exact(Below.refl _ _).alloc (Nat.le_refl _) _
    have HBV:Hid (Below W.heap.size W V):=Hi (HB.out.trans (hbV.mono HB.out.size));have hsm:=HSB.out.below HBV.out HSB.out.lt;have e0:V.cell? ⟨vb,0,none⟩=some (.int .i64 f.a):=hsV.cell 0;have e1:V.cell? ⟨vb,1,none⟩=some (.int .i64 f.b):=hsV.cell 1;have e2:V.cell? ⟨vb,2,none⟩=some (.string f.c):=hsV.cell 2;have e3:V.cell? ⟨vb,3,none⟩=some (.string f.e):=hsV.cell 3;have e4:V.cell? ⟨vb,4,none⟩=some (.string f.l):=hsV.cell 4;have e5:V.cell? ⟨vb,5,none⟩=some (.string f.m):=hsV.cell 5;have b0:V.cell? ⟨w.heap.size,0,none⟩=some (.int .i64 m0):=hsm.cell 0;have b1:V.cell? ⟨w.heap.size,1,none⟩=some (.int .i64 m1):=hsm.cell 1;have b2:V.cell? ⟨w.heap.size,2,none⟩=some (.string m2):=hsm.cell 2;have b3:V.cell? ⟨w.heap.size,3,none⟩=some (.string m3):=hsm.cell 3;have b4:V.cell? ⟨w.heap.size,4,none⟩=some (.string m4):=hsm.cell 4;have b5:V.cell? ⟨w.heap.size,5,none⟩=some (.string m5):=hsm.cell 5;rw[hV,hvb]
    clear hV hsV hsm hvb;have a0:V.cell? ⟨ab,aoff+k*6,none⟩=some (.int .i64 f.a):=(hbV.cell (p:=⟨ab,aoff+k*6,none⟩) hab).trans d0;have a1:V.cell? ⟨ab,aoff+k*6+1,none⟩=some (.int .i64 f.b):=(hbV.cell (p:=⟨ab,aoff+k*6+1,none⟩) hab).trans d1;have a2:V.cell? ⟨ab,aoff+k*6+2,none⟩=some (.string f.c):=(hbV.cell (p:=⟨ab,aoff+k*6+2,none⟩) hab).trans d2;have a3:V.cell? ⟨ab,aoff+k*6+3,none⟩=some (.string f.e):=(hbV.cell (p:=⟨ab,aoff+k*6+3,none⟩) hab).trans d3;have a4:V.cell? ⟨ab,aoff+k*6+4,none⟩=some (.string f.l):=(hbV.cell (p:=⟨ab,aoff+k*6+4,none⟩) hab).trans d4;have a5:V.cell? ⟨ab,aoff+k*6+5,none⟩=some (.string f.m):=(hbV.cell (p:=⟨ab,aoff+k*6+5,none⟩) hab).trans d5;clear c0 c1 c2 c3 c4 c5 d0 d1 d2 d3 d4 d5 hbV;go_quiet (fail);go_wp2;go_roundw
    case rel=>exact⟨k+1,by omega,by go_num,⟨HBV.out.os,HBV.out.tape,HBV.out.output,HBV.out.size,HBV.out.block⟩⟩
    case measure=>simp[intOf];omega
   ·
    have hm:f=⟨m0,m1,m2,m3,m4,m5⟩:=by
     rw[List.getElem?_append_right (by omega)] at hfk;have h3:k - es.length=0∨k - es.length=1∨k - es.length=2:=by omega
     rcases h3 with h|h|h<;>rw[h] at hfk<;>exact(Option.some.inj hfk).symm
    subst hm;have q1:¬((k:Int)<(es.length:Int)):=by omega
    have q2:decide ((k:Int)<(es.length:Int))=false:=by simpa using q1
    clear hfk;go_wp2_with fail;obtain⟨V,hV⟩:∃V,wr.alloc (.cells #[.int .i64 m0,.int .i64 m1,.string m2,.string m3,.string m4,.string m5] 39)=V:=⟨_,rfl⟩;obtain⟨vb,hvb⟩:∃vb,wr.heap.size=vb:=⟨_,rfl⟩;have hsV:SB V vb 39 #[.int .i64 m0,.int .i64 m1,.string m2,.string m3,.string m4,.string m5]:=by rw[←hV,←hvb];exact SB.new wr _ _
    have hbV:Below wr.heap.size wr V:=by rw[←hV];exact(Below.refl _ _).alloc (Nat.le_refl _) _
    have HBV:Hid (Below W.heap.size W V):=Hi (HB.out.trans (hbV.mono HB.out.size));have hsm:=HSB.out.below HBV.out HSB.out.lt;have e0:V.cell? ⟨vb,0,none⟩=some (.int .i64 m0):=hsV.cell 0;have e1:V.cell? ⟨vb,1,none⟩=some (.int .i64 m1):=hsV.cell 1;have e2:V.cell? ⟨vb,2,none⟩=some (.string m2):=hsV.cell 2;have e3:V.cell? ⟨vb,3,none⟩=some (.string m3):=hsV.cell 3;have e4:V.cell? ⟨vb,4,none⟩=some (.string m4):=hsV.cell 4;have e5:V.cell? ⟨vb,5,none⟩=some (.string m5):=hsV.cell 5;have b0:V.cell? ⟨w.heap.size,0,none⟩=some (.int .i64 m0):=hsm.cell 0;have b1:V.cell? ⟨w.heap.size,1,none⟩=some (.int .i64 m1):=hsm.cell 1;have b2:V.cell? ⟨w.heap.size,2,none⟩=some (.string m2):=hsm.cell 2;have b3:V.cell? ⟨w.heap.size,3,none⟩=some (.string m3):=hsm.cell 3;have b4:V.cell? ⟨w.heap.size,4,none⟩=some (.string m4):=hsm.cell 4;have b5:V.cell? ⟨w.heap.size,5,none⟩=some (.string m5):=hsm.cell 5;rw[hV,hvb]
    clear hV hsV hsm hvb;clear c0 c1 c2 c3 c4 c5 hbV;go_quiet (fail);go_wp2;go_roundw
    case rel=>exact⟨k+1,by omega,by go_num,⟨HBV.out.os,HBV.out.tape,HBV.out.output,HBV.out.size,HBV.out.block⟩⟩
    case measure=>simp[intOf];omega
  ·
   have hk':k=es.length+3:=by omega
   subst hk';go_wp2;go_ret;exact⟨rfl,HB0.out.trans (HB.out.mono HB0.out.size)⟩
set_option maxRecDepth 100000 in
set_option maxHeartbeats 4000000 in
theorem Qrx(g:Nat)(a:Option Addr)(cap:Nat)(es:List H3)(m0:Int)(m1:Int)(m2:ByteArray)(w:World)(hl:ARow H3.cells w (some ⟨g,0,none⟩) (es.length+3) (es++ [⟨m0,m1,m2⟩,⟨m0,m1,m2⟩,⟨m0,m1,m2⟩]))(hf:ARow H3.cells w a cap es)(hn:es.length≤1048576):
 Calls Tryz.prog 33 #[.slice (some ⟨g,0,none⟩) es.length (es.length+3),.slice a es.length cap,.agg #[.int .i64 m0,.int .i64 m1,.string m2]] w fun e w'=>e=.returned (.bool true)∧Below w.heap.size w w':=by
 have HL:=Hi hl;have HF:=Hi hf;clear hl hf;go_enter Tryz.func33,Tryz.ntmps33;go_wp2_with fail;obtain⟨W,hW⟩:∃W,w.alloc (.cells #[.int .i64 m0,.int .i64 m1,.string m2] 68)=W:=⟨_,rfl⟩;have HB0:Hid (Below w.heap.size w W):=Hi (by rw[←hW];exact(Below.refl _ _).alloc (Nat.le_refl _) _);have HSB:Hid (SB W w.heap.size 68 #[.int .i64 m0,.int .i64 m1,.string m2]):=Hi (by rw[←hW];exact SB.new w _ _);have hlt:w.heap.size<W.heap.size:=HSB.out.lt;rw[hW];clear hW;go_loopw [17] (fun iv wr=>∃k:Nat,k≤es.length+3∧iv=.int .i64 k∧Below W.heap.size W wr) (fun iv _=>es.length+3 - (intOf iv).toNat)
 case atStart=>exact⟨0,by omega,rfl,Below.refl _ _⟩
 case round=>
  obtain⟨k,hk,rfl,hb⟩:=hrel;have HB:=Hi hb;have hsz:=hb.size;clear hb;by_cases hlt3:k<es.length+3
  ·
   obtain⟨f,hfk⟩:∃f,(es++ [⟨m0,m1,m2⟩,⟨m0,m1,m2⟩,⟨m0,m1,m2⟩])[k]?=some f:=⟨_,List.getElem?_eq_getElem (by simpa using hlt3)⟩;obtain⟨fb,off,hfa,hfb,c0,c1,c2⟩:=(HL.out.below (HB0.out.trans (HB.out.mono HB0.out.size))).hold hfk;simp only[Option.some.injEq,Addr.mk.injEq,and_true] at hfa;obtain⟨rfl,rfl⟩:=hfa;rw[Nat.zero_add] at c0 c1 c2;by_cases hkn:k<es.length
   ·
    have hfk':es[k]?=some f:=by rw[List.getElem?_append_left hkn] at hfk;exact hfk
    obtain⟨ab,aoff,rfl,hab,d0,d1,d2⟩:=(HF.out.below (HB0.out.trans (HB.out.mono HB0.out.size))).hold hfk';have q1:((k:Int)<(es.length:Int)):=by omega
    have q2:decide (es.length≤k)=false:=by simpa using hkn
    clear hfk hfk';go_wp2_with fail;obtain⟨V,hV⟩:∃V,wr.alloc (.cells #[.int .i64 f.j,.int .i64 f.w,.string f.q] 68)=V:=⟨_,rfl⟩;obtain⟨vb,hvb⟩:∃vb,wr.heap.size=vb:=⟨_,rfl⟩;have hsV:SB V vb 68 #[.int .i64 f.j,.int .i64 f.w,.string f.q]:=by rw[←hV,←hvb];exact SB.new wr _ _
    have hbV:Below wr.heap.size wr V:=by rw[←hV];exact(Below.refl _ _).alloc (Nat.le_refl _) _
    have HBV:Hid (Below W.heap.size W V):=Hi (HB.out.trans (hbV.mono HB.out.size));have hsm:=HSB.out.below HBV.out HSB.out.lt;have e0:V.cell? ⟨vb,0,none⟩=some (.int .i64 f.j):=hsV.cell 0;have e1:V.cell? ⟨vb,1,none⟩=some (.int .i64 f.w):=hsV.cell 1;have e2:V.cell? ⟨vb,2,none⟩=some (.string f.q):=hsV.cell 2;have b0:V.cell? ⟨w.heap.size,0,none⟩=some (.int .i64 m0):=hsm.cell 0;have b1:V.cell? ⟨w.heap.size,1,none⟩=some (.int .i64 m1):=hsm.cell 1;have b2:V.cell? ⟨w.heap.size,2,none⟩=some (.string m2):=hsm.cell 2;rw[hV,hvb];clear hV hsV hsm hvb;have a0:V.cell? ⟨ab,aoff+k*3,none⟩=some (.int .i64 f.j):=(hbV.cell (p:=⟨ab,aoff+k*3,none⟩) hab).trans d0;have a1:V.cell? ⟨ab,aoff+k*3+1,none⟩=some (.int .i64 f.w):=(hbV.cell (p:=⟨ab,aoff+k*3+1,none⟩) hab).trans d1;have a2:V.cell? ⟨ab,aoff+k*3+2,none⟩=some (.string f.q):=(hbV.cell (p:=⟨ab,aoff+k*3+2,none⟩) hab).trans d2;clear c0 c1 c2 d0 d1 d2 hbV
    go_quiet (fail);go_wp2;go_roundw
    case rel=>exact⟨k+1,by omega,by go_num,⟨HBV.out.os,HBV.out.tape,HBV.out.output,HBV.out.size,HBV.out.block⟩⟩
    case measure=>simp[intOf];omega
   ·
    have hm:f=⟨m0,m1,m2⟩:=by
     rw[List.getElem?_append_right (by omega)] at hfk;have h3:k - es.length=0∨k - es.length=1∨k - es.length=2:=by omega
     rcases h3 with h|h|h<;>rw[h] at hfk<;>exact(Option.some.inj hfk).symm
    subst hm;have q1:¬((k:Int)<(es.length:Int)):=by omega
    have q2:decide ((k:Int)<(es.length:Int))=false:=by simpa using q1
    clear hfk;go_wp2_with fail;obtain⟨V,hV⟩:∃V,wr.alloc (.cells #[.int .i64 m0,.int .i64 m1,.string m2] 68)=V:=⟨_,rfl⟩;obtain⟨vb,hvb⟩:∃vb,wr.heap.size=vb:=⟨_,rfl⟩;have hsV:SB V vb 68 #[.int .i64 m0,.int .i64 m1,.string m2]:=by rw[←hV,←hvb];exact SB.new wr _ _
    have hbV:Below wr.heap.size wr V:=by rw[←hV];exact(Below.refl _ _).alloc (Nat.le_refl _) _
    have HBV:Hid (Below W.heap.size W V):=Hi (HB.out.trans (hbV.mono HB.out.size));have hsm:=HSB.out.below HBV.out HSB.out.lt;have e0:V.cell? ⟨vb,0,none⟩=some (.int .i64 m0):=hsV.cell 0;have e1:V.cell? ⟨vb,1,none⟩=some (.int .i64 m1):=hsV.cell 1;have e2:V.cell? ⟨vb,2,none⟩=some (.string m2):=hsV.cell 2;have b0:V.cell? ⟨w.heap.size,0,none⟩=some (.int .i64 m0):=hsm.cell 0;have b1:V.cell? ⟨w.heap.size,1,none⟩=some (.int .i64 m1):=hsm.cell 1;have b2:V.cell? ⟨w.heap.size,2,none⟩=some (.string m2):=hsm.cell 2;rw[hV,hvb];clear hV hsV hsm hvb;clear c0 c1 c2 hbV;go_quiet (fail);go_wp2;go_roundw
    case rel=>exact⟨k+1,by omega,by go_num,⟨HBV.out.os,HBV.out.tape,HBV.out.output,HBV.out.size,HBV.out.block⟩⟩
    case measure=>simp[intOf];omega
  ·
   have hk':k=es.length+3:=by omega
   subst hk';go_wp2;go_ret;exact⟨rfl,HB0.out.trans (HB.out.mono HB0.out.size)⟩
end Go.Proofs.YtodfmpjhcmapmaaGreatDoor
