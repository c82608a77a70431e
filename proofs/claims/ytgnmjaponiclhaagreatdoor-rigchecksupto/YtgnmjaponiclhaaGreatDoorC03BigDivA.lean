import Derived.Test.YtgnmjaponiclhaaGreatDoorC02Knuth
import Derived.Laws.CopyOwn
import Derived.Deep.RegionWith
namespace Go.Proofs.YtgnmjaponiclhaaGreatDoor
open Go.RowKit
set_option linter.unusedVariables false
def DivOk(w:World)(x y:Nat)(e:Ending)(w':World):Prop:=
 (∃a cap r a' cap' r',e=.returned (.tuple #[.slice a r.length cap,.slice a' r'.length cap'])∧U32 w' a cap r (x / y)∧U32 w' a' cap' r' (x % y))∧Below w.heap.size w w'
set_option maxRecDepth 100000 in
set_option maxHeartbeats 2000000 in
theorem Qj4(a1 a2:Option Addr)(c1 c2:Nat)(l m:List Nat)(x y:Nat)(w:World)(h1:U32 w a1 c1 l x)(h2:U32 w a2 c2 m y)(hxy:x<y):
 Calls Tryz.prog 236 #[.slice a1 l.length c1,.slice a2 m.length c2] w (DivOk w x y):=by
 have s2:=h2.short
 have q1:((m.length:Int) == 0)=false:=by
  rw[beq_eq_false_iff_ne]
  have:=(h2.num.len_zero (by omega)).2
  omega
 have hc:=(Qaw x y).2 hxy
 go_enter Tryz.func236,Tryz.ntmps236
 go_wp2_with fail
 refine(Qbm a1 a2 c1 c2 l m x y w h1 h2).mono ?_
 rintro e w1 ⟨rfl,hb⟩
 go_wp2_with fail
 refine(Qd0 a1 c1 l x w1 (h1.below hb)).mono ?_
 rintro e w2 ⟨⟨a,cap,rfl,hu⟩,hb2⟩
 go_wp2
 go_ret2
 refine⟨⟨none,0,[],a,cap,l,rfl,?_,?_⟩,hb.trans (hb2.mono hb.size)⟩
 · rw[Nat.div_eq_of_lt hxy];exact⟨Row.nil _ _,Num.zero _,by simp⟩
 · rw[Nat.mod_eq_of_lt hxy];exact hu
set_option maxRecDepth 100000 in
set_option maxHeartbeats 2000000 in
theorem Qj5(a1 a2:Option Addr)(c1 c2:Nat)(l m:List Nat)(x y:Nat)(w:World)(h1:U32 w a1 c1 l x)(h2:U32 w a2 c2 m y)(hy:0<y)(hxy:y≤x)(hl:l.length≤2):
 Calls Tryz.prog 236 #[.slice a1 l.length c1,.slice a2 m.length c2] w (DivOk w x y):=by
 have s2:=h2.short
 have q1:((m.length:Int) == 0)=false:=by
  rw[beq_eq_false_iff_ne]
  have:=(h2.num.len_zero (by omega)).2
  omega
 have hml:m.length≤l.length:=by
  apply Classical.byContradiction
  intro hc
  have:=Qat (B:=4294967296) (by omega) h1.num.small h2.num.trim (by omega)
  rw[h1.num.eq,h2.num.eq] at this
  omega
 have hc:¬cmp3 x y<0:=by rw[Qaw];omega
 have hxb:x<18446744073709551616:=by
  have e1:=Qab (B:=4294967296) (by omega) h1.num.small
  have e2:=Qbt (B:=4294967296) (by omega) hl
  rw[h1.num.eq] at e1
  omega
 go_enter Tryz.func236,Tryz.ntmps236
 go_wp2_with fail
 refine(Qbm a1 a2 c1 c2 l m x y w h1 h2).mono ?_
 rintro e w1 ⟨rfl,hb⟩
 go_wp2_with fail
 refine(Qbo a1 c1 l x w1 (h1.below hb) hl).mono ?_
 rintro e w2 ⟨rfl,rfl⟩
 go_wp2_with fail
 refine(Qbo a2 c2 m y _ (h2.below hb) (by omega)).mono ?_
 rintro e w3 ⟨rfl,rfl⟩
 have qy:((y:Int) == 0)=false:=by rw[beq_eq_false_iff_ne];omega
 obtain⟨q,hq⟩:∃q,x / y=q:=⟨_,rfl⟩
 obtain⟨r,hr⟩:∃r,x % y=r:=⟨_,rfl⟩
 have t1:(x:Int) / (y:Int)=(q:Int):=by rw[←hq];simp
 have t2:(x:Int) % (y:Int)=(r:Int):=by rw[←hr];simp
 have t3:(x:Int).tmod (y:Int)=(r:Int):=by rw[Int.tmod_eq_emod_of_nonneg (by omega)];exact t2
 have t4:(x:Int).tdiv (y:Int)=(q:Int):=by rw[Int.tdiv_eq_ediv_of_nonneg (by omega)];exact t1
 have hqb:q<18446744073709551616:=by rw[←hq];exact Nat.lt_of_le_of_lt (Nat.div_le_self _ _) hxb
 have hrb:r<18446744073709551616:=by rw[←hr];exact Nat.lt_of_le_of_lt (Nat.mod_le _ _) hxb
 have t5:=Qbp q hqb
 have HQ:Hid (x / y=q):=hq
 have HR:Hid (x % y=r):=hr
 clear hq hr hc
 go_wp2
 go_region_with (first|(go_at_call_of 173 (Value.int IntKind.u64 (q:Int));refine(Qbf _ _ ?_ ?_).mono ?_;omega;omega;rintro e w4 ⟨⟨aa1,caa1,rr1,rfl,hu1,hl21⟩,hb21⟩)|(go_at_call_of 173 (Value.int IntKind.u64 (r:Int));refine(Qbf _ _ ?_ ?_).mono ?_;omega;omega;rintro e w5 ⟨⟨aa2,caa2,rr2,rfl,hu2,hl22⟩,hb22⟩))
 all_goals
  go_wp2
  go_ret2
  rw[Int.toNat_natCast] at hu1 hu2
  refine⟨⟨aa1,caa1,rr1,aa2,caa2,rr2,rfl,?_,?_⟩,hb.drew.trans ((hb21.mono hb.size).trans (hb22.mono (Nat.le_trans hb.size hb21.size)))⟩
  · rw[HQ.out];exact hu1.below hb22
  · rw[HR.out];exact hu2
set_option maxRecDepth 100000 in
set_option maxHeartbeats 2000000 in
theorem Qj6(a1 a2:Option Addr)(c1 c2:Nat)(l m:List Nat)(x y:Nat)(w:World)(h1:U32 w a1 c1 l x)(h2:U32 w a2 c2 m y)(hy:0<y)(hxy:y≤x)(hl:2<l.length)(hm:m.length=1):
 Calls Tryz.prog 236 #[.slice a1 l.length c1,.slice a2 m.length c2] w (DivOk w x y):=by
 have s1:=h1.short
 have hc:¬cmp3 x y<0:=by rw[Qaw];omega
 obtain⟨d,rfl⟩:∃d,m= [d]:=by
  match m,hm with
  | [d],_=>exact⟨d,rfl⟩
 have hdy:d=y:=by have:=h2.num.eq;simp[val] at this;exact this
 subst hdy
 have hdb:d<4294967296:=h2.num.small d (by simp)
 obtain⟨b,off,rfl,hb1,hc1⟩:=h2.row.cell 0 (by simp)
 have hc1:w.cell? ⟨b,off,none⟩=some (.int .u32 (d:Int)):=by simpa using hc1
 show Calls Tryz.prog 236 #[.slice a1 l.length c1,.slice (some ⟨b,off,none⟩) 1 c2] w (DivOk w x d)
 go_enter Tryz.func236,Tryz.ntmps236
 go_wp2_with fail
 refine(Qbm a1 (some ⟨b,off,none⟩) c1 c2 l [d] x d w h1 h2).mono ?_
 rintro e w1 ⟨rfl,hb⟩
 have hc1':=(hb.cell (p:=⟨b,off,none⟩) hb1).trans hc1
 go_wp2_with fail
 refine(Qkm a1 c1 d l x w1 (h1.below hb) hy hdb).mono ?_
 rintro e w2 ⟨⟨a,cap,r,rfl,hu⟩,hb2⟩
 have hrb:x % d<4294967296:=Nat.lt_trans (Nat.mod_lt _ hy) hdb
 obtain⟨z,hz⟩:∃z,x % d=z:=⟨_,rfl⟩
 have HZ:Hid (x % d=z):=hz
 rw[hz] at hrb
 rw[hz]
 clear hz hc
 go_wp2_with fail
 refine(Qav w2.heap.size 1 1 z [z] _ (Blk.new .u32 286 w2 [z]) rfl ?_ (Nat.le_refl _) (by omega) (by simp[val])).mono ?_
 · intro e he;simp at he;omega
 rintro e w3 ⟨⟨a',cap',r',rfl,hu'⟩,rfl⟩
 go_wp2
 go_ret2
 have hb3:Below w2.heap.size w2 (w2.alloc (.cells (wordCells .u32 [z]) 286)):=(Below.refl _ _).alloc (Nat.le_refl _) _
 refine⟨⟨a,cap,r,a',cap',r',rfl,hu.below hb3,?_⟩,hb.trans ((hb2.mono hb.size).trans (hb3.mono (Nat.le_trans hb.size hb2.size)))⟩
 rw[HZ.out];exact hu'
end Go.Proofs.YtgnmjaponiclhaaGreatDoor
