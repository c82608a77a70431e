/- package pebble: a new board. -/
import Derived.Test.YtjhdfkcdigmfhaaGreatDoorC43PebW
import Derived.BigRegion
import Derived.Laws.OwnMore
namespace Go.Proofs.YtjhdfkcdigmfhaaGreatDoor.Peb
open Go.RowKit Go.MapKept
set_option linter.unusedVariables false
set_option linter.unusedSimpArgs false
theorem Qnm:(Tryz.prog.info? 181).map (fun i=>(i.zero,i.size,i.bytes))=some (some (.slice none 0 0),1,24):=by kernel_rfl
theorem Qnn(z:Value)(hz:z.cells=#[z])(n:Nat):madeCells z.cells (n*1)=lsArr n (fun _=>z):=by
 rw[hz,Nat.mul_one]
 apply Array.ext
 · rw[size_madeCells,Qng]
 · intro i h1 h2
   simp[madeCells,lsArr,Nat.mod_one]
theorem Qhi(t e:TypeId)(z:Value)(by_:Nat)(hz:z.cells=#[z])(ht:Tryz.prog.underlying t=some (.slice e))(hinf:(Tryz.prog.info? e).map (fun i=>(i.zero,i.size,i.bytes))=some (some z,1,by_))(hb:by_≤100)(n:Nat)(hn:n≤10)(w:World):
 (Instr.makeSlice t (.int .i64 (n:Int)) (.int .i64 (n:Int))).run Tryz.prog w=.ok (.slice (some ⟨w.heap.size,0,none⟩) n n) (w.alloc (.cells (lsArr n (fun _=>z)) e)):=by
 obtain⟨i0,hi,hz0,hz1,hz2⟩:=info_parts hinf
 have hm:i0.bytes*n≤100*10:=Nat.mul_le_mul (by omega) hn
 have:=run_makeSlice (P:=Tryz.prog) w t e i0 z ht hi hz0 .i64 .i64 (n:Int) (n:Int) (by omega) (by omega) (by rw[hz1];simp;omega) (by omega) (by omega)
 rw[this,hz1]
 simp only[Int.toNat_natCast]
 rw[Qnn z hz]
theorem heap4(w:World)(a b c d:Obj):((((w.alloc a).alloc b).alloc c).alloc d).heap[w.heap.size]?=some a∧((((w.alloc a).alloc b).alloc c).alloc d).heap[w.heap.size+1]?=some b∧((((w.alloc a).alloc b).alloc c).alloc d).heap[w.heap.size+1+1]?=some c∧((((w.alloc a).alloc b).alloc c).alloc d).heap[w.heap.size+1+1+1]?=some d:=by
 have e:((((w.alloc a).alloc b).alloc c).alloc d).heap=(((w.heap.push a).push b).push c).push d:=rfl
 rw[e]
 refine⟨?_,?_,?_,?_⟩
 · rw[Array.getElem?_push,if_neg (by simp;omega),Array.getElem?_push,if_neg (by simp;omega),Array.getElem?_push,if_neg (by simp),Array.getElem?_push,if_pos rfl]
 · rw[Array.getElem?_push,if_neg (by simp),Array.getElem?_push,if_neg (by simp),Array.getElem?_push,if_pos (by simp)]
 · rw[Array.getElem?_push,if_neg (by simp),Array.getElem?_push,if_pos (by simp)]
 · rw[Array.getElem?_push,if_pos (by simp)]
theorem Qno(w:World)(a b c d:Obj):Below w.heap.size w ((((w.alloc a).alloc b).alloc c).alloc d).drew:=
 ((((Below.refl _ _).alloc (Nat.le_refl _) _ |>.alloc (by simp) _).alloc (by simp;omega) _).alloc (by simp;omega) _).drew
theorem size4(w:World)(a b c d:Obj):((((w.alloc a).alloc b).alloc c).alloc d).drew.heap.size=w.heap.size+1+1+1+1:=by
 show ((((w.heap.push a).push b).push c).push d).size=_
 simp
theorem PB.make{V:World}{s n g gl gp gm:Nat}(hl:V.heap[gl]?=some (.cells (lsArr n (fun _=>.int .i64 0)) 3))(hp:V.heap[gp]?=some (.cells (lsArr n (fun _=>.slice none 0 0)) 181))(hm:V.heap[gm]?=some (.map #[] 0))
 (hg:V.heap[g]?=some (.cells #[.slice (some ⟨gl,0,none⟩) n n,.slice (some ⟨gp,0,none⟩) n n,.map (some gm)] 273)) (hV:V.heap.size=s+1+1+1+1) (hne:gl≠gp∧gl≠gm∧gp≠gm∧g≠gl∧g≠gp∧g≠gm) (hlo:s≤g∧s≤gl∧s≤gp∧s≤gm):
 PB V s (s+1+1+1+1) n g gl gp gm (fun _=>.slice none 0 0) (fun _=>0) (fun _=>[]) (fun _=>false):=by
 have lt:∀{b:Nat} {o:Obj},V.heap[b]?=some o→b<s+1+1+1+1:=fun h=>by rw[←hV];exact(Array.getElem?_eq_some_iff.1 h).1
 exact⟨hne,hlo,⟨lt hg,lt hl,lt hp,lt hm,by omega⟩,hg,hl,hp,fun p _=>⟨rfl,.inl ⟨rfl,rfl⟩⟩,fun p q b _ _ _ h=>by simp[Value.ownBlock] at h,#[],0,hm,ISet.empty⟩
theorem PB.congrL{w:World}{B0 B n g gl gp gm:Nat}{hv:Nat→Value}{loose loose':Nat→Nat}{paid:Nat→List Nat}{seen:PSet}(h:PB w B0 B n g gl gp gm hv loose paid seen)(he:∀p,p<n→loose p=loose' p):PB w B0 B n g gl gp gm hv loose' paid seen:=by
 have e:lsArr n (fun p=>nv (loose p))=lsArr n (fun p=>nv (loose' p)):=by
  unfold lsArr
  congr 1
  apply List.map_congr_left
  intro p hp
  rw[he p (List.mem_range.1 hp)]
 exact⟨h.ne,h.lo,h.hi,h.brd,by rw[←e];exact h.ls,h.hd,h.rows,h.apart,h.map⟩
set_option maxRecDepth 100000 in
set_option maxHeartbeats 4000000 in
theorem Qhj(n:Nat)(hn:n≤10)(w:World):
 Calls Tryz.prog 143 #[.int .i64 (n:Int)] w fun e w'=>∃g gl gp gm B,e=.returned (.pointer (some ⟨g,0,none⟩))∧PB w' w.heap.size B n g gl gp gm (fun _=>.slice none 0 0) (fun _=>2) (fun _=>[]) (fun _=>false)∧Below w.heap.size w w':=by
 have hmake:∀v:World,(Instr.makeMap 271 none).run Tryz.prog v=.ok (.map (some v.heap.size)) (v.alloc (.map #[] 0)):=fun v=>rfl
 have hk1:∀v:World,(Instr.makeSlice 181 (.int .i64 (n:Int)) (.int .i64 (n:Int))).run Tryz.prog v=.ok (.slice (some ⟨v.heap.size,0,none⟩) n n) (v.alloc (.cells (lsArr n (fun _=>.int .i64 0)) 3)):=Qhi 181 3 (.int .i64 0) 8 rfl Tryz.underlying181 infoInt (by decide) n hn
 have hk2:∀v:World,(Instr.makeSlice 270 (.int .i64 (n:Int)) (.int .i64 (n:Int))).run Tryz.prog v=.ok (.slice (some ⟨v.heap.size,0,none⟩) n n) (v.alloc (.cells (lsArr n (fun _=>.slice none 0 0)) 181)):=Qhi 270 181 (.slice none 0 0) 24 rfl Tryz.underlying270 Qnm (by decide) n hn
 go_enter Tryz.func143,Tryz.ntmps143
 go_wp2_with fail
 go_cut [3] (fun s3 wc=>∃g gl gp gm,s3=.pointer (some ⟨g,0,none⟩)∧PB wc w.heap.size (w.heap.size+1+1+1+1) n g gl gp gm (fun _=>.slice none 0 0) (fun _=>0) (fun _=>[]) (fun _=>false)∧Below w.heap.size w wc)
 case first=>
  go_region
  all_goals
   go_wp2_with fail
   go_meet
   case rel=>
    refine⟨_,_,_,_,rfl,PB.make ?_ ?_ ?_ (heap4 w _ _ _ _).2.2.2 (size4 w _ _ _ _) ?_ ?_,Qno w _ _ _ _⟩
    · first|exact(heap4 w _ _ _ _).1|exact(heap4 w _ _ _ _).2.1|exact(heap4 w _ _ _ _).2.2.1
    · first|exact(heap4 w _ _ _ _).1|exact(heap4 w _ _ _ _).2.1|exact(heap4 w _ _ _ _).2.2.1
    · first|exact(heap4 w _ _ _ _).1|exact(heap4 w _ _ _ _).2.1|exact(heap4 w _ _ _ _).2.2.1
    · omega
    · omega
 case rest=>
  obtain⟨g,gl,gp,gm,rfl,hpb,hbw⟩:=hcut
  obtain⟨wx,rfl⟩:∃wx,wx=wc:=⟨wc,rfl⟩
  have HPB:=Hi hpb
  have HBW:=Hi hbw
  have c0:wx.cell? ⟨g,0,none⟩=some (.slice (some ⟨gl,0,none⟩) n n):=hpb.brd.cell 0
  clear hpb hbw hmake hk1 hk2
  go_wp2_with fail
  clear c0
  go_loopw [17] (fun iv wr=>∃k:Nat,k≤n∧iv=.int .i64 k∧PB wr w.heap.size (w.heap.size+1+1+1+1) n g gl gp gm (fun _=>.slice none 0 0) (fun r=>if r<k then 2 else 0) (fun _=>[]) (fun _=>false)∧Below w.heap.size w wr) (fun iv _=>n - (intOf iv).toNat)
  case atStart=>exact⟨0,by omega,rfl,HPB.out.congrL (fun p _=>by simp),HBW.out⟩
  case round=>
   obtain⟨k,hk,rfl,hpb,hbw⟩:=hrel
   by_cases hlt:k<n
   ·
    have c0:wr.cell? ⟨g,0,none⟩=some (.slice (some ⟨gl,0,none⟩) n n):=hpb.brd.cell 0
    have l0:wr.cell? ⟨gl,k,none⟩=some (.int .i64 0):=by
     have:=(hpb.ls.cell k).trans (Qag _ hlt)
     simp only[Nat.lt_irrefl,if_false] at this
     exact this
    have z0:wr.frozen? ⟨gl,k,none⟩=false:=hpb.ls.free k
    have HP2:Hid (PB (wr.setCell ⟨gl,k,none⟩ (.int .i64 2)) w.heap.size (w.heap.size+1+1+1+1) n g gl gp gm (fun _=>.slice none 0 0) (fun r=>if r<k+1 then 2 else 0) (fun _=>[]) (fun _=>false)):=Hi ((hpb.setLoose k 2).congrL (fun p _=>by
     by_cases e:p=k
     · subst e;rw[Qab];simp
     ·
      rw[Qaa _ _ e]
      by_cases e2:p<k
      · rw[if_pos e2,if_pos (by omega)]
      · rw[if_neg e2,if_neg (by omega)]))
    have HB2:Hid (Below w.heap.size w (wr.setCell ⟨gl,k,none⟩ (.int .i64 2))):=Hi (hbw.setCell hpb.lo.2.1 _)
    have q1:((k:Int)<(n:Int)):=by omega
    clear hpb hbw
    go_wp2
    go_roundw
    case rel=>exact⟨k+1,by omega,by go_num,HP2.out,HB2.out⟩
    case measure=>simp[intOf];omega
   ·
    obtain rfl:n=k:=by omega
    have HP2:Hid (PB wr w.heap.size (w.heap.size+1+1+1+1) n g gl gp gm (fun _=>.slice none 0 0) (fun _=>2) (fun _=>[]) (fun _=>false)):=Hi (hpb.congrL (fun p hp=>by simp[hp]))
    have HB2:=Hi hbw
    clear hpb hbw
    go_wp2
    go_ret
    exact⟨g,gl,gp,gm,_,rfl,HP2.out,HB2.out⟩
end Go.Proofs.YtjhdfkcdigmfhaaGreatDoor.Peb
