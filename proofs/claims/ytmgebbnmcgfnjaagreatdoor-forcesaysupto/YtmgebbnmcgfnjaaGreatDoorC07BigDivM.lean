/- rafterbig's div, its long way. -/
import Derived.Test.YtmgebbnmcgfnjaaGreatDoorC06BigDivL1
namespace Go.Proofs.YtmgebbnmcgfnjaaGreatDoor
open Go.RowKit
set_option linter.unusedVariables false

theorem Blk.setRow {k : IntKind} {t : TypeId} {w : World} {g : Nat} {l : List Nat} (h : Blk k t w g l) (m : List Nat) : Blk k t (w.setRow g (wordCells k m)) g m := setRow_heap w g _ _ t _ h

theorem div_start (X V n M k : Nat) (xl v : List Nat) (hx : Num 4294967296 xl X) (hXb : X < 4294967296 ^ (M + n + 2)) (hv : Num 4294967296 v V) (hvl : v.length = n + 2) (hk : xl.length + k = M + n + 3) :
    DivInv X V n M (M + 1) (xl ++ zeros k) (zeros (M + 1)) := by
  refine ⟨by rw [List.length_append, zeros_length]; exact hk, zeros_length _, hx.small.append (zeros_small _ _ (by decide)), zeros_small _ _ (by decide), ?_, ?_⟩
  · rw [val_append, val_zeros, hx.eq, List.drop_of_length_le (by rw [zeros_length]; exact Nat.le_refl _), val_nil, Nat.mul_zero, Nat.mul_zero]
    rfl
  · rw [val_append, val_zeros, hx.eq, Nat.mul_zero, Nat.add_zero]
    have e3 := hv.trim.pow_le (B := 4294967296) (by rw [hvl]; exact Nat.succ_pos _)
    rw [hv.eq, hvl] at e3
    have e4 := Nat.mul_le_mul_left (4294967296 ^ (M + 1)) e3
    rw [← Nat.pow_add, show M + 1 + (n + 2 - 1) = M + n + 2 from by omega] at e4
    exact Nat.lt_of_lt_of_le hXb e4

theorem copy32 (w : World) (g n cx bx ox : Nat) (xl : List Nat) (hB : Blk .u32 263 w g (zeros n)) (hx : Row .u32 w (some ⟨bx, ox, none⟩) cx xl) (hn : xl.length ≤ n) :
    Sem.run Tryz.prog (Builtin.copy_ #[112, 112] 3 #[.slice (some ⟨g, 0, none⟩) n n, .slice (some ⟨bx, ox, none⟩) xl.length cx]) w = .ok (.int .i64 xl.length) (w.setRow g (wordCells .u32 (xl ++ zeros (n - xl.length)))) := by
  have h := run_copy_row (P := Tryz.prog) w 112 112 3 263 g 0 n n ⟨bx, ox, none⟩ xl.length cx (wordCells .u32 (zeros n)) 263 (xl.map (fun n : Nat => Value.int .u32 n)) Tryz.underlying112 (by kernel_rfl) hB
    (by rw [List.length_map]; exact (Nat.min_eq_left hn).symm) ?_ (by simp [wordCells, zeros_length]; omega) ?_
  · have e : (List.take 0 (wordCells .u32 (zeros n)).toList ++ xl.map (fun n : Nat => Value.int .u32 n) ++ List.drop (0 + (xl.map (fun n : Nat => Value.int .u32 n)).length) (wordCells .u32 (zeros n)).toList).toArray = wordCells .u32 (xl ++ zeros (n - xl.length)) := by
      unfold wordCells zeros
      simp
    rw [e] at h
    rw [List.length_map] at h
    exact h
  · intro j u hj
    obtain ⟨hlt, hu⟩ := List.getElem?_eq_some_iff.1 hj
    have hlt' : j < xl.length := by simpa using hlt
    obtain ⟨b', off', e1, _, hc⟩ := hx.cell j hlt'
    obtain ⟨rfl, rfl⟩ : bx = b' ∧ ox = off' := by simpa using e1
    rw [addr_add, hc, ← hu]
    simp [hlt']
  · intro u hu; obtain ⟨n, _, rfl⟩ := List.mem_map.1 hu; rfl

set_option maxRecDepth 100000 in
set_option maxHeartbeats 4000000 in
theorem big_div_long (a1 a2 : Option Addr) (c1 c2 : Nat) (l m : List Nat) (x y : Nat) (w : World) (h1 : U32 w a1 c1 l x) (h2 : U32 w a2 c2 m y) (hy : 0 < y) (hxy : y ≤ x) (hl : 2 < l.length) (hm : 1 < m.length) (hlb : l.length < 1099511627770) :
    Calls Tryz.prog 221 #[.slice a1 l.length c1, .slice a2 m.length c2] w (DivOk w x y) := by
  have s2 := h2.short
  have hml : m.length ≤ l.length := by
    apply Classical.byContradiction
    intro hc
    have := lt_of_length (B := 4294967296) (by omega) h1.num.small h2.num.trim (by omega)
    rw [h1.num.eq, h2.num.eq] at this
    omega
  have q1 : ((m.length : Int) == 0) = false := by rw [beq_eq_false_iff_ne]; omega
  have q2 : ((m.length : Int) == 1) = false := by rw [beq_eq_false_iff_ne]; omega
  have hc : ¬ cmp3 x y < 0 := by rw [cmp3_neg_iff]; omega
  have hzb : nb y ≤ 32 * m.length := Num.nb_le (q := 32) h2.num
  obtain ⟨z, hz⟩ : ∃ z, nb y = z := ⟨_, rfl⟩
  have hz1 : 1 ≤ z := by rw [← hz]; exact nb_pos hy
  obtain ⟨s, hs⟩ : ∃ s, 31 - (z - 1) % 32 = s := ⟨_, rfl⟩
  have hs31 : s < 32 := by omega
  have hs' : 32 - ((z : Int) - 1) % 32 - 1 = (s : Int) := by omega
  rw [hz] at hzb
  have HZ : Hid (nb y = z) := hz
  clear hz hs
  go_enter Tryz.func221, Tryz.ntmps221
  go_wp2_with fail
  refine (big_cmp a1 a2 c1 c2 l m x y w h1 h2).mono ?_
  rintro e w1 ⟨rfl, hb⟩
  replace h1 := h1.below hb
  replace h2 := h2.below hb
  go_wp2_with fail
  refine (big_length a2 c2 m y w1 h2).mono ?_
  rintro e w2 ⟨rfl, rfl⟩
  rw [HZ.out]
  clear hc
  go_wp2_with fail
  refine (big_left a2 c2 s m y w2 h2 hs31 (by omega) (by omega)).mono ?_
  rintro e w3 ⟨⟨av, cv, v, rfl, hv⟩, hb3⟩
  replace h1 := h1.below hb3
  have hpow := pow_lt_word hs31
  have hpos : 0 < 2 ^ s := Nat.pow_pos (by omega)
  obtain ⟨V, hV⟩ : ∃ V, y * 2 ^ s = V := ⟨_, rfl⟩
  obtain ⟨X, hX⟩ : ∃ X, x * 2 ^ s = X := ⟨_, rfl⟩
  rw [hV] at hv
  have hyV : y ≤ V := by rw [← hV]; exact Nat.le_mul_of_pos_right _ hpos
  have hVX : V ≤ X := by rw [← hV, ← hX]; exact Nat.mul_le_mul_right _ hxy
  have hXb : X < 4294967296 ^ (l.length + 1) := by
    have e1 := val_lt (B := 4294967296) (by omega) h1.num.small
    rw [h1.num.eq] at e1
    rw [← hX, Nat.pow_succ]
    exact Nat.mul_lt_mul'' e1 (by omega)
  have hvl2 : 2 ≤ v.length := by
    apply Classical.byContradiction
    intro hn
    have e1 := val_lt (B := 4294967296) (by omega) hv.num.small
    have e2 := pow_mono (B := 4294967296) (by omega) (show v.length ≤ 1 by omega)
    have e3 := h2.num.trim.pow_le (B := 4294967296) (by omega)
    have e4 := pow_mono (B := 4294967296) (by omega) (show 1 ≤ m.length - 1 by omega)
    rw [hv.num.eq] at e1
    rw [h2.num.eq] at e3
    omega
  have hvll : v.length ≤ l.length + 1 := hv.num.length_le_of_lt (by omega) (by omega)
  have HV : Hid (y * 2 ^ s = V) := hV
  have HX : Hid (x * 2 ^ s = X) := hX
  have HXB : Hid (X < 4294967296 ^ (l.length + 1)) := hXb
  clear hV hX hXb hpow hpos hyV
  have hmk : ∀ w, (Instr.makeSlice 112 (.int .i64 ((l.length : Int) + 2)) (.int .i64 ((l.length : Int) + 2))).run Tryz.prog w = .ok (.slice (some ⟨w.heap.size, 0, none⟩) (l.length + 2) (l.length + 2)) (w.alloc (.cells (wordCells .u32 (zeros (l.length + 2))) 263)) :=
    fun w => make32 _ (l.length + 2) (by omega) (by omega) w
  go_wp2_with fail
  have hba : Below w3.heap.size w3 (w3.alloc (.cells (wordCells .u32 (zeros (l.length + 2))) 263)) := (Below.refl _ _).alloc (Nat.le_refl _) _
  refine (big_left a1 c1 s l x _ (h1.below hba) hs31 (by omega) (by omega)).mono ?_
  rintro e w4 ⟨⟨ax, cx, xl, rfl, hx⟩, hb4⟩
  clear hmk
  rw [HX.out] at hx
  have hxl1 : xl.length ≤ l.length + 1 := hx.num.length_le_of_lt (by omega) HXB.out
  have hxl0 : 0 < xl.length := by
    have := (hx.num.len_zero (by omega)).2
    have := HV.out
    have : 0 < y * 2 ^ s := Nat.mul_pos hy (Nat.pow_pos (by omega))
    omega
  have hBu : Blk .u32 263 w4 w3.heap.size (zeros (l.length + 2)) := (Blk.new .u32 263 w3 _).below hb4 (by simp)
  have hb34 : Below w3.heap.size w3 w4 := hba.trans (hb4.mono (by simp))
  have hs4 := hb34.size
  have hlt4 := hBu.lt
  clear hba hb4
  obtain ⟨bx, ox, hax, hbx, hcx⟩ := hx.row.cell 0 hxl0
  subst hax
  have hcp := copy32 w4 w3.heap.size (l.length + 2) cx bx ox xl hBu hx.row (by omega)
  clear hcx
  obtain ⟨n, hn⟩ : ∃ n, v.length = n + 2 := ⟨v.length - 2, by omega⟩
  have HN : Hid (v.length = n + 2) := hn
  rw [hn]
  rw [hn] at hvl2 hvll
  clear hn
  obtain ⟨M, hM⟩ : ∃ M, l.length = M + n + 1 := ⟨l.length - 1 - n, by omega⟩
  have HM : Hid (l.length = M + n + 1) := hM
  have hmk2 : ∀ w, (Instr.makeSlice 112 (.int .i64 ((l.length : Int) + 2 - ((n : Int) + 2))) (.int .i64 ((l.length : Int) + 2 - ((n : Int) + 2)))).run Tryz.prog w = .ok (.slice (some ⟨w.heap.size, 0, none⟩) (M + 1) (M + 1)) (w.alloc (.cells (wordCells .u32 (zeros (M + 1))) 263)) :=
    fun w => make32 _ (M + 1) (by omega) (by omega) w
  clear hM
  go_wp2_with fail
  clear hcp hmk2
  generalize hW0 : (w4.setRow w3.heap.size (wordCells .u32 (xl ++ zeros (l.length + 2 - xl.length)))).alloc (.cells (wordCells .u32 (zeros (M + 1))) 263) = W0 at *
  have hgq : (w4.setRow w3.heap.size (wordCells .u32 (xl ++ zeros (l.length + 2 - xl.length)))).heap.size = w4.heap.size := by simp [World.setRow]
  have hBu0 : Blk .u32 263 W0 w3.heap.size (xl ++ zeros (l.length + 2 - xl.length)) := by
    rw [← hW0]; exact (hBu.setRow _).alloc _
  have hBq0 : Blk .u32 263 W0 w4.heap.size (zeros (M + 1)) := by
    rw [← hW0, ← hgq]; exact Blk.new _ _ _ _
  have hb0 : Below w3.heap.size w3 W0 := by
    rw [← hW0]; exact (below_setRow hb34 (Nat.le_refl _) _).alloc (by rw [hgq]; omega) _
  clear hW0 hgq hBu
  obtain ⟨bv, ov, hav, hbv, _⟩ := hv.row.cell 0 (by have := HN.out; omega)
  subst hav
  have hvc : ∀ i, i < n + 2 → w3.cell? ⟨bv, ov + i, none⟩ = some (.int .u32 ((v.getD i 0 : Nat) : Int)) := by
    intro i hi
    obtain ⟨b', o', e1, _, e2⟩ := hv.row.cell i (by have := HN.out; omega)
    obtain ⟨rfl, rfl⟩ : bv = b' ∧ ov = o' := by simpa using e1
    exact e2
  obtain ⟨v1, hv1⟩ : ∃ v1, v.getD (n + 1) 0 = v1 := ⟨_, rfl⟩
  obtain ⟨v0, hv0⟩ : ∃ v0, v.getD n 0 = v0 := ⟨_, rfl⟩
  have hv1b : v1 < 4294967296 := by rw [← hv1]; exact hv.num.small.getD (by omega) _
  have hv0b : v0 < 4294967296 := by rw [← hv0]; exact hv.num.small.getD (by omega) _
  have hv1p : 1 ≤ v1 := by
    have e1 := hv.num.trim
    have e2 := HN.out
    rcases e1 with e1 | e1
    · rw [e1] at e2; simp at e2
    · rw [e2] at e1; rw [← hv1]; simp only [Nat.add_one_sub_one] at e1; omega
  have g1 := (hb0.cell (p := ⟨bv, ov + (n + 1), none⟩) hbv).trans (hvc (n + 1) (by omega))
  have g2 := (hb0.cell (p := ⟨bv, ov + n, none⟩) hbv).trans (hvc n (by omega))
  rw [hv1] at g1
  rw [hv0] at g2
  have HVC : Hid (∀ i, i < n + 2 → w3.cell? ⟨bv, ov + i, none⟩ = some (.int .u32 ((v.getD i 0 : Nat) : Int))) := hvc
  have HV1 : Hid (v.getD (n + 1) 0 = v1) := hv1
  have HV0 : Hid (v.getD n 0 = v0) := hv0
  clear hvc hv1 hv0
  go_region
  all_goals
    go_wp2
  clear g1 g2
  have hVb : V < 4294967296 ^ (n + 2) := by
    have e1 := val_lt (B := 4294967296) (by omega) hv.num.small
    rw [hv.num.eq, HN.out] at e1
    exact e1
  have hV0 : 0 < V := by rw [← HV.out]; exact Nat.mul_pos hy (Nat.pow_pos (by omega))
  have HI0 : DivInv X V n M (M + 1) (xl ++ zeros (l.length + 2 - xl.length)) (zeros (M + 1)) :=
    div_start X V n M _ xl v hx.num (by rw [show M + n + 2 = l.length + 1 from by have := HM.out; omega]; exact HXB.out) hv.num HN.out (by have := HM.out; omega)
  have HM0 : DivMem w3 W0 bv ov w3.heap.size w4.heap.size n (l.length + 2) v (xl ++ zeros (l.length + 2 - xl.length)) (zeros (M + 1)) :=
    ⟨hb0, hbv, HVC.out, hv.num.small, hBu0, hBq0, hlt4, by rw [List.length_append, zeros_length]; omega, hx.num.small.append (zeros_small _ _ (by omega))⟩
  have HMH := Hid.intro HM0
  have HIH := Hid.intro HI0
  clear HI0 hVb hBu0 hBq0 hb0 hs' HM0
  rw [show (l.length : Int) + 2 - ((n : Int) + 2) - 1 = ((M + 1 : Nat) : Int) - 1 from by have := HM.out; omega]
  refine wp_loop_rounds (M + 1 + 1) ?_
  refine (div_places _ w3 bv ov cv w3.heap.size w4.heap.size n M (l.length + 2) v1 v0 X V v _ (by have := HM.out; omega) (by omega) hv.num HN.out HV1.out HV0.out hv1p ?hex (M + 1)) _ _ _ _ _ _ _ _ _ _ _ _ _ _ _ _ _ _ _ _ _ _ _ _ _ _ _ _ _ _ _ _ _ _ _ _ _ _ _ _ _ _ _ _ _ _ _ _ _ _ _ _ _ _ _ _ _ _ _ _ _ _ _ _ _ _ _ _ _ _ _ _ _ _ _ _ _ _ _ _ _ _ _ _ _ _ _ _ _ _ _ _ _ _ _ _ _ _ _ _ _ _ _ _ _ _ _ _ _ _ _ _ _ _ _ _ _ _ _ _ _ _ _ _ _ _ _ _ _ _ _ _ _ _ _ _ _ _ _ _ _ _ _ _ _ _ _ _ _ _ _ _ _ _ _ _ _ _ _ _ _ _ _ _ _ _ _ _ _ _ _ _ _ _ _ _ _ _ _ _ _ _ _ _ _ _ _ _ _ _ _ _ _ _ _ _ _ _ _ _ _ _ _ _ _ _ _ _ _ _ _ _ _ _ _ _ _ _ _ _ _ _ _ _ _ _ _ _ _ _ _ _ _ _ _ _ _ _ _ _ _ _ _ _ _ _ _ _ _ _ _ _ _ _ _ _ _ _ _ _ _ _ _ _ _ _ _ _ (Nat.le_refl _) HMH.out.drew HIH.out
  case hex =>
    intro us qs p0 p1 p2 p3 p4 p5 p6 p7 p8 p9 p11 p13 p14 p16 p17 p18 p19 p20 p21 p22 p23 p24 p25 p26 p27 p28 p29 p30 p31 p32 p33 p34 p35 p36 p37 p38 p39 p40 p41 p42 p43 p44 p45 p46 p47 p48 p49 p50 p51 p52 p53 p54 p55 p56 p57 p58 p59 p60 p61 p62 p63 p64 p65 p66 p67 p68 p69 p70 p71 p72 p73 p74 p75 p76 p77 p78 p79 p80 p81 p82 p83 p84 p85 p86 p87 p88 p89 p90 p91 p92 p93 p94 p95 p96 p97 p98 p99 p100 p101 p102 p103 p104 p105 p106 p107 p108 p109 p110 p111 p112 p113 p114 p115 p116 p117 p118 p119 p120 p121 p122 p123 p124 p125 p126 p127 p128 p129 p130 p131 p132 p133 p134 p135 p136 p137 p138 p139 p140 p141 p142 p143 p144 p145 p146 p147 p148 p149 p150 p151 p152 p153 p154 p155 p156 p157 p158 p159 p160 p161 p162 p163 p164 p165 p166 p167 p168 p169 p170 p171 p172 p173 p174 p175 p176 p177 p178 p179 p180 p181 p182 p183 p184 p185 p186 p187 p188 p189 p190 p191 p192 p193 p194 p195 p196 p197 p198 p199 p200 p201 p202 p203 p204 p205 p206 p207 p208 p209 p210 p211 p212 p213 p214 p215 p216 p217 p218 p219 p220 p221 p222 p223 p224 p225 p226 p227 p228 p229 p230 p231 p232 p233 p234 p235 p236 p237 p238 p239 p240 p241 p242 p243 p244 p245 p246 p247 p248 p249 p250 p251 p252 p253 p254 p255 p256 p257 p258 p259 p260 p261 p262 p263 p264 p265 p266 p267 p268 p269 p270 p271 p272 wr hm hI
    have hdone : val 4294967296 qs = x / y ∧ val 4294967296 us / 2 ^ s = x % y := by
      have e1 := hI.eq
      have e2 := hI.lt
      rw [Nat.pow_zero, Nat.one_mul] at e1 e2
      rw [List.drop_zero] at e1
      exact div_done (Nat.pow_pos (by decide)) HX.out HV.out e1 e2
    obtain ⟨hd1, hd2⟩ := hdone
    have HD2 := Hid.intro hd2
    have HIN := Hid.intro hI
    have HME := Hid.intro hm
    clear hd2 hI hm HMH HIH
    go_wp2_with fail
    refine (big_trim_blk w4.heap.size (M + 1) (M + 1) (x / y) qs wr HME.out.qb HIN.out.qlen HIN.out.qsmall (Nat.le_refl _) (by have := HM.out; omega) hd1).mono ?_
    rintro e w5 ⟨⟨aq, cq, rq, rfl, huq⟩, rfl⟩
    go_wp2_with fail
    refine (big_trim_blk w3.heap.size (l.length + 2) (l.length + 2) _ us w5 HME.out.ub HME.out.ul HME.out.usmall (Nat.le_refl _) (by omega) rfl).mono ?_
    rintro e w6 ⟨⟨au, cu, ru, rfl, huu⟩, rfl⟩
    go_wp2_with fail
    refine (big_right au cu s ru _ w6 huu hs31).mono ?_
    rintro e w7 ⟨⟨ar, cr, rr, rfl, hur⟩, hb7⟩
    go_wp2
    go_ret2
    rw [HD2.out] at hur
    refine ⟨⟨aq, cq, rq, ar, cr, rr, rfl, huq.below hb7, hur⟩, ?_⟩
    have hb36 : Below w3.heap.size w3 w6 := HME.out.below
    exact hb.trans ((hb3.mono hb.size).trans ((hb36.mono (Nat.le_trans hb.size hb3.size)).trans (hb7.mono (Nat.le_trans hb.size (Nat.le_trans hb3.size hb36.size)))))

/-- div: what goes into it, and what is left -/
theorem big_div (a1 a2 : Option Addr) (c1 c2 : Nat) (l m : List Nat) (x y : Nat) (w : World) (h1 : U32 w a1 c1 l x) (h2 : U32 w a2 c2 m y) (hy : 0 < y) (hlb : l.length < 1099511627770) :
    Calls Tryz.prog 221 #[.slice a1 l.length c1, .slice a2 m.length c2] w (DivOk w x y) := by
  by_cases hxy : x < y
  · exact big_div_lt a1 a2 c1 c2 l m x y w h1 h2 hxy
  by_cases hl : l.length ≤ 2
  · exact big_div_two a1 a2 c1 c2 l m x y w h1 h2 hy (by omega) hl
  by_cases hm : m.length = 1
  · exact big_div_one a1 a2 c1 c2 l m x y w h1 h2 hy (by omega) (by omega) hm
  · have hm0 : m.length ≠ 0 := by
      intro h0
      have := (h2.num.len_zero (by decide)).2 h0
      omega
    exact big_div_long a1 a2 c1 c2 l m x y w h1 h2 hy (by omega) (by omega) (by omega) hlb
end Go.Proofs.YtmgebbnmcgfnjaaGreatDoor
