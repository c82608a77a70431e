import Derived.Test.YtgnmjaponiclhaaGreatDoorC17FracBag
namespace Go.Proofs.YtgnmjaponiclhaaGreatDoor
open Go.RowKit
set_option linter.unusedVariables false
set_option linter.unusedSimpArgs false
def LowIn(w:World)(b:Option Addr)(m d k:Nat):Prop:=(b=none∧m=0∧d=0∧k=1)∨(0<k∧NumV w b m d k)
def Low(w:World)(b:Option Addr)(m d k:Nat):Prop:=(b=none∧m=0∧d=0∧k=1)∨(1<k∧NumV w b m d k)
theorem Low.lowIn{w:World}{b:Option Addr}{m d k:Nat}(h:Low w b m d k):LowIn w b m d k:=by
 rcases h with h|⟨h,h1⟩
 · exact .inl h
 · exact .inr ⟨by omega,h1⟩
theorem Low.below{w w':World}{b:Option Addr}{m d k:Nat}(h:Low w b m d k)(hb:Below w.heap.size w w'):Low w' b m d k:=by
 rcases h with h|⟨h,h1⟩
 · exact .inl h
 · exact .inr ⟨h,h1.below hb⟩
structure FracAt (w:World) (neg:Bool) (a:Option Addr) (n c:Nat) (b:Option Addr) (m d:Nat) (q:Rat):Prop where
 neg:neg=decide (q.num<0)
 top:NumV w a n c q.num.natAbs
 low:Low w b m d q.den
theorem FracAt.below{w w':World}{neg:Bool}{a b:Option Addr}{n c m d:Nat}{q:Rat}(h:FracAt w neg a n c b m d q)(hb:Below w.heap.size w w'):FracAt w' neg a n c b m d q:=⟨h.neg,h.top.below hb,h.low.below hb⟩
def FracV(w:World)(v:Value)(q:Rat):Prop:=∃neg a n c b m d,v=.agg #[.bool neg,.slice a n c,.slice b m d]∧FracAt w neg a n c b m d q
theorem FracV.below{w w':World}{v:Value}{q:Rat}(h:FracV w v q)(hb:Below w.heap.size w w'):FracV w' v q:=by
 obtain⟨neg,a,n,c,b,m,d,e,h⟩:=h;exact⟨neg,a,n,c,b,m,d,e,h.below hb⟩
def FNew(w:World)(q:Rat)(e:Ending)(w':World):Prop:=(∃v,e=.returned v∧FracV w' v q)∧Below w.heap.size w w'
theorem NumV.nil(w:World):NumV w none 0 0 0:=⟨[],rfl,U64.nil w⟩
theorem FracV.zero(w:World):FracV w (.agg #[.bool false,.slice none 0 0,.slice none 0 0]) 0:=
 ⟨false,none,0,0,none,0,0,rfl,by decide,NumV.nil w,.inl ⟨rfl,rfl,rfl,rfl⟩⟩
theorem FracV.mk{w:World}{neg:Bool}{a b:Option Addr}{n c m d t k:Nat}(ht:NumV w a n c t)(hl:Low w b m d k)(hc:Nat.Coprime t k)(h0:0<t):FracV w (.agg #[.bool neg,.slice a n c,.slice b m d]) (mkRat (sgn neg t) k):=by
 have hk:0<k:=by rcases hl with ⟨_,_,_,rfl⟩|⟨h,_⟩<;>omega
 obtain⟨e1,e2⟩:=Qgm (neg:=neg) hk hc
 exact⟨neg,a,n,c,b,m,d,rfl,by rw[e1,Qlj h0],by rw[e1,Qc7];exact ht,by rw[e2];exact hl⟩
theorem Qgh{w:World}{a:Option Addr}{n c x:Nat}(h:NumV w a n c x):Calls Tryz.prog 265 #[.slice a n c] w fun e w'=>e=.returned (.bool (decide (x=1)))∧w'=w:=by
 obtain⟨l,rfl,h⟩:=h
 exact Qci a c l x w h
def NoU64(C:Array Value):Prop:=∀(i:Nat) (n:Int),C[i]?≠some (Value.int .u64 n)
theorem Row.only64{w w':World}{a:Option Addr}{cap:Nat}{l:List Nat}{c:Nat}{t:TypeId}{C:Array Value}(h:Row .u64 w a cap l)(ho:Only c w w')(hs:SB w c t C)(hn:NoU64 C):Row .u64 w' a cap l:=by
 refine⟨h.fit,?_,fun i hi=>?_⟩
 ·
  rcases h.shape with h1|⟨b',off,rfl,h2⟩
  · exact .inl h1
  · exact .inr ⟨b',off,rfl,by have:=ho.size;omega⟩
 ·
  obtain⟨b',off,h1,h2,h3⟩:=h.cell i hi
  have hne:b'≠c:=by
   rintro rfl
   rw[hs.cell] at h3
   exact hn _ _ h3
  exact⟨b',off,h1,by have:=ho.size;omega,(World.cell?_of_block (w:=w) (ho.block b' h2 hne)).trans h3⟩
theorem NumV.only{w w':World}{a:Option Addr}{n c x g:Nat}{t:TypeId}{C:Array Value}(h:NumV w a n c x)(ho:Only g w w')(hs:SB w g t C)(hn:NoU64 C):NumV w' a n c x:=by
 obtain⟨l,hl,h⟩:=h
 exact⟨l,hl,h.row.only64 ho hs hn,h.num,h.short⟩
theorem FracAt.only{w w':World}{neg:Bool}{a b:Option Addr}{n c m d g:Nat}{q:Rat}{t:TypeId}{C:Array Value}(h:FracAt w neg a n c b m d q)(ho:Only g w w')(hs:SB w g t C)(hn:NoU64 C):FracAt w' neg a n c b m d q:=by
 refine⟨h.neg,h.top.only ho hs hn,?_⟩
 rcases h.low with h1|⟨h1,h2⟩
 · exact .inl h1
 · exact .inr ⟨h1,h2.only ho hs hn⟩
theorem FracV.only{w w':World}{v:Value}{g:Nat}{q:Rat}{t:TypeId}{C:Array Value}(h:FracV w v q)(ho:Only g w w')(hs:SB w g t C)(hn:NoU64 C):FracV w' v q:=by
 obtain⟨neg,a,n,c,b,m,d,e,h⟩:=h;exact⟨neg,a,n,c,b,m,d,e,h.only ho hs hn⟩
def zeroFrac:Array Value:=#[.bool false,.slice none 0 0,.slice none 0 0]
theorem Qa9:NoU64 zeroFrac:=by
 intro i n h
 match i with
 |0=>simp[zeroFrac] at h
 |1=>simp[zeroFrac] at h
 |2=>simp[zeroFrac] at h
 |i+3=>simp[zeroFrac] at h
theorem SB.new2(w:World)(t1 t2:TypeId)(C D:Array Value):SB ((w.alloc (.cells C t1)).alloc (.cells D t2)) (w.heap.size+1) t2 D:=by
 have:=SB.new (w.alloc (.cells C t1)) t2 D;rw[World.size_alloc] at this;exact this
theorem SB.new3(w:World)(t1 t2 t3:TypeId)(C D E:Array Value):SB (((w.alloc (.cells C t1)).alloc (.cells D t2)).alloc (.cells E t3)) (w.heap.size+1+1) t3 E:=by
 have:=SB.new ((w.alloc (.cells C t1)).alloc (.cells D t2)) t3 E;rw[World.size_alloc,World.size_alloc] at this;exact this
theorem Below.new2(w:World)(o1 o2:Obj):Below w.heap.size w ((w.alloc o1).alloc o2):=(Below.refl _ _).alloc (Nat.le_refl _) _ |>.alloc (by rw[World.size_alloc];omega) _
theorem Below.new3(w:World)(o1 o2 o3:Obj):Below w.heap.size w (((w.alloc o1).alloc o2).alloc o3):=(Below.new2 w o1 o2).alloc (by rw[World.size_alloc,World.size_alloc];omega) _
theorem Tryz.fracInfo:(Tryz.prog.info? 128).map (·.size)=some 3:=by kernel_rfl
set_option maxHeartbeats 400000 in
theorem Qc5(neg:Bool)(a b:Option Addr)(n c m d t k:Nat)(w:World)(ht:NumV w a n c t)(hl:LowIn w b m d k)(hc:Nat.Coprime t k):
 Calls Tryz.prog 218 #[.bool neg,.slice a n c,.slice b m d] w (FNew w (mkRat (sgn neg t) k)):=by
 have HT:=Hi ht
 have HC:=Hi hc
 have hz:=ht.zero_iff
 have HB:=Hi ((Below.refl w.heap.size w).alloc (Nat.le_refl _) (.cells #[.bool false,.slice none 0 0,.slice none 0 0] 128))
 clear ht hc
 by_cases h0:t=0
 ·
  have hn:n=0:=hz.1 h0
  subst h0 hn
  rw[Qgl,Rat.zero_mkRat]
  clear hl hz
  go_enter Tryz.func218,Tryz.ntmps218
  go_wp2
  refine bodyPost_ret (v:=.agg #[.bool false,.slice none 0 0,.slice none 0 0]) (results_cell_row rfl _ _ (w.heap.size) 128 #[.bool false,.slice none 0 0,.slice none 0 0] (0,0) _ rfl (SB.new w _ _) Tryz.underlying128 rfl Tryz.fracInfo) rfl ?_
  exact⟨⟨_,rfl,FracV.zero _⟩,HB.out⟩
 ·
  have hn:((n:Int) == 0)=false:=by rw[beq_eq_false_iff_ne];omega
  have ht0:0<t:=by omega
  rcases hl with ⟨rfl,rfl,rfl,rfl⟩|⟨hk,hl⟩
  ·
   have HO:=Hi (Qgh (NumV.nil (w.alloc (.cells #[.bool false,.slice none 0 0,.slice none 0 0] 128))))
   rw[show decide (0=1)=false by decide] at HO
   clear hz h0
   go_enter Tryz.func218,Tryz.ntmps218
   go_wp2_with fail
   go_fit HO.out
   rintro e w1 ⟨rfl,hw⟩
   subst hw
   clear HO
   go_wp2
   refine bodyPost_ret (v:=.agg #[.bool neg,.slice a n c,.slice none 0 0]) (results_cell_row rfl _ _ (w.heap.size) 128 #[.bool neg,.slice a n c,.slice none 0 0] (0,0) _ rfl (SB.new w _ _) Tryz.underlying128 rfl Tryz.fracInfo) rfl ?_
   have hb:=(Below.refl w.heap.size w).alloc (Nat.le_refl _) (.cells #[.bool neg,.slice a n c,.slice none 0 0] 128)
   exact⟨⟨_,rfl,FracV.mk (HT.out.below hb) (.inl ⟨rfl,rfl,rfl,rfl⟩) HC.out ht0⟩,hb⟩
  ·
   have HO:=Hi (Qgh (hl.below ((Below.refl w.heap.size w).alloc (Nat.le_refl _) (.cells #[.bool false,.slice none 0 0,.slice none 0 0] 128))))
   have HL:=Hi hl
   clear hl
   by_cases hk1:k=1
   ·
    rw[show decide (k=1)=true by simpa using hk1] at HO
    clear hz h0
    go_enter Tryz.func218,Tryz.ntmps218
    go_wp2_with fail
    go_fit HO.out
    rintro e w1 ⟨rfl,hw⟩
    subst hw
    clear HO
    go_wp2
    refine bodyPost_ret (v:=.agg #[.bool neg,.slice a n c,.slice none 0 0]) (results_cell_row rfl _ _ (w.heap.size) 128 #[.bool neg,.slice a n c,.slice none 0 0] (0,0) _ rfl (SB.new w _ _) Tryz.underlying128 rfl Tryz.fracInfo) rfl ?_
    have hb:=(Below.refl w.heap.size w).alloc (Nat.le_refl _) (.cells #[.bool neg,.slice a n c,.slice none 0 0] 128)
    exact⟨⟨_,rfl,FracV.mk (HT.out.below hb) (.inl ⟨rfl,rfl,rfl,hk1⟩) HC.out ht0⟩,hb⟩
   ·
    rw[show decide (k=1)=false by simpa using hk1] at HO
    have HK:=Hi (show 1<k by omega)
    clear hz h0 hk1
    go_enter Tryz.func218,Tryz.ntmps218
    go_wp2_with fail
    go_fit HO.out
    rintro e w1 ⟨rfl,hw⟩
    subst hw
    clear HO
    go_wp2
    refine bodyPost_ret (v:=.agg #[.bool neg,.slice a n c,.slice b m d]) (results_cell_row rfl _ _ (w.heap.size) 128 #[.bool neg,.slice a n c,.slice b m d] (0,0) _ rfl (SB.new w _ _) Tryz.underlying128 rfl Tryz.fracInfo) rfl ?_
    have hb:=(Below.refl w.heap.size w).alloc (Nat.le_refl _) (.cells #[.bool neg,.slice a n c,.slice b m d] 128)
    exact⟨⟨_,rfl,FracV.mk (HT.out.below hb) (.inr ⟨HK.out,HL.out.below hb⟩) HC.out ht0⟩,hb⟩
set_option maxHeartbeats 400000 in
theorem Qlc(neg:Bool)(a b:Option Addr)(n c m d k kb:Nat)(w0 w:World)(L:List Ent)(hB:NBag w0 w L)(hl:Low w b m d k)(hk:k<2 ^ kb):
 Calls Tryz.prog 213 #[.agg #[.bool neg,.slice a n c,.slice b m d]] w (NNew w0 L k kb):=by
 have hq:∀(w:World) (a:Option Addr) (n c n' c':Nat),(binOp .eql 126 (.slice a n c) (.slice none n' c')).run Tryz.prog w=.ok (.bool a.isNone) w:=fun w a n c n' c'=>Lib.run_eql_slice_nil w _ _ a n c n' c' Tryz.underlying126
 have HB:=Hi hB
 have HK:=Hi hk
 have HL:=Hi hl
 clear hB hk
 rcases hl with ⟨rfl,rfl,rfl,rfl⟩|⟨h1,h2⟩
 ·
  go_enter Tryz.func213,Tryz.ntmps213
  go_wp2
  go_ret
  have hB:Blk .u64 222 ((w.alloc (.cells #[.bool neg,.slice a n c,.slice none 0 0] 128)).alloc (.cells (wordCells .u64 [1]) 222)) (w.heap.size+1) [1]:=by
   have:=Blk.new .u64 222 (w.alloc (.cells #[.bool neg,.slice a n c,.slice none 0 0] 128)) [1]
   rw[World.size_alloc] at this;exact this
  exact⟨_,1,1,rfl,((HB.out.alloc _).alloc _).put ⟨[1],rfl,hB.row 1 (by simp) 1 (by omega),⟨fun d hd=>by simp at hd;omega,.inr (by simp),by simp[val]⟩,by simp⟩ HK.out⟩
 ·
  obtain⟨bb,bo,rfl⟩:=h2.some (by omega)
  clear h1 h2
  go_enter Tryz.func213,Tryz.ntmps213
  go_wp2
  go_ret
  rcases HL.out with ⟨h,_⟩|⟨h1,h2⟩
  · cases h
  · exact⟨_,m,d,rfl,(HB.out.alloc _).put (h2.below ((Below.refl _ _).alloc (Nat.le_refl _) _)) HK.out⟩
set_option maxHeartbeats 400000 in
theorem Qgi(neg:Bool)(a b:Option Addr)(n c m d t:Nat)(w:World)(ht:NumV w a n c t):
 Calls Tryz.prog 152 #[.agg #[.bool neg,.slice a n c,.slice b m d]] w fun e w'=>e=.returned (.bool (decide (t=0)))∧Below w.heap.size w w':=by
 have e:decide (t=0)=((n:Int) == 0):=by
  have:=ht.zero_iff
  by_cases h:t=0
  · simp[h,this.1 h]
  · rw[decide_eq_false h];symm;rw[beq_eq_false_iff_ne];omega
 rw[e]
 clear e ht
 go_enter Tryz.func152,Tryz.ntmps152
 go_wp2
 go_ret
 exact⟨rfl,(Below.refl _ _).alloc (Nat.le_refl _) _⟩
set_option maxHeartbeats 400000 in
theorem Qgj(neg:Bool)(a b:Option Addr)(n c m d:Nat)(q:Rat)(w:World)(h:FracAt w neg a n c b m d q):
 Calls Tryz.prog 196 #[.agg #[.bool neg,.slice a n c,.slice b m d]] w (FNew w (-q)):=by
 have e:mkRat (sgn (!neg) q.num.natAbs) q.den= -q:=by
  rw[Qlk,h.neg,Qbh,←Rat.neg_mkRat,Rat.mkRat_self]
 have HC:=Hi (fun w' hb=>Qc5 (!neg) a b n c m d q.num.natAbs q.den w' (h.top.below hb) ((h.low.below hb).lowIn) q.reduced)
 rw[e] at HC
 clear h e
 go_enter Tryz.func196,Tryz.ntmps196
 have HS:=Hi (SB.new2 w 128 128 #[.bool neg,.slice a n c,.slice b m d] zeroFrac)
 have HBP:=Hi (Below.new2 w (.cells #[.bool neg,.slice a n c,.slice b m d] 128) (.cells zeroFrac 128))
 go_wp2_with fail
 go_fit (HC.out _ HBP.out)
 rintro e w9 ⟨⟨v9,rfl,hv⟩,hb⟩
 obtain⟨neg9,a9,n9,c9,b9,m9,d9,rfl,hv⟩:=hv
 have hs:=HS.out.below hb HS.out.lt
 have k0:=hs.cell 0
 have k1:=hs.cell 1
 have k2:=hs.cell 2
 have f0:=hs.free 0
 have f1:=hs.free 1
 have f2:=hs.free 2
 simp[zeroFrac] at k0 k1 k2
 have HV:=Hi hv
 have HS9:=Hi hs
 have HB9:=Hi (HBP.out.trans (hb.mono HBP.out.size))
 clear hv hs hb
 go_wp2
 refine bodyPost_ret (v:=.agg #[.bool neg9,.slice a9 n9 c9,.slice b9 m9 d9]) (results_cell_row rfl _ _ (w.heap.size+1) 128 #[.bool neg9,.slice a9 n9 c9,.slice b9 m9 d9] (0,0) _ rfl (((HS9.out.set 0 _).set 1 _).set 2 _) Tryz.underlying128 rfl Tryz.fracInfo) rfl ?_
 have ho:=(((Only.refl (w.heap.size+1) w9).setCell 0 (.bool neg9)).setCell 1 (.slice a9 n9 c9)).setCell 2 (.slice b9 m9 d9)
 exact⟨⟨_,rfl,neg9,a9,n9,c9,b9,m9,d9,rfl,HV.out.only ho HS9.out Qa9⟩,Only.fresh HB9.out ho (by omega)⟩
theorem Qld{p q:Bool}{x y:Nat}(h:p≠q)(hxy:x≤y):sgn q (y - x)=sgn p x+sgn q y:=by
 cases p<;>cases q<;>simp[sgn] at h ⊢ <;>omega
theorem Qle{p q:Bool}{x y:Nat}(h:p≠q)(hxy:y≤x):sgn p (x - y)=sgn p x+sgn q y:=by
 cases p<;>cases q<;>simp[sgn] at h ⊢ <;>omega
theorem Qlf(p:Bool)(x y:Nat):sgn p (x+y)=sgn p x+sgn p y:=by
 cases p<;>simp[sgn]<;>omega
theorem Qlg{x j k:Nat}(h:x<2 ^ j)(hk:j≤k):x<2 ^ k:=Nat.lt_of_lt_of_le h (Nat.pow_le_pow_right (by decide) hk)
theorem NBag.grow{w0 w:World}{L:List Ent}{a:Option Addr}{n c x j k:Nat}(h:NBag w0 w (⟨a,n,c,x,j⟩ :: L))(hk:j≤k):NBag w0 w (⟨a,n,c,x,k⟩ :: L):=
 ⟨h.base,fun t ht=>by
   rcases List.mem_cons.1 ht with rfl|ht
   · exact⟨(h.ts _ (List.Mem.head _)).1,Qlg (h.ts _ (List.Mem.head _)).2 hk⟩
   · exact h.ts t (List.mem_cons_of_mem _ ht)⟩
theorem NBag.rebase{w0 w:World}{L:List Ent}(h:NBag w0 w L):NBag w w L:=⟨Below.refl _ _,h.ts⟩
def Signed(w0:World)(L:List Ent)(k:Nat)(z:Int)(e:Ending)(w':World):Prop:=∃r a n c t,e=.returned (.tuple #[.bool r,.slice a n c])∧NBag w0 w' (⟨a,n,c,t,k⟩ :: L)∧sgn r t=z
set_option maxHeartbeats 400000 in
theorem NBag.addSigned{w0 w:World}{L:List Ent}{a1 a2:Option Addr}{n1 n2 c1 c2 x y j k:Nat}{p q:Bool}(h:NBag w0 w L)(hx:⟨a1,n1,c1,x,j⟩∈ L)(hy:⟨a2,n2,c2,y,k⟩∈ L)(hj:j+k<274877906000):
 Calls Tryz.prog 216 #[.bool p,.slice a1 n1 c1,.bool q,.slice a2 n2 c2] w (Signed w0 L (j+k+1) (sgn p x+sgn q y)):=by
 by_cases hpq:p=q
 ·
  subst hpq
  have HA:=Hi (h.add hx hy hj)
  clear h hx hy hj
  go_enter Tryz.func216,Tryz.ntmps216
  go_wp2_with fail
  go_fit HA.out
  rintro e w1 ⟨a,n,c,rfl,hb⟩
  have HB:=Hi hb
  clear hb HA
  go_wp2
  go_ret2
  exact⟨p,a,n,c,x+y,rfl,HB.out,Qlf p x y⟩
 ·
  have hpq':(p == q)=false:=by simpa using hpq
  have HC:=Hi (h.compare hx hy)
  have HX:=Hi hx
  have HY:=Hi hy
  have HP:=Hi hpq
  clear h hx hy hj hpq
  by_cases hlt:x<y
  ·
   have hcmp:cmp3 x y<0:=(Qaw x y).2 hlt
   go_enter Tryz.func216,Tryz.ntmps216
   go_wp2_with fail
   go_fit HC.out
   rintro e w1 ⟨rfl,hb⟩
   have HA:=Hi (hb.sub HY.out HX.out (by omega))
   clear hb HC
   go_wp2_with fail
   go_fit HA.out
   rintro e w1 ⟨a,n,c,rfl,hb⟩
   have HB:=Hi hb
   clear hb HA
   go_wp2
   go_ret2
   exact⟨q,a,n,c,y - x,rfl,HB.out.grow (by omega),Qld HP.out (by omega)⟩
  ·
   have hcmp:¬(cmp3 x y<0):=fun h=>by have:=(Qaw x y).1 h;omega
   go_enter Tryz.func216,Tryz.ntmps216
   go_wp2_with fail
   go_fit HC.out
   rintro e w1 ⟨rfl,hb⟩
   have HA:=Hi (hb.sub HX.out HY.out (by omega))
   clear hb HC
   go_wp2_with fail
   go_fit HA.out
   rintro e w1 ⟨a,n,c,rfl,hb⟩
   have HB:=Hi hb
   clear hb HA
   go_wp2
   go_ret2
   exact⟨p,a,n,c,x - y,rfl,HB.out.grow (by omega),Qle HP.out (by omega)⟩
theorem Qlh{neg:Bool}{t k g:Nat}(hk:0<k)(hg:Nat.gcd t k=g):mkRat (sgn neg (t / g)) (k / g)=mkRat (sgn neg t) k∧Nat.Coprime (t / g) (k / g)∧0<k / g∧0<g:=by
 have gp:0<g:=by rw[←hg];exact Nat.gcd_pos_of_pos_right _ hk
 have d1:g ∣ t:=hg ▸ Nat.gcd_dvd_left _ _
 have d2:g ∣ k:=hg ▸ Nat.gcd_dvd_right _ _
 have e1:=Nat.div_mul_cancel d1
 have e2:=Nat.div_mul_cancel d2
 refine⟨?_,by have:=Nat.coprime_div_gcd_div_gcd (m:=t) (n:=k) (by omega);rw[hg] at this;exact this,?_,gp⟩
 ·
  rw[←Rat.mkRat_mul_right (a:=g) (by omega),e2]
  congr 1
  have:=Qbv neg false (t / g) g
  rw[show sgn false g=(g:Int) from rfl,e1,Bool.bne_false] at this
  exact this.symm
 ·
  rcases Nat.eq_zero_or_pos (k / g) with h|h
  · rw[h] at e2;omega
  · exact h
theorem NBag.start{w:World}{a b:Option Addr}{n c m d t k i j:Nat}(ht:NumV w a n c t)(hk:NumV w b m d k)(hi:t<2 ^ i)(hj:k<2 ^ j):NBag w w [⟨a,n,c,t,i⟩,⟨b,m,d,k,j⟩]:=by
 refine⟨Below.refl _ _,fun s hs=>?_⟩
 simp only[List.mem_cons,List.not_mem_nil,or_false] at hs
 rcases hs with rfl|rfl
 · exact⟨ht,hi⟩
 · exact⟨hk,hj⟩
set_option maxHeartbeats 1000000 in
theorem Qli(neg:Bool)(a b:Option Addr)(n c m d t k i j:Nat)(w:World)(ht:NumV w a n c t)(hk:NumV w b m d k)(hi:t<2 ^ i)(hj:k<2 ^ j)(hij:i+j<137438953000):
 Calls Tryz.prog 223 #[.bool neg,.slice a n c,.slice b m d] w (FNew w (mkRat (sgn neg t) k)):=by
 have hz:=hk.zero_iff
 by_cases h0:k=0
 ·
  have hm:m=0:=hz.1 h0
  subst h0 hm
  rw[Rat.mkRat_zero]
  have HB:=Hi ((Below.refl w.heap.size w).alloc (Nat.le_refl _) (.cells #[.bool false,.slice none 0 0,.slice none 0 0] 128))
  clear ht hk hi hj hij hz
  go_enter Tryz.func223,Tryz.ntmps223
  go_wp2
  refine bodyPost_ret (v:=.agg #[.bool false,.slice none 0 0,.slice none 0 0]) (results_cell_row rfl _ _ w.heap.size 128 #[.bool false,.slice none 0 0,.slice none 0 0] (0,0) _ rfl (SB.new w _ _) Tryz.underlying128 rfl Tryz.fracInfo) rfl ?_
  exact⟨⟨_,rfl,FracV.zero _⟩,HB.out⟩
 ·
  have hm:((m:Int) == 0)=false:=by rw[beq_eq_false_iff_ne];omega
  obtain⟨G,hG⟩:∃G,Nat.gcd t k=G:=⟨_,rfl⟩
  obtain⟨e1,hc,hk0,hg0⟩:=Qlh (neg:=neg) (by omega) hG
  rw[←e1]
  have HR:=Hi (((NBag.start ht hk hi hj).alloc (.cells zeroFrac 128)).rebase)
  obtain⟨wA,hwA⟩:∃wA,w.alloc (.cells zeroFrac 128)=wA:=⟨_,rfl⟩
  have HS:=Hi (SB.new w 128 zeroFrac)
  have HBP:=Hi ((Below.refl w.heap.size w).alloc (Nat.le_refl _) (.cells zeroFrac 128))
  rw[hwA] at HR HS HBP
  have HC:=Hi hc
  have HG:=Hi hG
  have HWA:=Hi hwA
  clear ht hk hi hj hz h0 hc hG e1 hwA
  go_enter Tryz.func223,Tryz.ntmps223
  go_wp2_with fail
  rw[show w.alloc (.cells #[.bool false,.slice none 0 0,.slice none 0 0] 128)=wA from HWA.out]
  apply Calls.mono
  apply NBag.gcd (w0:=wA) HR.out
  (focus(repeat(first|exact List.Mem.head _|apply List.Mem.tail)))
  (focus(repeat(first|exact List.Mem.head _|apply List.Mem.tail)))
  omega
  rw[HG.out]
  rintro e w1 ⟨aG,nG,cG,rfl,hb⟩
  clear HR
  have HR:=Hi hb
  clear hb
  skip
  go_wp2_with fail
  apply Calls.mono
  apply NBag.quot (w0:=wA) HR.out
  (focus(repeat(first|exact List.Mem.head _|apply List.Mem.tail)))
  (focus(repeat(first|exact List.Mem.head _|apply List.Mem.tail)))
  omega
  (first|assumption|omega)
  rintro e w2 ⟨aT,nT,cT,rfl,hb⟩
  clear HR
  have HR:=Hi hb
  clear hb
  skip
  go_wp2_with fail
  apply Calls.mono
  apply NBag.quot (w0:=wA) HR.out
  (focus(repeat(first|exact List.Mem.head _|apply List.Mem.tail)))
  (focus(repeat(first|exact List.Mem.head _|apply List.Mem.tail)))
  omega
  (first|assumption|omega)
  rintro e w3 ⟨aL,nL,cL,rfl,hb⟩
  clear HR
  have HR:=Hi hb
  clear hb
  skip
  go_wp2_with fail
  have HS':=Hi (HS.out.below HR.out.base HS.out.lt)
  have HBP':=Hi (HBP.out.trans (HR.out.base.mono HBP.out.size))
  clear HS HBP
  have HS:=HS'
  have HBP:=HBP'
  clear HS' HBP'
  go_fit (Qc5 neg aT aL nT cT nL cL (t / G) (k / G) _ (HR.out.get (List.Mem.tail _ (List.Mem.head _))).1 (.inr ⟨hk0,(HR.out.get (List.Mem.head _)).1⟩) HC.out)
  rintro e w9 ⟨⟨v9,rfl,hv⟩,hb⟩
  obtain⟨neg9,a9,n9,c9,b9,m9,d9,rfl,hv⟩:=hv
  have hs:=HS.out.below hb HS.out.lt
  have k0:=hs.cell 0
  have k1:=hs.cell 1
  have k2:=hs.cell 2
  have f0:=hs.free 0
  have f1:=hs.free 1
  have f2:=hs.free 2
  simp[zeroFrac] at k0 k1 k2
  have HV:=Hi hv
  have HS9:=Hi hs
  have HB9:=Hi (HBP.out.trans (hb.mono HBP.out.size))
  clear hv hs hb
  go_wp2
  refine bodyPost_ret (v:=.agg #[.bool neg9,.slice a9 n9 c9,.slice b9 m9 d9]) (results_cell_row rfl _ _ (w.heap.size) 128 #[.bool neg9,.slice a9 n9 c9,.slice b9 m9 d9] (0,0) _ rfl (((HS9.out.set 0 _).set 1 _).set 2 _) Tryz.underlying128 rfl Tryz.fracInfo) rfl ?_
  have ho:=(((Only.refl (w.heap.size) w9).setCell 0 (.bool neg9)).setCell 1 (.slice a9 n9 c9)).setCell 2 (.slice b9 m9 d9)
  exact⟨⟨_,rfl,neg9,a9,n9,c9,b9,m9,d9,rfl,HV.out.only ho HS9.out Qa9⟩,Only.fresh HB9.out ho (by omega)⟩
theorem NBag.under{w0 w:World}{L:List Ent}{neg:Bool}{a b:Option Addr}{n c m d k kb:Nat}(h:NBag w0 w L)(hl:Low w0 b m d k)(hk:k<2 ^ kb):
 Calls Tryz.prog 213 #[.agg #[.bool neg,.slice a n c,.slice b m d]] w (NNew w0 L k kb):=Qlc neg a b n c m d k kb w0 w L h (hl.below h.base) hk
theorem NBag.built{w0 w:World}{L:List Ent}{neg:Bool}{a b:Option Addr}{n c m d t k i j:Nat}(h:NBag w0 w L)(hx:⟨a,n,c,t,i⟩∈ L)(hy:⟨b,m,d,k,j⟩∈ L)(hk:0<k)(hc:Nat.Coprime t k):
 Calls Tryz.prog 218 #[.bool neg,.slice a n c,.slice b m d] w (FNew w (mkRat (sgn neg t) k)):=Qc5 neg a b n c m d t k w (h.get hx).1 (.inr ⟨hk,(h.get hy).1⟩) hc
theorem NBag.isZero{w0 w:World}{L:List Ent}{a b:Option Addr}{n c t k m d:Nat}{neg:Bool}(h:NBag w0 w L)(hx:⟨a,n,c,t,k⟩∈ L):
 Calls Tryz.prog 152 #[.agg #[.bool neg,.slice a n c,.slice b m d]] w (fun e w'=>e=.returned (.bool (decide (t=0)))∧NBag w0 w' L):=by
 refine(Qgi neg a b n c m d t w (h.get hx).1).mono ?_
 rintro e w' ⟨rfl,hb⟩
 exact⟨rfl,h.below hb⟩
set_option maxRecDepth 100000 in
set_option maxHeartbeats 1000000 in
theorem Qgk(nx ny:Bool)(ax bx ay b2:Option Addr)(lx cx mx dx ly cy my dy i j:Nat)(p q:Rat)(w:World)(hx:FracAt w nx ax lx cx bx mx dx p)(hy:FracAt w ny ay ly cy b2 my dy q)(hp:Fits p i)(hq:Fits q j)(hij:i+j<68719476000):
 Calls Tryz.prog 219 #[.agg #[.bool nx,.slice ax lx cx,.slice bx mx dx],.agg #[.bool ny,.slice ay ly cy,.slice b2 my dy]] w (FNew w (p*q)):=by
 have HX:=Hi hx
 have HY:=Hi hy
 have HPF:=Hi hp
 have HQF:=Hi hq
 obtain⟨CX,hCX⟩:∃CX,#[Value.bool nx,.slice ax lx cx,.slice bx mx dx]=CX:=⟨_,rfl⟩
 obtain⟨CY,hCY⟩:∃CY,#[Value.bool ny,.slice ay ly cy,.slice b2 my dy]=CY:=⟨_,rfl⟩
 have HR:=Hi ((((((NBag.start hx.top hy.top hp.1 hq.1).alloc (.cells CX 128)).alloc (.cells CY 128)).alloc (.cells zeroFrac 128)).rebase))
 have HS:=Hi (SB.new3 w 128 128 128 CX CY zeroFrac)
 have HSY:=Hi ((SB.new2 w 128 128 CX CY).alloc (.cells zeroFrac 128))
 have HSX:=Hi (((SB.new w 128 CX).alloc (.cells CY 128)).alloc (.cells zeroFrac 128))
 have HBP:=Hi (Below.new3 w (.cells CX 128) (.cells CY 128) (.cells zeroFrac 128))
 obtain⟨wA,hwA⟩:∃wA,(((w.alloc (.cells CX 128)).alloc (.cells CY 128)).alloc (.cells zeroFrac 128))=wA:=⟨_,rfl⟩
 rw[hwA] at HR HS HSY HSX HBP
 subst hCX hCY
 have HLX:=Hi (hx.low.below HBP.out)
 have HLY:=Hi (hy.low.below HBP.out)
 have ltx:=HSX.out.lt
 have lty:=HSY.out.lt
 have KX0:=Hi (HSX.out.cell 0)
 have KX1:=Hi (HSX.out.cell 1)
 have KX2:=Hi (HSX.out.cell 2)
 have KY0:=Hi (HSY.out.cell 0)
 have KY1:=Hi (HSY.out.cell 1)
 have KY2:=Hi (HSY.out.cell 2)
 simp at KX0 KX1 KX2 KY0 KY1 KY2
 have HWA:=Hi hwA
 have nxr:w.heap.size+1+1≠w.heap.size:=by omega
 have nyr:w.heap.size+1+1≠w.heap.size+1:=by omega
 clear hx hy hp hq hwA
 by_cases hp0:p.num.natAbs=0
 ·
  have hpz:p=0:=Rat.num_eq_zero.1 (by omega)
  rw[show p*q=0 by rw[hpz,Rat.zero_mul]]
  go_enter Tryz.func219,Tryz.ntmps219
  have kx0:=(HR.out.base.cell (p:=⟨w.heap.size,0,none⟩) ltx).trans KX0.out
  have kx1:=(HR.out.base.cell (p:=⟨w.heap.size,1,none⟩) ltx).trans KX1.out
  have kx2:=(HR.out.base.cell (p:=⟨w.heap.size,2,none⟩) ltx).trans KX2.out
  have ky0:=(HR.out.base.cell (p:=⟨w.heap.size+1,0,none⟩) lty).trans KY0.out
  have ky1:=(HR.out.base.cell (p:=⟨w.heap.size+1,1,none⟩) lty).trans KY1.out
  have ky2:=(HR.out.base.cell (p:=⟨w.heap.size+1,2,none⟩) lty).trans KY2.out
  go_wp2_with fail
  rw[show (((w.alloc (.cells #[.bool nx,.slice ax lx cx,.slice bx mx dx] 128)).alloc (.cells #[.bool ny,.slice ay ly cy,.slice b2 my dy] 128)).alloc (.cells #[.bool false,.slice none 0 0,.slice none 0 0] 128))=wA from HWA.out]
  apply Calls.mono
  apply NBag.isZero (w0:=wA) HR.out
  (focus(repeat(first|exact List.Mem.head _|apply List.Mem.tail)))
  rw[(decide_eq_true hp0)]
  rintro e w1 ⟨rfl,hb⟩
  have hs:=HS.out.below hb.base HS.out.lt
  have k0:=hs.cell 0
  have k1:=hs.cell 1
  have k2:=hs.cell 2
  have f0:=hs.free 0
  have f1:=hs.free 1
  have f2:=hs.free 2
  simp[zeroFrac] at k0 k1 k2
  have HS9:=Hi hs
  have HB9:=Hi (HBP.out.trans (hb.base.mono HBP.out.size))
  clear hb hs HR
  go_wp2
  refine bodyPost_ret (v:=.agg #[.bool false,.slice none 0 0,.slice none 0 0]) (results_cell_row rfl _ _ (w.heap.size+1+1) 128 #[.bool false,.slice none 0 0,.slice none 0 0] (0,0) _ rfl (((HS9.out.set 0 _).set 1 _).set 2 _) Tryz.underlying128 rfl Tryz.fracInfo) rfl ?_
  have ho:=(((Only.refl (w.heap.size+1+1) w1).setCell 0 (.bool false)).setCell 1 (.slice none 0 0)).setCell 2 (.slice none 0 0)
  exact⟨⟨_,rfl,FracV.zero _⟩,Only.fresh HB9.out ho (by omega)⟩
 ·
  by_cases hq0:q.num.natAbs=0
  ·
   have hqz:q=0:=Rat.num_eq_zero.1 (by omega)
   rw[show p*q=0 by rw[hqz,Rat.mul_zero]]
   go_enter Tryz.func219,Tryz.ntmps219
   have kx0:=(HR.out.base.cell (p:=⟨w.heap.size,0,none⟩) ltx).trans KX0.out
   have kx1:=(HR.out.base.cell (p:=⟨w.heap.size,1,none⟩) ltx).trans KX1.out
   have kx2:=(HR.out.base.cell (p:=⟨w.heap.size,2,none⟩) ltx).trans KX2.out
   have ky0:=(HR.out.base.cell (p:=⟨w.heap.size+1,0,none⟩) lty).trans KY0.out
   have ky1:=(HR.out.base.cell (p:=⟨w.heap.size+1,1,none⟩) lty).trans KY1.out
   have ky2:=(HR.out.base.cell (p:=⟨w.heap.size+1,2,none⟩) lty).trans KY2.out
   go_wp2_with fail
   rw[show (((w.alloc (.cells #[.bool nx,.slice ax lx cx,.slice bx mx dx] 128)).alloc (.cells #[.bool ny,.slice ay ly cy,.slice b2 my dy] 128)).alloc (.cells #[.bool false,.slice none 0 0,.slice none 0 0] 128))=wA from HWA.out]
   apply Calls.mono
   apply NBag.isZero (w0:=wA) HR.out
   (focus(repeat(first|exact List.Mem.head _|apply List.Mem.tail)))
   rw[(decide_eq_false hp0)]
   rintro e w1 ⟨rfl,hb⟩
   clear HR
   have HR:=Hi hb
   clear hb
   have kx0:=(HR.out.base.cell (p:=⟨w.heap.size,0,none⟩) ltx).trans KX0.out
   have kx1:=(HR.out.base.cell (p:=⟨w.heap.size,1,none⟩) ltx).trans KX1.out
   have kx2:=(HR.out.base.cell (p:=⟨w.heap.size,2,none⟩) ltx).trans KX2.out
   have ky0:=(HR.out.base.cell (p:=⟨w.heap.size+1,0,none⟩) lty).trans KY0.out
   have ky1:=(HR.out.base.cell (p:=⟨w.heap.size+1,1,none⟩) lty).trans KY1.out
   have ky2:=(HR.out.base.cell (p:=⟨w.heap.size+1,2,none⟩) lty).trans KY2.out
   go_wp2_with fail
   apply Calls.mono
   apply NBag.isZero (w0:=wA) HR.out
   (focus(repeat(first|exact List.Mem.head _|apply List.Mem.tail)))
   rw[(decide_eq_true hq0)]
   rintro e w2 ⟨rfl,hb⟩
   have hs:=HS.out.below hb.base HS.out.lt
   have k0:=hs.cell 0
   have k1:=hs.cell 1
   have k2:=hs.cell 2
   have f0:=hs.free 0
   have f1:=hs.free 1
   have f2:=hs.free 2
   simp[zeroFrac] at k0 k1 k2
   have HS9:=Hi hs
   have HB9:=Hi (HBP.out.trans (hb.base.mono HBP.out.size))
   clear hb hs HR
   go_wp2
   refine bodyPost_ret (v:=.agg #[.bool false,.slice none 0 0,.slice none 0 0]) (results_cell_row rfl _ _ (w.heap.size+1+1) 128 #[.bool false,.slice none 0 0,.slice none 0 0] (0,0) _ rfl (((HS9.out.set 0 _).set 1 _).set 2 _) Tryz.underlying128 rfl Tryz.fracInfo) rfl ?_
   have ho:=(((Only.refl (w.heap.size+1+1) w2).setCell 0 (.bool false)).setCell 1 (.slice none 0 0)).setCell 2 (.slice none 0 0)
   exact⟨⟨_,rfl,FracV.zero _⟩,Only.fresh HB9.out ho (by omega)⟩
  ·
   obtain⟨he,hcp⟩:=Qll p q rfl rfl
   rw[←HX.out.neg,←HY.out.neg] at he
   have HE:Hid (mkRat (sgn (!nx == ny) (p.num.natAbs / Nat.gcd p.num.natAbs q.den*(q.num.natAbs / Nat.gcd q.num.natAbs p.den))) (p.den / Nat.gcd q.num.natAbs p.den*(q.den / Nat.gcd p.num.natAbs q.den))=p*q):=Hi he
   have HCP:=Hi hcp
   have HK0:=Hi (show 0<p.den / Nat.gcd q.num.natAbs p.den*(q.den / Nat.gcd p.num.natAbs q.den) from Nat.mul_pos (Nat.div_pos (Nat.gcd_le_right _ p.den_pos) (Nat.gcd_pos_of_pos_right _ p.den_pos)) (Nat.div_pos (Nat.gcd_le_right _ q.den_pos) (Nat.gcd_pos_of_pos_right _ q.den_pos)))
   clear he hcp
   have HG0:=Hi (show 0<Nat.gcd p.num.natAbs q.den from Nat.gcd_pos_of_pos_right _ q.den_pos)
   have HH0:=Hi (show 0<Nat.gcd q.num.natAbs p.den from Nat.gcd_pos_of_pos_right _ p.den_pos)
   go_enter Tryz.func219,Tryz.ntmps219
   have kx0:=(HR.out.base.cell (p:=⟨w.heap.size,0,none⟩) ltx).trans KX0.out
   have kx1:=(HR.out.base.cell (p:=⟨w.heap.size,1,none⟩) ltx).trans KX1.out
   have kx2:=(HR.out.base.cell (p:=⟨w.heap.size,2,none⟩) ltx).trans KX2.out
   have ky0:=(HR.out.base.cell (p:=⟨w.heap.size+1,0,none⟩) lty).trans KY0.out
   have ky1:=(HR.out.base.cell (p:=⟨w.heap.size+1,1,none⟩) lty).trans KY1.out
   have ky2:=(HR.out.base.cell (p:=⟨w.heap.size+1,2,none⟩) lty).trans KY2.out
   go_wp2_with fail
   rw[show (((w.alloc (.cells #[.bool nx,.slice ax lx cx,.slice bx mx dx] 128)).alloc (.cells #[.bool ny,.slice ay ly cy,.slice b2 my dy] 128)).alloc (.cells #[.bool false,.slice none 0 0,.slice none 0 0] 128))=wA from HWA.out]
   apply Calls.mono
   apply NBag.isZero (w0:=wA) HR.out
   (focus(repeat(first|exact List.Mem.head _|apply List.Mem.tail)))
   rw[(decide_eq_false hp0)]
   rintro e w1 ⟨rfl,hb⟩
   clear HR
   have HR:=Hi hb
   clear hb
   have kx0:=(HR.out.base.cell (p:=⟨w.heap.size,0,none⟩) ltx).trans KX0.out
   have kx1:=(HR.out.base.cell (p:=⟨w.heap.size,1,none⟩) ltx).trans KX1.out
   have kx2:=(HR.out.base.cell (p:=⟨w.heap.size,2,none⟩) ltx).trans KX2.out
   have ky0:=(HR.out.base.cell (p:=⟨w.heap.size+1,0,none⟩) lty).trans KY0.out
   have ky1:=(HR.out.base.cell (p:=⟨w.heap.size+1,1,none⟩) lty).trans KY1.out
   have ky2:=(HR.out.base.cell (p:=⟨w.heap.size+1,2,none⟩) lty).trans KY2.out
   go_wp2_with fail
   apply Calls.mono
   apply NBag.isZero (w0:=wA) HR.out
   (focus(repeat(first|exact List.Mem.head _|apply List.Mem.tail)))
   rw[(decide_eq_false hq0)]
   rintro e w2 ⟨rfl,hb⟩
   clear HR
   have HR:=Hi hb
   clear hb
   have kx0:=(HR.out.base.cell (p:=⟨w.heap.size,0,none⟩) ltx).trans KX0.out
   have kx1:=(HR.out.base.cell (p:=⟨w.heap.size,1,none⟩) ltx).trans KX1.out
   have kx2:=(HR.out.base.cell (p:=⟨w.heap.size,2,none⟩) ltx).trans KX2.out
   have ky0:=(HR.out.base.cell (p:=⟨w.heap.size+1,0,none⟩) lty).trans KY0.out
   have ky1:=(HR.out.base.cell (p:=⟨w.heap.size+1,1,none⟩) lty).trans KY1.out
   have ky2:=(HR.out.base.cell (p:=⟨w.heap.size+1,2,none⟩) lty).trans KY2.out
   go_wp2_with fail
   go_region_held3
    (fun w'=>w'.cell? ⟨w.heap.size,0,none⟩=some (.bool nx)∧w'.cell? ⟨w.heap.size,1,none⟩=some (.slice ax lx cx)∧w'.cell? ⟨w.heap.size,2,none⟩=some (.slice bx mx dx)∧w'.cell? ⟨w.heap.size+1,0,none⟩=some (.bool ny)∧w'.cell? ⟨w.heap.size+1,1,none⟩=some (.slice ay ly cy)∧w'.cell? ⟨w.heap.size+1,2,none⟩=some (.slice b2 my dy)) ((first|(simp [*];done)|go_keep))
    (first
    |
     (go_at_call_of 213 (Value.agg #[.bool nx,.slice ax lx cx,.slice bx mx dx])
      apply Calls.mono
      apply NBag.under (w0:=wA) (hl:=HLX.out) (hk:=HPF.out.2)
      (focus(first|exact HR.out|exact HR.out.drew|exact HR.out.drew.drew))
      rintro e w3 ⟨aA,nA,cA,rfl,hb⟩
      clear HR
      have HR:=Hi hb
      clear hb
      have kx0:=(HR.out.base.cell (p:=⟨w.heap.size,0,none⟩) ltx).trans KX0.out
      have kx1:=(HR.out.base.cell (p:=⟨w.heap.size,1,none⟩) ltx).trans KX1.out
      have kx2:=(HR.out.base.cell (p:=⟨w.heap.size,2,none⟩) ltx).trans KX2.out
      have ky0:=(HR.out.base.cell (p:=⟨w.heap.size+1,0,none⟩) lty).trans KY0.out
      have ky1:=(HR.out.base.cell (p:=⟨w.heap.size+1,1,none⟩) lty).trans KY1.out
      have ky2:=(HR.out.base.cell (p:=⟨w.heap.size+1,2,none⟩) lty).trans KY2.out
      skip)
    |
     (go_at_call_of 213 (Value.agg #[.bool ny,.slice ay ly cy,.slice b2 my dy])
      apply Calls.mono
      apply NBag.under (w0:=wA) (hl:=HLY.out) (hk:=HQF.out.2)
      (focus(first|exact HR.out|exact HR.out.drew|exact HR.out.drew.drew))
      rintro e w4 ⟨aB,nB,cB,rfl,hb⟩
      clear HR
      have HR:=Hi hb
      clear hb
      have kx0:=(HR.out.base.cell (p:=⟨w.heap.size,0,none⟩) ltx).trans KX0.out
      have kx1:=(HR.out.base.cell (p:=⟨w.heap.size,1,none⟩) ltx).trans KX1.out
      have kx2:=(HR.out.base.cell (p:=⟨w.heap.size,2,none⟩) ltx).trans KX2.out
      have ky0:=(HR.out.base.cell (p:=⟨w.heap.size+1,0,none⟩) lty).trans KY0.out
      have ky1:=(HR.out.base.cell (p:=⟨w.heap.size+1,1,none⟩) lty).trans KY1.out
      have ky2:=(HR.out.base.cell (p:=⟨w.heap.size+1,2,none⟩) lty).trans KY2.out
      skip)
    )
   go_wp2_with fail
   go_region_held3
    (fun w'=>w'.cell? ⟨w.heap.size,0,none⟩=some (.bool nx)∧w'.cell? ⟨w.heap.size,1,none⟩=some (.slice ax lx cx)∧w'.cell? ⟨w.heap.size,2,none⟩=some (.slice bx mx dx)∧w'.cell? ⟨w.heap.size+1,0,none⟩=some (.bool ny)∧w'.cell? ⟨w.heap.size+1,1,none⟩=some (.slice ay ly cy)∧w'.cell? ⟨w.heap.size+1,2,none⟩=some (.slice b2 my dy)) ((first|(simp [*];done)|go_keep))
    (first
      |
       (go_at_call 214
        apply Calls.mono
        apply NBag.gcd (w0:=wA)
        (focus(first|exact HR.out|exact HR.out.drew|exact HR.out.drew.drew))
        (focus(repeat(first|exact List.Mem.head _|apply List.Mem.tail)))
        (focus(repeat(first|exact List.Mem.head _|apply List.Mem.tail)))
        omega
        rintro e wn ⟨an,nn,cn,rfl,hb⟩
        clear HR
        have HR:=Hi hb
        clear hb
        have kx0:=(HR.out.base.cell (p:=⟨w.heap.size,0,none⟩) ltx).trans KX0.out
        have kx1:=(HR.out.base.cell (p:=⟨w.heap.size,1,none⟩) ltx).trans KX1.out
        have kx2:=(HR.out.base.cell (p:=⟨w.heap.size,2,none⟩) ltx).trans KX2.out
        have ky0:=(HR.out.base.cell (p:=⟨w.heap.size+1,0,none⟩) lty).trans KY0.out
        have ky1:=(HR.out.base.cell (p:=⟨w.heap.size+1,1,none⟩) lty).trans KY1.out
        have ky2:=(HR.out.base.cell (p:=⟨w.heap.size+1,2,none⟩) lty).trans KY2.out
        skip)
      |
       (go_at_call 215
        apply Calls.mono
        apply NBag.quot (w0:=wA)
        (focus(first|exact HR.out|exact HR.out.drew|exact HR.out.drew.drew))
        (focus(repeat(first|exact List.Mem.head _|apply List.Mem.tail)))
        (focus(repeat(first|exact List.Mem.head _|apply List.Mem.tail)))
        omega
        (focus(first|exact HG0.out|exact HH0.out))
        rintro e wn ⟨an,nn,cn,rfl,hb⟩
        clear HR
        have HR:=Hi hb
        clear hb
        have kx0:=(HR.out.base.cell (p:=⟨w.heap.size,0,none⟩) ltx).trans KX0.out
        have kx1:=(HR.out.base.cell (p:=⟨w.heap.size,1,none⟩) ltx).trans KX1.out
        have kx2:=(HR.out.base.cell (p:=⟨w.heap.size,2,none⟩) ltx).trans KX2.out
        have ky0:=(HR.out.base.cell (p:=⟨w.heap.size+1,0,none⟩) lty).trans KY0.out
        have ky1:=(HR.out.base.cell (p:=⟨w.heap.size+1,1,none⟩) lty).trans KY1.out
        have ky2:=(HR.out.base.cell (p:=⟨w.heap.size+1,2,none⟩) lty).trans KY2.out
        skip)
      |
       (go_at_call 217
        apply Calls.mono
        apply NBag.mul (w0:=wA)
        (focus(first|exact HR.out|exact HR.out.drew|exact HR.out.drew.drew))
        (focus(repeat(first|exact List.Mem.head _|apply List.Mem.tail)))
        (focus(repeat(first|exact List.Mem.head _|apply List.Mem.tail)))
        omega
        rintro e wn ⟨an,nn,cn,rfl,hb⟩
        clear HR
        have HR:=Hi hb
        clear hb
        have kx0:=(HR.out.base.cell (p:=⟨w.heap.size,0,none⟩) ltx).trans KX0.out
        have kx1:=(HR.out.base.cell (p:=⟨w.heap.size,1,none⟩) ltx).trans KX1.out
        have kx2:=(HR.out.base.cell (p:=⟨w.heap.size,2,none⟩) ltx).trans KX2.out
        have ky0:=(HR.out.base.cell (p:=⟨w.heap.size+1,0,none⟩) lty).trans KY0.out
        have ky1:=(HR.out.base.cell (p:=⟨w.heap.size+1,1,none⟩) lty).trans KY1.out
        have ky2:=(HR.out.base.cell (p:=⟨w.heap.size+1,2,none⟩) lty).trans KY2.out
        skip)
      )
   go_wp2_with fail
   go_region_held3
    (fun w'=>w'.cell? ⟨w.heap.size,0,none⟩=some (.bool nx)∧w'.cell? ⟨w.heap.size,1,none⟩=some (.slice ax lx cx)∧w'.cell? ⟨w.heap.size,2,none⟩=some (.slice bx mx dx)∧w'.cell? ⟨w.heap.size+1,0,none⟩=some (.bool ny)∧w'.cell? ⟨w.heap.size+1,1,none⟩=some (.slice ay ly cy)∧w'.cell? ⟨w.heap.size+1,2,none⟩=some (.slice b2 my dy)) ((first|(simp [*];done)|go_keep))
    (first
      |
       (go_at_call 214
        apply Calls.mono
        apply NBag.gcd (w0:=wA)
        (focus(first|exact HR.out|exact HR.out.drew|exact HR.out.drew.drew))
        (focus(repeat(first|exact List.Mem.head _|apply List.Mem.tail)))
        (focus(repeat(first|exact List.Mem.head _|apply List.Mem.tail)))
        omega
        rintro e wn ⟨an,nn,cn,rfl,hb⟩
        clear HR
        have HR:=Hi hb
        clear hb
        have kx0:=(HR.out.base.cell (p:=⟨w.heap.size,0,none⟩) ltx).trans KX0.out
        have kx1:=(HR.out.base.cell (p:=⟨w.heap.size,1,none⟩) ltx).trans KX1.out
        have kx2:=(HR.out.base.cell (p:=⟨w.heap.size,2,none⟩) ltx).trans KX2.out
        have ky0:=(HR.out.base.cell (p:=⟨w.heap.size+1,0,none⟩) lty).trans KY0.out
        have ky1:=(HR.out.base.cell (p:=⟨w.heap.size+1,1,none⟩) lty).trans KY1.out
        have ky2:=(HR.out.base.cell (p:=⟨w.heap.size+1,2,none⟩) lty).trans KY2.out
        skip)
      |
       (go_at_call 215
        apply Calls.mono
        apply NBag.quot (w0:=wA)
        (focus(first|exact HR.out|exact HR.out.drew|exact HR.out.drew.drew))
        (focus(repeat(first|exact List.Mem.head _|apply List.Mem.tail)))
        (focus(repeat(first|exact List.Mem.head _|apply List.Mem.tail)))
        omega
        (focus(first|exact HG0.out|exact HH0.out))
        rintro e wn ⟨an,nn,cn,rfl,hb⟩
        clear HR
        have HR:=Hi hb
        clear hb
        have kx0:=(HR.out.base.cell (p:=⟨w.heap.size,0,none⟩) ltx).trans KX0.out
        have kx1:=(HR.out.base.cell (p:=⟨w.heap.size,1,none⟩) ltx).trans KX1.out
        have kx2:=(HR.out.base.cell (p:=⟨w.heap.size,2,none⟩) ltx).trans KX2.out
        have ky0:=(HR.out.base.cell (p:=⟨w.heap.size+1,0,none⟩) lty).trans KY0.out
        have ky1:=(HR.out.base.cell (p:=⟨w.heap.size+1,1,none⟩) lty).trans KY1.out
        have ky2:=(HR.out.base.cell (p:=⟨w.heap.size+1,2,none⟩) lty).trans KY2.out
        skip)
      |
       (go_at_call 217
        apply Calls.mono
        apply NBag.mul (w0:=wA)
        (focus(first|exact HR.out|exact HR.out.drew|exact HR.out.drew.drew))
        (focus(repeat(first|exact List.Mem.head _|apply List.Mem.tail)))
        (focus(repeat(first|exact List.Mem.head _|apply List.Mem.tail)))
        omega
        rintro e wn ⟨an,nn,cn,rfl,hb⟩
        clear HR
        have HR:=Hi hb
        clear hb
        have kx0:=(HR.out.base.cell (p:=⟨w.heap.size,0,none⟩) ltx).trans KX0.out
        have kx1:=(HR.out.base.cell (p:=⟨w.heap.size,1,none⟩) ltx).trans KX1.out
        have kx2:=(HR.out.base.cell (p:=⟨w.heap.size,2,none⟩) ltx).trans KX2.out
        have ky0:=(HR.out.base.cell (p:=⟨w.heap.size+1,0,none⟩) lty).trans KY0.out
        have ky1:=(HR.out.base.cell (p:=⟨w.heap.size+1,1,none⟩) lty).trans KY1.out
        have ky2:=(HR.out.base.cell (p:=⟨w.heap.size+1,2,none⟩) lty).trans KY2.out
        skip)
      )
   go_wp2_with
    (first
      |
       (go_at_call 214
        apply Calls.mono
        apply NBag.gcd (w0:=wA)
        (focus(first|exact HR.out|exact HR.out.drew|exact HR.out.drew.drew))
        (focus(repeat(first|exact List.Mem.head _|apply List.Mem.tail)))
        (focus(repeat(first|exact List.Mem.head _|apply List.Mem.tail)))
        omega
        rintro e wn ⟨an,nn,cn,rfl,hb⟩
        clear HR
        have HR:=Hi hb
        clear hb
        have kx0:=(HR.out.base.cell (p:=⟨w.heap.size,0,none⟩) ltx).trans KX0.out
        have kx1:=(HR.out.base.cell (p:=⟨w.heap.size,1,none⟩) ltx).trans KX1.out
        have kx2:=(HR.out.base.cell (p:=⟨w.heap.size,2,none⟩) ltx).trans KX2.out
        have ky0:=(HR.out.base.cell (p:=⟨w.heap.size+1,0,none⟩) lty).trans KY0.out
        have ky1:=(HR.out.base.cell (p:=⟨w.heap.size+1,1,none⟩) lty).trans KY1.out
        have ky2:=(HR.out.base.cell (p:=⟨w.heap.size+1,2,none⟩) lty).trans KY2.out
        skip)
      |
       (go_at_call 215
        apply Calls.mono
        apply NBag.quot (w0:=wA)
        (focus(first|exact HR.out|exact HR.out.drew|exact HR.out.drew.drew))
        (focus(repeat(first|exact List.Mem.head _|apply List.Mem.tail)))
        (focus(repeat(first|exact List.Mem.head _|apply List.Mem.tail)))
        omega
        (focus(first|exact HG0.out|exact HH0.out))
        rintro e wn ⟨an,nn,cn,rfl,hb⟩
        clear HR
        have HR:=Hi hb
        clear hb
        have kx0:=(HR.out.base.cell (p:=⟨w.heap.size,0,none⟩) ltx).trans KX0.out
        have kx1:=(HR.out.base.cell (p:=⟨w.heap.size,1,none⟩) ltx).trans KX1.out
        have kx2:=(HR.out.base.cell (p:=⟨w.heap.size,2,none⟩) ltx).trans KX2.out
        have ky0:=(HR.out.base.cell (p:=⟨w.heap.size+1,0,none⟩) lty).trans KY0.out
        have ky1:=(HR.out.base.cell (p:=⟨w.heap.size+1,1,none⟩) lty).trans KY1.out
        have ky2:=(HR.out.base.cell (p:=⟨w.heap.size+1,2,none⟩) lty).trans KY2.out
        skip)
      |
       (go_at_call 217
        apply Calls.mono
        apply NBag.mul (w0:=wA)
        (focus(first|exact HR.out|exact HR.out.drew|exact HR.out.drew.drew))
        (focus(repeat(first|exact List.Mem.head _|apply List.Mem.tail)))
        (focus(repeat(first|exact List.Mem.head _|apply List.Mem.tail)))
        omega
        rintro e wn ⟨an,nn,cn,rfl,hb⟩
        clear HR
        have HR:=Hi hb
        clear hb
        have kx0:=(HR.out.base.cell (p:=⟨w.heap.size,0,none⟩) ltx).trans KX0.out
        have kx1:=(HR.out.base.cell (p:=⟨w.heap.size,1,none⟩) ltx).trans KX1.out
        have kx2:=(HR.out.base.cell (p:=⟨w.heap.size,2,none⟩) ltx).trans KX2.out
        have ky0:=(HR.out.base.cell (p:=⟨w.heap.size+1,0,none⟩) lty).trans KY0.out
        have ky1:=(HR.out.base.cell (p:=⟨w.heap.size+1,1,none⟩) lty).trans KY1.out
        have ky2:=(HR.out.base.cell (p:=⟨w.heap.size+1,2,none⟩) lty).trans KY2.out
        skip)
      )
   have HS':=Hi (HS.out.below HR.out.base HS.out.lt)
   have HBP':=Hi (HBP.out.trans (HR.out.base.mono HBP.out.size))
   clear HS HBP
   have HS:=HS'
   have HBP:=HBP'
   clear HS' HBP'
   apply Calls.mono
   apply NBag.built (w0:=wA) HR.out
   (focus(repeat(first|exact List.Mem.head _|apply List.Mem.tail)))
   (focus(repeat(first|exact List.Mem.head _|apply List.Mem.tail)))
   (focus(exact HK0.out))
   (focus(exact HCP.out))
   rw[HE.out]
   rintro e w9 ⟨⟨v9,rfl,hv⟩,hb⟩
   obtain⟨neg9,a9,n9,c9,b9,m9,d9,rfl,hv⟩:=hv
   have hs:=HS.out.below hb HS.out.lt
   have k0:=hs.cell 0
   have k1:=hs.cell 1
   have k2:=hs.cell 2
   have f0:=hs.free 0
   have f1:=hs.free 1
   have f2:=hs.free 2
   simp[zeroFrac] at k0 k1 k2
   have HV:=Hi hv
   have HS9:=Hi hs
   have HB9:=Hi (HBP.out.trans (hb.mono HBP.out.size))
   clear hv hs hb
   go_wp2
   refine bodyPost_ret (v:=.agg #[.bool neg9,.slice a9 n9 c9,.slice b9 m9 d9]) (results_cell_row rfl _ _ (w.heap.size+1+1) 128 #[.bool neg9,.slice a9 n9 c9,.slice b9 m9 d9] (0,0) _ rfl (((HS9.out.set 0 _).set 1 _).set 2 _) Tryz.underlying128 rfl Tryz.fracInfo) rfl ?_
   have ho:=(((Only.refl (w.heap.size+1+1) w9).setCell 0 (.bool neg9)).setCell 1 (.slice a9 n9 c9)).setCell 2 (.slice b9 m9 d9)
   exact⟨⟨_,rfl,neg9,a9,n9,c9,b9,m9,d9,rfl,HV.out.only ho HS9.out Qa9⟩,Only.fresh HB9.out ho (by omega)⟩
end Go.Proofs.YtgnmjaponiclhaaGreatDoor
