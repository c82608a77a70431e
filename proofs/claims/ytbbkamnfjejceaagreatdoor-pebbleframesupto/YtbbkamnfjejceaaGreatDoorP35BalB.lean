/- package balance: rows of fractions that lie in blocks of their own. -/
import Derived.Test.YtbbkamnfjejceaaGreatDoorP34BalA
import Derived.Test.YtbbkamnfjejceaaGreatDoorP31OrdersD
namespace Go.Proofs.YtbbkamnfjejceaaGreatDoor
open Go.RowKit
set_option linter.unusedVariables false
set_option linter.unusedSimpArgs false
def slRow(W g:Nat):Value:=.slice (some ⟨g,0,none⟩) W W
theorem QBlk.other{u u':World}{g g':Nat}{ts us:List FE}(h:QBlk u g ts)(h':QBlk u g' us)(ho:Only g' u u')(hne:g≠g'):QBlk u' g ts:=
 ⟨h.blk.only ho hne,fun t ht=>⟨(h.ts t ht).1.only ho h'.blk h'.no64,(h.ts t ht).2⟩⟩
def updM(M:Nat→Nat→Rat)(r c:Nat)(q:Rat):Nat→Nat→Rat:=fun r' c'=>if r'=r∧c'=c then q else M r' c'
structure GM (w u:World) (B G W K:Nat) (gs:List Nat) (M:Nat→Nat→Rat):Prop where
 base:Below w.heap.size w u
 out:SB u G 167 (gs.map (slRow W)).toArray
 row:∀(r g:Nat),gs[r]?=some g→∃us,QBlk u g us∧us.length=W∧∀(c:Nat) (t:FE),us[c]?=some t→t.q=M r c∧t.k≤K
 nd:∀(r r' g:Nat),gs[r]?=some g→gs[r']?=some g→r=r'
 ne:∀(r g:Nat),gs[r]?=some g→g≠G
 lo:B≤G
 los:∀(r g:Nat),gs[r]?=some g→B≤g
structure BM (w u:World) (F:Array Value) (G W K:Nat) (gs:List Nat) (M:Nat→Nat→Rat):Prop extends GM w u (w.heap.size+1) G W K gs M where
 box:SB u w.heap.size 54 F
section
variable {w u:World} {F:Array Value} {B G W K:Nat} {gs:List Nat} {M:Nat→Nat→Rat}
theorem GM.below{u':World}(h:GM w u B G W K gs M)(hb:Below u.heap.size u u'):GM w u' B G W K gs M:=by
 refine⟨h.base.trans (hb.mono h.base.size),h.out.below hb h.out.lt,fun r g hr=>?_,h.nd,h.ne,h.lo,h.los⟩;obtain⟨us,h1,h2⟩:=h.row r g hr;exact⟨us,h1.below hb,h2⟩
theorem BM.below{u':World}(h:BM w u F G W K gs M)(hb:Below u.heap.size u u'):BM w u' F G W K gs M:=⟨h.toGM.below hb,h.box.below hb h.box.lt⟩
theorem GM.congr{M':Nat→Nat→Rat}(h:GM w u B G W K gs M)(he:∀r c,M r c=M' r c):GM w u B G W K gs M':=by
 have:M=M':=funext fun r=>funext fun c=>he r c
 rw[←this];exact h
theorem BM.congr{M':Nat→Nat→Rat}(h:BM w u F G W K gs M)(he:∀r c,M r c=M' r c):BM w u F G W K gs M':=⟨h.toGM.congr he,h.box⟩
theorem GM.cell{r g:Nat}(h:GM w u B G W K gs M)(hr:gs[r]?=some g):u.cell? ⟨G,r,none⟩=some (.slice (some ⟨g,0,none⟩) W W):=by
 rw[h.out.cell];simp[hr,slRow]
theorem GM.lt{r g:Nat}(h:GM w u B G W K gs M)(hr:gs[r]?=some g):g<u.heap.size:=by
 obtain⟨us,h1,_⟩:=h.row r g hr;exact h1.blk.lt
theorem GM.at{r g c:Nat}(h:GM w u B G W K gs M)(hr:gs[r]?=some g)(hc:c<W):∃x y z,u.cell? ⟨g,c*3,none⟩=some x∧u.cell? ⟨g,c*3+1,none⟩=some y∧u.cell? ⟨g,c*3+2,none⟩=some z∧u.frozen? ⟨g,c*3,none⟩=false∧u.frozen? ⟨g,c*3+1,none⟩=false∧u.frozen? ⟨g,c*3+2,none⟩=false:=by
 obtain⟨us,h1,h2,_⟩:=h.row r g hr;obtain⟨t,ht⟩:∃t,us[c]?=some t:=⟨us[c]'(by omega),List.getElem?_eq_getElem (by omega)⟩;obtain⟨b,o,e,_,d0,d1,d2⟩:=h1.row.at ht;cases e;simp only[Nat.zero_add] at d0 d1 d2;exact⟨_,_,_,d0,d1,d2,h1.blk.free _,h1.blk.free _,h1.blk.free _⟩
abbrev set3(u:World)(g c:Nat)(x y z:Value):World:=((u.setCell ⟨g,c*3,none⟩ x).setCell ⟨g,c*3+1,none⟩ y).setCell ⟨g,c*3+2,none⟩ z
theorem Qb6(u:World)(g c:Nat)(x y z:Value):Only g u (set3 u g c x y z):=(((Only.refl g u).setCell _ _).setCell _ _).setCell _ _
theorem GM.keepV{r g c:Nat}{x y z v:Value}{q:Rat}(h:GM w u B G W K gs M)(hr:gs[r]?=some g)(hv:FracV u v q):FracV (set3 u g c x y z) v q:=by
 obtain⟨us,h1,_⟩:=h.row r g hr;exact hv.only (Qb6 u g c x y z) h1.blk h1.no64
theorem keep3{g b c:Nat}{x y z:Value}{t:TypeId}{C:Array Value}(hs:SB u b t C)(hne:b≠g):SB (set3 u g c x y z) b t C:=hs.only (Qb6 u g c x y z) hne
theorem GM.put{r g c:Nat}{x y z:Value}{q:Rat}(h:GM w u B G W K gs M)(hB:w.heap.size≤B)(hr:gs[r]?=some g)(hc:c<W)(hv:FracV u (.agg #[x,y,z]) q)(hf:Fits q K)(hK:0<K):GM w (set3 u g c x y z) B G W K gs (updM M r c q):=by
 obtain⟨us,h1,h2,h3⟩:=h.row r g hr;have ho:=Qb6 u g c x y z;have hlo:=h.los r g hr;refine⟨h.base.trans (ho.below (Nat.le_trans hB hlo) h.base.size),h.out.only ho (fun e=>h.ne r g hr e.symm),fun r' g' hr'=>?_,h.nd,h.ne,h.lo,h.los⟩;by_cases e:r'=r
 ·
  subst e;obtain rfl:g=g':=Option.some.inj (hr.symm.trans hr');refine⟨us.set c ⟨x,y,z,q,K⟩,Qeq h1 (by omega) hv hf hK,by rw[List.length_set];exact h2,fun c' t ht=>?_⟩;by_cases ec:c'=c
  ·
   subst ec;rw[List.getElem?_set_self (by omega)] at ht;obtain rfl:=Option.some.inj ht;exact⟨by simp[updM],Nat.le_refl _⟩
  ·
   rw[List.getElem?_set_ne (fun e=>ec e.symm)] at ht;obtain⟨h4,h5⟩:=h3 c' t ht;exact⟨by rw[h4];simp[updM,ec],h5⟩
 ·
  obtain⟨us',h1',h2',h3'⟩:=h.row r' g' hr';have hne:g'≠g:=fun eg=>e (h.nd r' r g' hr' (by rw[eg];exact hr))
  refine⟨us',h1'.other h1 ho hne,h2',fun c' t ht=>?_⟩;obtain⟨h4,h5⟩:=h3' c' t ht;exact⟨by rw[h4];simp[updM,e],h5⟩
theorem BM.put{r g c:Nat}{x y z:Value}{q:Rat}(h:BM w u F G W K gs M)(hr:gs[r]?=some g)(hc:c<W)(hv:FracV u (.agg #[x,y,z]) q)(hf:Fits q K)(hK:0<K):BM w (set3 u g c x y z) F G W K gs (updM M r c q):=
 ⟨h.toGM.put (Nat.le_succ _) hr hc hv hf hK,h.box.only (Qb6 u g c x y z) (by have:=h.los r g hr;omega)⟩
end
def BlankSays(n m:Nat)(w:World)(e:Ending)(w':World):Prop:=(∃(G:Nat) (gs:List Nat),e=.returned (.slice (some ⟨G,0,none⟩) n n)∧gs.length=n∧w.heap.size≤G∧SB w' G 167 (gs.map (slRow m)).toArray∧(∀(r g:Nat),gs[r]?=some g→QBlk w' g (List.replicate m FE.zero)∧G<g)∧(∀(r r' g:Nat),gs[r]?=some g→gs[r']?=some g→r=r'))∧Below w.heap.size w w'
theorem QBlk.zeroOnly{u u':World}{g g' m:Nat}(h:QBlk u g (List.replicate m FE.zero))(ho:Only g' u u')(hne:g≠g'):QBlk u' g (List.replicate m FE.zero):=by
 refine⟨h.blk.only ho hne,fun t ht=>?_⟩;obtain⟨_,rfl⟩:=List.mem_replicate.1 ht;exact⟨FracV.zero _,Fits.zero,by decide⟩
theorem Qis(m n k g:Nat)(gs:List Nat)(hk:k<n)(hl:gs.length=k):((gs.map (slRow m)++List.replicate (n - k) (Value.slice none 0 0)).set k (slRow m g))=(gs++ [g]).map (slRow m)++List.replicate (n - (k+1)) (Value.slice none 0 0):=by
 rw[show n - k=(n - (k+1))+1 by omega,List.replicate_succ,List.set_append_right _ _ (by rw[List.length_map];omega),List.length_map,hl,Nat.sub_self,List.set_cons_zero];simp
set_option maxRecDepth 100000 in
set_option maxHeartbeats 4000000 in
theorem Qit(n m:Nat)(w:World)(hn:n≤1000)(hm:m≤1000):
 Calls Tryz.prog 133 #[.int .i64 n,.int .i64 m] w (BlankSays n m w):=by
 have hmk:=fun w=>Qh5 n (by omega) w
 have hmr:=fun w=>Qb2 m (by omega) w
 obtain⟨MC,hMC⟩:∃MC,((List.replicate n MR.none).flatMap MR.cells).toArray=MC:=⟨_,rfl⟩;obtain⟨MD,hMD⟩:∃MD,((List.replicate m FE.zero).flatMap FE.cells).toArray=MD:=⟨_,rfl⟩;rw[hMC] at hmk;rw[hMD] at hmr;have HMC:Hid (MC=(List.replicate n (Value.slice none 0 0)).toArray):=Hi (by
  rw[←hMC]
  congr 1
  clear hMC hmk hn
  induction n with
  |zero=>rfl
  |succ n ih=>rw[List.replicate_succ,List.flatMap_cons,ih,List.replicate_succ];rfl)
 have HMD:=Hi hMD.symm;clear hMC hMD;go_enter Tryz.func133,Tryz.ntmps133;go_wp2_with fail;clear hmk;obtain⟨G,hG⟩:∃G,w.heap.size=G:=⟨_,rfl⟩;obtain⟨V0,hV0⟩:∃V0,w.alloc (.cells MC 167)=V0:=⟨_,rfl⟩;have HB0:Hid (Below w.heap.size w V0):=Hi (by rw[←hV0];exact(Below.refl _ _).alloc (Nat.le_refl _) _);have HS0:Hid (SB V0 G 167 (([]:List Nat).map (slRow m)++List.replicate (n - 0) (Value.slice none 0 0)).toArray):=Hi (by
  rw[←hV0,←hG];have:=SB.new w 167 MC;rw[HMC.out] at this ⊢
  exact this)
 try rw[hV0]
 try rw[hG]
 rw[hG] at HB0;have HGE:=Hi hG;clear hV0 hG;go_loopw [10] (fun i wr=>∃(k:Nat) (gs:List Nat),k≤n∧i=.int .i64 k∧gs.length=k∧SB wr G 167 (gs.map (slRow m)++List.replicate (n - k) (Value.slice none 0 0)).toArray∧(∀(r g:Nat),gs[r]?=some g→QBlk wr g (List.replicate m FE.zero)∧G<g)∧(∀(r r' g:Nat),gs[r]?=some g→gs[r']?=some g→r=r')∧Below G w wr) (fun i _=>n - (intOf i).toNat)
 case atStart=>exact⟨0,[],by omega,rfl,rfl,HS0.out,fun r g h=>by simp at h,fun r r' g h=>by simp at h,HB0.out⟩
 case round=>
  obtain⟨k,gs,hk,rfl,hgl,hsb,hall,hnd,hb⟩:=hrel;have HB:=Hi hb;have HS:=Hi hsb;have HA:=Hi hall;have HN:=Hi hnd;have HL:=Hi hgl;have hglt:=hsb.lt;clear hb hsb hall hnd;by_cases hlt:k<n
  ·
   obtain⟨V,hV⟩:∃V,wr.alloc (.cells MD 77)=V:=⟨_,rfl⟩;have HBV:Hid (Below wr.heap.size wr V):=Hi (by rw[←hV];exact(Below.refl _ _).alloc (Nat.le_refl _) _);have HQ:Hid (QBlk V wr.heap.size (List.replicate m FE.zero)):=Hi (by rw[←hV];exact QBlk.new wr m MD HMD.out);have hsV:=HS.out.below HBV.out HS.out.lt;have f0:=hsV.free k;have t0:V.cell? ⟨G,k,none⟩=some (.slice none 0 0):=by
    rw[hsV.cell];have e:(gs.map (slRow m)++List.replicate (n - k) (Value.slice none 0 0)).toArray[k]?=(gs.map (slRow m)++List.replicate (n - k) (Value.slice none 0 0))[k]?:=by simp
    rw[e,List.getElem?_append_right (by rw[List.length_map];omega),List.length_map,hgl,Nat.sub_self,List.getElem?_replicate,if_pos (by omega)]
   have HSV:=Hi hsV;have q1:((k:Int)<(n:Int)):=by omega
   rw[←hV] at f0 t0;have HV:=Hi hV;clear hV hsV hgl;go_wp2_with fail;have e0:(wr.setCell ⟨G,k,none⟩ (.slice (some ⟨wr.heap.size,0,none⟩) m m)).alloc (.cells MD 77)=V.setCell ⟨G,k,none⟩ (.slice (some ⟨wr.heap.size,0,none⟩) m m):=by
    rw[←HV.out];exact(World.setCell_alloc_past _ _ _ _ hglt).symm
   rw[e0];have ho:Only G V (V.setCell ⟨G,k,none⟩ (.slice (some ⟨wr.heap.size,0,none⟩) m m)):=(Only.refl G V).setCell _ _;have hold:∀(r g:Nat),gs[r]?=some g→g<wr.heap.size:=fun r g hr=>(HA.out r g hr).1.blk.lt
   refine⟨⟨k+1,gs++ [wr.heap.size],by omega,by go_num,by rw[List.length_append];have:=HL.out;simp;omega,?_,?_,?_,((HB.out.trans (HBV.out.mono (Nat.le_of_lt hglt))).setCell (p:=⟨G,k,none⟩) (Nat.le_refl _) _)⟩,?_⟩
   ·
    have h1:=HSV.out.set k (.slice (some ⟨wr.heap.size,0,none⟩) m m);rw[List.setIfInBounds_toArray] at h1;rw[←Qis m n k wr.heap.size gs hlt HL.out];exact h1
   ·
    intro r g hr;rcases Nat.lt_or_ge r gs.length with h|h
    ·
     rw[List.getElem?_append_left h] at hr;obtain⟨h1,h2⟩:=HA.out r g hr;exact⟨(h1.below HBV.out).zeroOnly ho (by omega),h2⟩
    ·
     rw[List.getElem?_append_right h] at hr;have e1:g=wr.heap.size:=by simpa using List.mem_of_getElem? hr
     rw[e1];exact⟨HQ.out.zeroOnly ho (by omega),hglt⟩
   ·
    intro r r' g hr hr';rcases Nat.lt_or_ge r gs.length with h|h<;>rcases Nat.lt_or_ge r' gs.length with h'|h'
    ·
     rw[List.getElem?_append_left h] at hr;rw[List.getElem?_append_left h'] at hr';exact HN.out r r' g hr hr'
    ·
     rw[List.getElem?_append_left h] at hr;rw[List.getElem?_append_right h'] at hr';have e1:g=wr.heap.size:=by simpa using List.mem_of_getElem? hr'
     have:=hold r g hr;omega
    ·
     rw[List.getElem?_append_right h] at hr;rw[List.getElem?_append_left h'] at hr';have e1:g=wr.heap.size:=by simpa using List.mem_of_getElem? hr
     have:=hold r' g hr';omega
    ·
     have h1:=(List.getElem?_eq_some_iff.1 hr).1;have h2:=(List.getElem?_eq_some_iff.1 hr').1;rw[List.length_append] at h1 h2;simp at h1 h2;omega
   · simp[intOf]
     omega
  ·
   have hk':k=n:=by omega
   subst hk';go_wp2;go_ret;refine⟨⟨G,gs,rfl,HL.out,Nat.le_of_eq HGE.out,?_,HA.out,HN.out⟩,by rw[HGE.out];exact HB.out⟩;have h1:=HS.out;rw[Nat.sub_self] at h1
   simpa using h1
end Go.Proofs.YtbbkamnfjejceaaGreatDoor
