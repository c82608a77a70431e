/- package still: stressOf. -/
import Derived.Test.YtjhdfkcdigmfhaaGreatDoorC30Minors
namespace Go.Proofs.YtjhdfkcdigmfhaaGreatDoor
open Go.RowKit
set_option linter.unusedVariables false
set_option linter.unusedSimpArgs false
def gb:Nat→Nat→Nat
 |k,0=>k
 |k,c+1=>4*gb k c+1
theorem Qk6{k:Nat}(h:0<k):∀c,0<gb k c
 |0=>h
 |c+1=>by simp only[gb];omega
theorem Qbs(k c:Nat):gb k c≤gb k (c+1):=by simp only[gb];omega
theorem Qga(k:Nat){c d:Nat}(h:c≤d):gb k c≤gb k d:=by
 induction d with
 |zero=>have:c=0:=by omega
        subst this
        exact Nat.le_refl _
 |succ d ih=>
  rcases Nat.lt_or_ge d c with h1|h1
  ·
   have:c=d+1:=by omega
   subst this
   exact Nat.le_refl _
  · exact Nat.le_trans (ih h1) (Qbs k d)
def Short(k:Nat)(r:Vec):Prop:=∀i,Fits (r i) k
theorem Short.mono{k j:Nat}{r:Vec}(h:Short k r)(hk:k≤j):Short j r:=fun i=>(h i).mono hk
theorem Short.less{k c:Nat}{r s:Vec}(hk:0<k)(h:Short k r)(h':Short k s):Short (4*k+1) (lessBy c s r):=fun i=>by
 unfold lessBy
 have h1:=(h i).sub ((h' i).mul ((h c).div (h' c) hk hk) hk)
 exact h1.mono (by omega)
def NI(W n k:Nat)(M:List Vec)(c:Nat)(L S:List Vec)(hs:List Nat):Prop:=
 (∀r,r∈ L→∀i,W≤i→r i=0)∧
 ((c≤W∧Elim W M c L S hs∧(∀r,r∈ L→Short (gb k c) r)∧(∀r,r∈ S→Short (gb k c) r)∧L.length+S.length=n)∨(W<c∧∀r,r∈ L→∀i,r i=0))
theorem NI.start(W k:Nat)(M:List Vec)(hM:∀r,r∈ M→∀i,W≤i→r i=0)(hs:∀r,r∈ M→Short k r):NI W M.length k M 0 M [] []:=
 ⟨hM,.inl ⟨Nat.zero_le _,Elim.start W M,hs,(fun r hr=>by cases hr),rfl⟩⟩
theorem NI.going(W n k K:Nat)(M:List Vec)(hk:0<k)(hK:gb k W≤K)(hK0:0<K):Going K (NI W n k M) where
 fit:=fun {c L S hs} h r hr i=>by
  rcases h.2 with ⟨h1,_,h3,_⟩|⟨_,h3⟩
  · exact(h3 r hr i).mono (Nat.le_trans (Qga k h1) hK)
  · rw[h3 r hr i]
    exact Fits.zero.mono hK0
 skip:=fun {c L S hs} h h0=>by
  refine⟨h.1,?_⟩
  rcases h.2 with ⟨h1,h2,h3,h4,h5⟩|⟨h1,h3⟩
  ·
   rcases Nat.lt_or_ge c W with hc|hc
   · exact .inl ⟨hc,h2.skip h0,fun r hr=>(h3 r hr).mono (Qbs k c),fun r hr=>(h4 r hr).mono (Qbs k c),h5⟩
   ·
    have e:c=W:=by omega
    subst e
    refine .inr ⟨Nat.lt_succ_self _,fun r hr i=>?_⟩
    rcases Nat.lt_or_ge i c with hi|hi
    · exact h2.zero r hr i hi
    · exact h.1 r hr i hi
  · exact .inr ⟨by omega,h3⟩
 step:=fun {c j L S hs s} h hj h0=>by
  have hs':s∈ L:=List.mem_of_getElem? hj
  have hjl:j<L.length:=(List.getElem?_eq_some_iff.1 hj).1
  refine⟨fun r hr i hi=>?_,?_⟩
  ·
   obtain⟨t,ht,rfl⟩:=List.mem_map.1 hr
   unfold lessBy
   rw[h.1 t (List.mem_of_mem_eraseIdx ht) i hi,h.1 s hs' i hi]
   exact Qib _
  ·
   rcases h.2 with ⟨h1,h2,h3,h4,h5⟩|⟨h1,h3⟩
   ·
    rcases Nat.lt_or_ge c W with hc|hc
    ·
     refine .inl ⟨hc,h2.step hj h0,fun r hr=>?_,fun r hr=>?_,?_⟩
     · obtain⟨t,ht,rfl⟩:=List.mem_map.1 hr
       exact Short.less (Qk6 hk c) (h3 t (List.mem_of_mem_eraseIdx ht)) (h3 s hs')
     ·
      rcases List.mem_append.1 hr with hr|hr
      · exact(h4 r hr).mono (Qbs k c)
      · obtain rfl:r=s:=by simpa using hr
        exact(h3 r hs').mono (Qbs k c)
     ·
      rw[List.length_map,List.length_eraseIdx,if_pos hjl,List.length_append]
      simp
      omega
    · exact absurd (h.1 s hs' c hc) h0
   · exact absurd (h3 s hs' c) h0
theorem NI.done{W n k:Nat}{M L S:List Vec}{hs:List Nat}(h:NI W n k M W L S hs):Ech 0 W S hs∧(∀x,Null W M x↔Null W S x)∧(∀r,r∈ S→Short (gb k W) r)∧S.length≤n:=by
 rcases h.2 with ⟨_,h2,_,h4,h5⟩|⟨h1,_⟩
 · obtain⟨e1,e2⟩:=h2.done
   exact⟨e1,e2,h4,by omega⟩
 · omega
def cb(k:Nat):Nat→Nat
 |0=>1
 |m+1=>2 ^ m*(2*k+cb k m+1)
theorem Qgb{K:Nat}:∀{T:List Vec} {hs:List Nat} {B j:Nat} {r:Vec},0<B→0<j→(∀t,t∈ T→Short B t)→Short j r→2 ^ T.length*j+(2 ^ T.length - 1)*(B+1)≤K→redFits K r T hs∧Short (2 ^ T.length*j+(2 ^ T.length - 1)*(B+1)) (red r T hs)
 | [],hs,B,j,r,_,_,_,hr,hK=>by
   simp only[List.length_nil,Nat.pow_zero,Nat.one_mul,Nat.sub_self,Nat.zero_mul,Nat.add_zero] at hK ⊢
   refine⟨?_,by simpa [red] using hr⟩
   unfold redFits
   exact fun i=>(hr i).mono hK
 |t :: T,[],B,j,r,_,_,_,hr,hK=>by
  have h1:1≤2 ^ (t :: T).length:=Nat.one_le_two_pow
  have h2:j≤2 ^ (t :: T).length*j:=Nat.le_mul_of_pos_left j h1
  refine⟨?_,?_⟩
  · unfold redFits
    exact fun i=>(hr i).mono (by omega)
  · simp only[red]
    exact hr.mono (by omega)
 |t :: T,h :: hs,B,j,r,hB,hj,hT,hr,hK=>by
  have ht:=hT t List.mem_cons_self
  have h1:Short (2*j+B+1) (fun i=>r i - t i*r h):=fun i=>((hr i).sub ((ht i).mul (hr h) hB)).mono (by omega)
  have e:2 ^ (t :: T).length*j+(2 ^ (t :: T).length - 1)*(B+1)=2 ^ T.length*(2*j+B+1)+(2 ^ T.length - 1)*(B+1):=by
   have h2:1≤2 ^ T.length:=Nat.one_le_two_pow
   obtain⟨p,hp⟩:∃p,2 ^ T.length=p+1:=⟨2 ^ T.length - 1,by omega⟩
   simp only[List.length_cons,Nat.pow_succ,hp]
   have e1:(p+1)*2 - 1=2*p+1:=by omega
   have e2:p+1 - 1=p:=by omega
   rw[e1,e2]
   grind
  rw[e] at hK ⊢
  obtain⟨k1,k2⟩:=Qgb (K:=K) (T:=T) (hs:=hs) hB (by omega) (fun t ht=>hT t (List.mem_cons_of_mem _ ht)) h1 hK
  refine⟨⟨fun i=>(hr i).mono ?_,k1⟩,k2⟩
  have h2:1≤2 ^ T.length:=Nat.one_le_two_pow
  have h3:2*j+B+1≤2 ^ T.length*(2*j+B+1):=Nat.le_mul_of_pos_left _ h2
  omega
theorem Qk7(k:Nat):∀m,0<cb k m
 |0=>Nat.one_pos
 |m+1=>Nat.mul_pos (Nat.pow_pos (by decide)) (by omega)
theorem Qgc(k m:Nat):cb k m≤cb k (m+1):=by
 have h:2*k+cb k m+1≤2 ^ m*(2*k+cb k m+1):=Nat.le_mul_of_pos_left _ Nat.one_le_two_pow
 simp only[cb]
 omega
theorem Qgd{k K:Nat}(hk:0<k):∀{S:List Vec} {hs:List Nat},S.length=hs.length→(∀r,r∈ S→Short k r)→cb k S.length≤K→clnFits K S hs∧∀r,r∈ cln S hs→Short (cb k S.length) r
 | [],[],_,_,_=>⟨trivial,fun r hr=>by cases hr⟩
 |r :: S,h :: hs,hl,hS,hK=>by
  have hl':S.length=hs.length:=by simpa using hl
  have hb:=Qgc k S.length
  obtain⟨k1,k2⟩:=Qgd (K:=K) hk hl' (fun x hx=>hS x (List.mem_cons_of_mem _ hx)) (Nat.le_trans hb hK)
  have hr:=hS r List.mem_cons_self
  have h1:Short (2*k) (fun i=>r i / r h):=fun i=>((hr i).div (hr h) hk hk).mono (by omega)
  have hlen:=Qdp S hs hl'
  have h2:2 ^ (cln S hs).length*(2*k)+(2 ^ (cln S hs).length - 1)*(cb k S.length+1)≤cb k (S.length+1):=by
   rw[hlen]
   simp only[cb]
   have h3:(2 ^ S.length - 1)*(cb k S.length+1)≤2 ^ S.length*(cb k S.length+1):=Nat.mul_le_mul_right _ (Nat.sub_le _ _)
   have h4:2 ^ S.length*(2*k+cb k S.length+1)=2 ^ S.length*(2*k)+2 ^ S.length*(cb k S.length+1):=by rw[Nat.add_assoc,Nat.mul_add]
   omega
  obtain⟨k3,k4⟩:=Qgb (K:=K) (T:=cln S hs) (hs:=hs) (Qk7 k S.length) (by omega) k2 h1 (Nat.le_trans h2 hK)
  refine⟨⟨k1,k3⟩,fun x hx=>?_⟩
  simp only[cln,List.mem_cons] at hx
  rcases hx with rfl|hx
  · exact k4.mono h2
  · exact(k2 x hx).mono hb
 | [],_ :: _,h,_,_=>by simp at h
 |_ :: _,[],h,_,_=>by simp at h
theorem Qk8(k:Nat){m n:Nat}(h:m≤n):cb k m≤cb k n:=by
 induction n with
 |zero=>
  have:m=0:=by omega
  subst this
  exact Nat.le_refl _
 |succ n ih=>
  rcases Nat.lt_or_ge n m with h1|h1
  ·
   have:m=n+1:=by omega
   subst this
   exact Nat.le_refl _
  · exact Nat.le_trans (ih h1) (Qgc k n)
theorem corner_bounds:gb 1 7=21845∧cb 21845 6<17000000000:=by decide
theorem Qp1:(Tryz.prog.info? 23).map (fun i=>(i.zero,i.size,i.bytes))=some (some (.string ⟨#[]⟩),1,16):=by kernel_rfl
def textsV(ss:List ByteArray):List Value:=ss.map Value.string
theorem Qp2(n:Nat):madeCells (Value.cells (.string ⟨#[]⟩)) n=(textsV (List.replicate n ⟨#[]⟩)).toArray:=by
 have e:Value.cells (.string ⟨#[]⟩)=#[.string ⟨#[]⟩]:=by rfl
 rw[e]
 apply Array.ext'
 rw[toList_madeCells_one]
 simp[textsV]
theorem Qp3(n:Nat)(hn:n≤1048576)(w:World):(Instr.makeSlice 88 (.int .i64 n) (.int .i64 n)).run Tryz.prog w=.ok (.slice (some ⟨w.heap.size,0,.none⟩) n n) (w.alloc (.cells (textsV (List.replicate n ⟨#[]⟩)).toArray 23)):=by
 obtain⟨i,hi,h⟩:=Option.map_eq_some_iff.1 Qp1
 simp only[Prod.mk.injEq] at h
 obtain⟨hz,hs,hb⟩:=h
 have:=run_make w 88 23 i _ Tryz.underlying88 hi hz .i64 .i64 n n (by omega) (by omega) (by rw[hb];omega) (by omega)
 rw[Int.toNat_natCast,hs,Nat.mul_one,Qp2] at this
 exact this
theorem Qp4(ss:List ByteArray)(k:Nat)(s:ByteArray):textsV (ss.set k s)=(textsV ss).set k (.string s):=by simp[textsV]
set_option maxRecDepth 100000 in
set_option maxHeartbeats 4000000 in
theorem Qih(a:Option Addr)(cap K:Nat)(ts:List FE)(w:World)(hg:Glob w)(h:QRow w a cap ts)(hk:∀t,t∈ ts→t.k≤K)(hK:K≤274877906944)(hl:ts.length≤1000):
 Calls Tryz.prog 203 #[.slice a ts.length cap] w fun e w'=>(∃(g:Nat) (ss:List ByteArray),e=.returned (.slice (some ⟨g,0,none⟩) ts.length ts.length)∧ss.length=ts.length∧SB w' g 23 (textsV ss).toArray∧∀(i:Nat) (t:FE) (s:ByteArray),ts[i]?=some t→ss[i]?=some s→QText s.data.toList t.q)∧Below w.heap.size w w':=by
 have HH:=Hi h
 have HGL:=Hi hg
 have HK:=Hi hk
 have hmk:=fun w=>Qp3 ts.length (by omega) w
 obtain⟨MC,hMC⟩:∃MC,(textsV (List.replicate ts.length ⟨#[]⟩)).toArray=MC:=⟨_,rfl⟩
 rw[hMC] at hmk
 have HMC:=Hi hMC
 clear h hg hk hMC
 go_enter Tryz.func203,Tryz.ntmps203
 go_wp2_with fail
 clear hmk
 obtain⟨g,hg⟩:∃g,w.heap.size=g:=⟨_,rfl⟩
 obtain⟨V,hV⟩:∃V,w.alloc (.cells MC 23)=V:=⟨_,rfl⟩
 have HB0:Hid (Below g w V):=Hi (by rw[←hV,←hg];exact(Below.refl _ _).alloc (Nat.le_refl _) _)
 have HQ0:Hid (SB V g 23 (textsV (List.replicate ts.length ⟨#[]⟩)).toArray):=Hi (by rw[←hV,←hg,HMC.out];exact SB.new w _ _)
 try rw[hV]
 try rw[hg]
 clear hV
 go_loopw [10] (fun i wr=>∃(k:Nat) (ss:List ByteArray),k≤ts.length∧i=.int .i64 k∧ss.length=ts.length∧SB wr g 23 (textsV ss).toArray∧(∀(i:Nat) (t:FE) (s:ByteArray),i<k→ts[i]?=some t→ss[i]?=some s→QText s.data.toList t.q)∧Below g w wr) (fun i _=>ts.length - (intOf i).toNat)
 case atStart=>exact⟨0,_,by omega,rfl,by simp,HQ0.out,fun i t s hi=>by omega,HB0.out⟩
 case round=>
  obtain⟨k,ss,hk,rfl,hsl,hsb,hall,hb⟩:=hrel
  have HB:=Hi hb
  have HSB:=Hi hsb
  have HA:=Hi hall
  have hgl:=hsb.lt
  have HSL:=Hi hsl
  clear hb hsb hall hsl
  by_cases hlt:k<ts.length
  ·
   obtain⟨t,ht⟩:∃t,ts[k]?=some t:=⟨ts[k],List.getElem?_eq_getElem hlt⟩
   have hbw:Below w.heap.size w wr:=by rw[hg];exact HB.out
   obtain⟨fb,off,rfl,hfb,d0,d1,d2⟩:=(HH.out.below hbw).at ht
   have HTV:=Hi ((HH.out.below hbw).get ht)
   have HTK:=Hi (HK.out t (List.mem_of_getElem? ht))
   have HTA:=Hi (HGL.out.below hbw)
   have q1:((k:Int)<(ts.length:Int)):=by omega
   have HT:=Hi ht
   obtain⟨s0,hs0⟩:∃s0,ss[k]?=some s0:=⟨ss[k]'(by have:=HSL.out;omega),List.getElem?_eq_getElem (by have:=HSL.out;omega)⟩
   have HS0:=Hi hs0
   clear ht hbw hs0
   go_wp2_with fail
   go_fit (Qko HTA.out.tab HTV.out.1 (HTV.out.2.1.mono HTK.out) hK)
   rintro e w2 ⟨⟨s,rfl,hqt⟩,hb2⟩
   have HQT:=Hi hqt
   have HB2:=Hi hb2
   have HSB2:=Hi (HSB.out.below hb2 HSB.out.lt)
   have f0:=HSB2.out.free k
   have t0:w2.cell? ⟨g,k,none⟩=some (.string s0):=by
    rw[HSB2.out.cell]
    simp[textsV,HS0.out]
   clear hqt hb2 d0 d1 d2
   go_wp2
   go_roundw
   case rel=>
    refine⟨k+1,ss.set k s,by omega,by go_num,by rw[List.length_set];exact HSL.out,?_,fun i x y hi hx hy=>?_,(HB.out.trans (HB2.out.mono (Nat.le_of_lt hgl))).setCell (p:=⟨g,k,none⟩) (Nat.le_refl _) _⟩
    ·
     have:=HSB2.out.set k (.string s)
     rw[Qp4]
     simpa using this
    ·
     rcases Nat.lt_or_ge i k with h1|h1
     · rw[List.getElem?_set_ne (by omega)] at hy
       exact HA.out i x y h1 hx hy
     ·
      obtain rfl:i=k:=by omega
      rw[List.getElem?_set_self (by have:=HSL.out;omega)] at hy
      obtain rfl:=Option.some.inj hy
      obtain rfl:=Option.some.inj (HT.out.symm.trans hx)
      exact HQT.out
   case measure=>simp[intOf];omega
  ·
   have hk':k=ts.length:=by omega
   subst hk'
   go_wp2
   go_ret
   rw[hg]
   exact⟨⟨g,ss,rfl,HSL.out,HSB.out,fun i t s ht hs=>HA.out i t s (List.getElem?_eq_some_iff.1 ht).1 ht hs⟩,HB.out⟩
theorem Tryz.stressInfo:(Tryz.prog.info? 90).map (·.size)=some 2:=by kernel_rfl
theorem QRow.take{w:World}{a:Option Addr}{cap:Nat}{ts:List FE}(h:QRow w a cap ts)(n:Nat):QRow w a cap (ts.take n):=by
 refine⟨⟨?_,⟨fun j u hj=>h.row.row.cell j u ?_⟩⟩,fun t ht=>h.ts t (List.mem_of_mem_take ht)⟩
 ·
  have:=h.row.fit
  rw[List.length_take]
  omega
 ·
  have e:ts.flatMap FE.cells=(ts.take n).flatMap FE.cells++(ts.drop n).flatMap FE.cells:=by rw[←List.flatMap_append,List.take_append_drop]
  rw[e,List.getElem?_append_left (List.getElem?_eq_some_iff.1 hj).1]
  exact hj
theorem QRow.drop{w:World}{b off cap:Nat}{ts:List FE}(h:QRow w (some ⟨b,off,none⟩) cap ts){n:Nat}(hn:n≤ts.length):QRow w (some ⟨b,off+n*3,none⟩) (cap - n) (ts.drop n):=by
 refine⟨⟨?_,⟨fun j u hj=>?_⟩⟩,fun t ht=>h.ts t (List.mem_of_mem_drop ht)⟩
 ·
  have:=h.row.fit
  rw[List.length_drop]
  omega
 ·
  have e:ts.flatMap FE.cells=(ts.take n).flatMap FE.cells++(ts.drop n).flatMap FE.cells:=by rw[←List.flatMap_append,List.take_append_drop]
  have hl:((ts.take n).flatMap FE.cells).length=n*3:=by
   rw[Qbn (c:=FE.cells) (sz:=3) (fun _=>rfl),List.length_take,Nat.min_eq_left hn]
  obtain⟨b',off',ha,hb,hc⟩:=h.row.row.cell (n*3+j) u (by rw[e,List.getElem?_append_right (by omega),hl,Nat.add_sub_cancel_left];exact hj)
  cases ha
  exact⟨b,off+n*3,rfl,hb,by rw[Nat.add_assoc];exact hc⟩
theorem QRow.empty(w:World)(a:Option Addr)(cap:Nat):QRow w a cap []:=⟨⟨Nat.zero_le _,⟨fun j u hj=>by simp at hj⟩⟩,fun t ht=>by cases ht⟩
def Told(ts:List FE)(ss:List ByteArray):Prop:=ss.length=ts.length∧∀(i:Nat) (t:FE) (s:ByteArray),ts[i]?=some t→ss[i]?=some s→QText s.data.toList t.q
set_option maxRecDepth 100000 in
set_option maxHeartbeats 4000000 in
theorem Qp5(s1 s3:Value)(a2:Option Addr)(c2 nb b off cap K:Nat)(ts:List FE)(w:World)(hg:Glob w)(h:QRow w (some ⟨b,off,none⟩) cap ts)(hk:∀t,t∈ ts→t.k≤K)(hK:K≤274877906944)(hl:ts.length≤1000)(hn:nb≤ts.length)(hcm:cap≤1000)(o1:s1.oneCell'=true)(o3:s3.oneCell'=true):
 Calls Tryz.prog 121 #[.agg #[s1,.slice a2 nb c2,s3],.slice (some ⟨b,off,none⟩) ts.length cap] w fun e w'=>(∃(g1 g2:Nat) (x y:List ByteArray),e=.returned (.agg #[.slice (some ⟨g1,0,none⟩) nb nb,.slice (some ⟨g2,0,none⟩) (ts.length - nb) (ts.length - nb)])∧SB w' g1 23 (textsV x).toArray∧SB w' g2 23 (textsV y).toArray∧Told (ts.take nb) x∧Told (ts.drop nb) y)∧Below w.heap.size w w':=by
 have hfit:=h.row.fit
 have l1:(ts.take nb).length=nb:=by rw[List.length_take];omega
 have l2:(ts.drop nb).length=ts.length - nb:=List.length_drop
 obtain⟨A,hA,hAq⟩:∃A:Addr,(if cap=nb then some (⟨b,off,none⟩:Addr) else some ⟨b,off+nb*3,none⟩)=some A∧QRow w (some A) (cap - nb) (ts.drop nb):=by
  by_cases e:cap=nb
  ·
   refine⟨⟨b,off,none⟩,by simp[e],?_⟩
   have:ts.drop nb= []:=List.drop_of_length_le (by omega)
   rw[this]
   exact QRow.empty _ _ _
  · exact⟨⟨b,off+nb*3,none⟩,by simp[e],h.drop hn⟩
 have HT1:=Hi (fun u (hu:Below w.heap.size w u)=>Qih (some ⟨b,off,none⟩) cap K (ts.take nb) u (hg.below hu) ((h.take nb).below hu) (fun t ht=>hk t (List.mem_of_mem_take ht)) hK (by omega))
 have HT2:=Hi (fun u (hu:Below w.heap.size w u)=>Qih (some A) (cap - nb) K (ts.drop nb) u (hg.below hu) (hAq.below hu) (fun t ht=>hk t (List.mem_of_mem_drop ht)) hK (by omega))
 rw[l1] at HT1
 rw[l2] at HT2
 have HL1:=Hi l1
 have HL2:=Hi l2
 clear h hg hk hAq l1 l2
 go_enter Tryz.func121,Tryz.ntmps121
 obtain⟨V,hV⟩:∃V,(w.alloc (.cells #[s1,.slice a2 nb c2,s3] 54)).alloc (.cells #[.slice none 0 0,.slice none 0 0] 90)=V:=⟨_,rfl⟩
 have HB0:Hid (Below w.heap.size w V):=Hi (by rw[←hV];exact Below.new2 w _ _)
 have HS0:Hid (SB V w.heap.size 54 #[s1,.slice a2 nb c2,s3]):=Hi (by rw[←hV];exact(SB.new w _ _).alloc _)
 have HS1:Hid (SB V (w.heap.size+1) 90 #[.slice none 0 0,.slice none 0 0]):=Hi (by rw[←hV];exact SB.new2 w _ _ _ _)
 have HV:=Hi hV
 clear hV
 have q1:nb≤cap:=by omega
 have q2:ts.length≤cap:=hfit
 go_wp2_with fail
 rw[HV.out]
 go_region_held3 (fun _=>True) (trivial) (first
  |(
   go_at_call_of 203 (Value.slice (some ⟨b,off,none⟩) nb cap)
   apply Calls.mono
   apply HT1.out
   (focus(repeat(first|exact HB0.out|apply Qa2|apply Qa3)))
   rintro e1 w1 ⟨⟨g1,x,rfl,hx1,hx2,hx3⟩,hb1⟩
   (first
     |have HB1:Hid (Below V.heap.size V w1):=Hi hb1
     |have HB1:Hid (Below V.heap.size V w1):=Hi ((Below.refl _ _).drew.trans hb1))
   have HX1:=Hi hx1
   have HX2:=Hi hx2
   have HX3:=Hi hx3
   have HW1:=Hi (HB0.out.trans (HB1.out.mono HB0.out.size))
   clear hx1 hx2 hx3 hb1
   skip)
  |(
   go_at_call_of 203 (Value.slice (some A) (ts.length - nb) (cap - nb))
   apply Calls.mono
   apply HT2.out
   (focus(repeat(first|exact HW1.out|apply Qa2|apply Qa3)))
   rintro e2 w2 ⟨⟨g2,y,rfl,hy1,hy2,hy3⟩,hb2⟩
   (first
     |have HB2:Hid (Below w1.heap.size w1 w2):=Hi hb2
     |have HB2:Hid (Below w1.heap.size w1 w2):=Hi ((Below.refl _ _).drew.trans hb2))
   have HY1:=Hi hy1
   have HY2:=Hi hy2
   have HY3:=Hi hy3
   have HR2:=Hi ((HS1.out.below HB1.out HS1.out.lt).below HB2.out (HS1.out.below HB1.out HS1.out.lt).lt)
   have r0:w2.cell? ⟨w.heap.size+1,0,none⟩=some (.slice none 0 0):=HR2.out.cell 0
   have r1:w2.cell? ⟨w.heap.size+1,1,none⟩=some (.slice none 0 0):=HR2.out.cell 1
   have f0:=HR2.out.free 0
   have f1:=HR2.out.free 1
   clear hy1 hy2 hy3 hb2
   skip)
  |fail)
 all_goals
  go_wp2
  have hx:=HX2.out.below HB2.out HX2.out.lt
  have nx:=hx.unlike HR2.out (by decide)
  have ny:=HY2.out.unlike HR2.out (by decide)
  refine bodyPost_ret (v:=.agg #[.slice (some ⟨g1,0,none⟩) nb nb,.slice (some ⟨g2,0,none⟩) (ts.length - nb) (ts.length - nb)]) (results_cell_row rfl _ _ (w.heap.size+1) 90 #[.slice (some ⟨g1,0,none⟩) nb nb,.slice (some ⟨g2,0,none⟩) (ts.length - nb) (ts.length - nb)] (0,0) _ rfl ((HR2.out.set 0 _).set 1 _) Tryz.underlying90 rfl Tryz.stressInfo) rfl ?_
  exact⟨⟨g1,g2,x,y,rfl,(hx.other nx _ _).other nx _ _,(HY2.out.other ny _ _).other ny _ _,⟨by rw[HL1.out];exact HX1.out,HX3.out⟩,⟨by rw[HL2.out];exact HY1.out,HY3.out⟩⟩,((HW1.out.trans (HB2.out.mono HW1.out.size)).setCell (Nat.le_succ _) _).setCell (Nat.le_succ _) _⟩
end Go.Proofs.YtjhdfkcdigmfhaaGreatDoor
