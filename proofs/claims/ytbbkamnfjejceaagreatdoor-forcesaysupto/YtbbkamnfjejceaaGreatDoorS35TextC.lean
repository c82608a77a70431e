/- num's writeChunk. -/
import Derived.Test.YtbbkamnfjejceaaGreatDoorS34TextW
namespace Go.Proofs.YtbbkamnfjejceaaGreatDoor
set_option linter.unusedVariables false
set_option linter.unusedSimpArgs false
structure OutT (fill:Bool) (k:Nat) (m:List UInt8) (x:Nat):Prop where
 dig:AllDigits m
 eq:decVal m=x
 most:m.length≤k
 full:fill=true→m.length=k
 some:m≠ []
 lean:fill=false→m= [48]∨m.head?≠Option.some 48
theorem Qhu(c:UInt8)(l:List UInt8):decVal (c :: l)=(c.toNat - 48)*10 ^ l.length+decVal l:=by
 have:=Qbo [c] l
 simpa [decVal] using this
theorem Qeo(d:Nat)(h:d<10):(UInt8.ofNat (48+d)).toNat=48+d:=by
 rw[UInt8.toNat_ofNat'];omega
theorem Qow(u:Nat):AllDigits (Lib.decDigits u)∧decVal (Lib.decDigits u)=u∧Lib.decDigits u≠ []∧(Lib.decDigits u= [48]∨(Lib.decDigits u).head?≠Option.some 48):=by
 induction u using Nat.strongRecOn with
 |_ u ih=>
  rw[Lib.decDigits];by_cases h:u<10
  ·
   rw[dif_pos h];have e:=Qeo u h;refine⟨fun c hc=>?_,?_,by simp,?_⟩
   · rw[List.mem_singleton.1 hc,e];omega
   · simp only[decVal,List.foldl_cons,List.foldl_nil,e];omega
   ·
    by_cases h0:u=0
    · left;subst h0;rfl
    ·
     right;intro hc;have h1:UInt8.ofNat (48+u)=48:=by simpa using hc
     rw[h1] at e;have:(48:UInt8).toNat=48:=rfl;omega
  ·
   rw[dif_neg h];obtain⟨h1,h2,h3,h4⟩:=ih (u / 10) (by omega);have e:=Qeo (u % 10) (by omega);refine⟨fun c hc=>?_,?_,by simp,.inr ?_⟩
   ·
    rcases List.mem_append.1 hc with hc|hc
    · exact h1 c hc
    · rw[List.mem_singleton.1 hc,e];omega
   · rw[Qci,h2,e];omega
   ·
    rcases h4 with h4|h4
    ·
     rw[h4] at h2;have:decVal [48]=0:=rfl;omega
    ·
     cases hl:Lib.decDigits (u / 10) with
     |nil=>exact absurd hl h3
     |cons c t=>rw[hl] at h4;simpa using h4
theorem Qhv{m:List UInt8}(hd:AllDigits m)(h0:m≠ [])(h:m.head?≠Option.some 48):10 ^ (m.length - 1)≤decVal m:=by
 cases m with
 |nil=>exact absurd rfl h0
 |cons c t=>
  have hc:=hd c (List.mem_cons_self ..);have hne:c.toNat≠48:=by
   intro he;apply h;simp only[List.head?_cons,Option.some.injEq];exact UInt8.toNat_inj.1 he
  rw[Qhu,List.length_cons,Nat.add_sub_cancel];have:1*10 ^ t.length≤(c.toNat - 48)*10 ^ t.length:=Nat.mul_le_mul_right _ (by omega);omega
theorem Qox{u k:Nat}(hu:u<10 ^ k)(hk:0<k):OutT false k (Lib.decDigits u) u:=by
 obtain⟨h1,h2,h3,h4⟩:=Qow u;refine⟨h1,h2,?_,(fun h=>by cases h),h3,fun _=>h4⟩;rcases h4 with h4|h4
 · rw[h4];simp;omega
 ·
  have:=Qhv h1 h3 h4;rw[h2] at this;have h5:(Lib.decDigits u).length - 1<k:=(Nat.pow_lt_pow_iff_right (by decide:1<10)).1 (Nat.lt_of_le_of_lt this hu);omega
theorem Qoy(j:Nat)(m:List UInt8):decVal (List.replicate j 48++m)=decVal m:=by
 induction j with
 |zero=>rfl
 |succ j ih=>rw[List.replicate_succ,List.cons_append,Qg0,ih]
theorem Qoz{u k:Nat}{m:List UInt8}(h:OutT false k m u):OutT true k (List.replicate (k - m.length) 48++m) u:=by
 refine⟨fun c hc=>?_,by rw[Qoy];exact h.eq,?_,fun _=>?_,?_,(fun h=>by cases h)⟩
 ·
  rcases List.mem_append.1 hc with hc|hc
  · rw[List.eq_of_mem_replicate hc];decide
  · exact h.dig c hc
 · rw[List.length_append,List.length_replicate];have:=h.most;omega
 · rw[List.length_append,List.length_replicate];have:=h.most;omega
 · intro hc
   exact h.some (List.append_eq_nil_iff.1 hc).2
theorem Qhw{fill:Bool}{k hi lo:Nat}{m1 m2:List UInt8}(h1:OutT fill k m1 hi)(h2:OutT true k m2 lo)(hf:fill=true∨0<hi):OutT fill (2*k) (m1++m2) (hi*10 ^ k+lo):=by
 have e2:=h2.full rfl;refine⟨fun c hc=>?_,by rw[Qbo,h1.eq,h2.eq,e2],?_,fun h=>?_,?_,fun h=>.inr ?_⟩
 ·
  rcases List.mem_append.1 hc with hc|hc
  · exact h1.dig c hc
  · exact h2.dig c hc
 · rw[List.length_append];have:=h1.most;have:=h2.most;omega
 · rw[List.length_append,h1.full h,e2];omega
 · intro hc
   exact h1.some (List.append_eq_nil_iff.1 hc).1
 ·
  have hpos:0<hi:=by
   rcases hf with hf|hf
   · rw[h] at hf;cases hf
   · exact hf
  rcases h1.lean h with hl|hl
  · rw[←h1.eq,hl] at hpos
    exact absurd hpos (by decide)
  ·
   cases hm:m1 with
   |nil=>exact absurd hm h1.some
   |cons c t=>rw[hm] at hl;simpa using hl
theorem OutT.grow{k k' x:Nat}{m:List UInt8}(h:OutT false k m x)(hk:k≤k'):OutT false k' m x:=⟨h.dig,h.eq,Nat.le_trans h.most hk,(fun h=>by cases h),h.some,h.lean⟩
theorem Qo0(m:List UInt8):val 10 (m.reverse.map (fun c=>c.toNat - 48))=decVal m:=by
 induction m with
 |nil=>rfl
 |cons c t ih=>
  rw[List.reverse_cons,List.map_append,List.map_cons,List.map_nil,Qaj,ih,Qhu,List.length_map,List.length_reverse,Nat.mul_comm (10 ^ t.length)];omega
theorem OutT.dec{k x:Nat}{m:List UInt8}(h:OutT false k m x):IsDec m x:=by
 by_cases h0:x=0
 ·
  left;refine⟨h0,?_⟩;rcases h.lean rfl with hl|hl
  · exact hl
  ·
   have:=Qhv h.dig h.some hl;rw[h.eq,h0] at this;have:=Nat.pow_pos (n:=m.length - 1) (by decide:0<10);omega
 ·
  right;refine⟨h0,m.reverse.map (fun c=>c.toNat - 48),⟨?_,?_,by rw[Qo0];exact h.eq⟩,?_⟩
  ·
   intro d hd;obtain⟨c,hc,rfl⟩:=List.mem_map.1 hd;have:=h.dig c (List.mem_reverse.1 hc);omega
  ·
   right;rcases h.lean rfl with hl|hl
   · rw[←h.eq,hl] at h0
     exact absurd rfl h0
   ·
    cases hm:m with
    |nil=>exact absurd hm h.some
    |cons c t=>
     rw[hm] at hl;have hc:=h.dig c (by rw[hm];exact List.mem_cons_self ..);have hne:c.toNat≠48:=fun he=>hl (by simp only[List.head?_cons,Option.some.injEq];exact UInt8.toNat_inj.1 he)
     rw[List.reverse_cons,List.map_append,List.map_cons,List.map_nil,List.length_append,List.length_singleton,Nat.add_sub_cancel,List.getD_eq_getElem?_getD,List.getElem?_append_right (Nat.le_refl _),Nat.sub_self];simp;omega
  ·
   rw[←List.map_reverse,List.reverse_reverse,List.map_map]
   conv=>lhs;rw[←List.map_id m]
   apply List.map_congr_left;intro c hc;have:=h.dig c hc;apply UInt8.toNat_inj.1;simp only[id_eq,Function.comp_apply];rw[Qeo _ (by omega)];omega
open Go.RowKit
def Digs(B b:Nat)(l:List UInt8)(fill:Bool)(k x:Nat)(w:World)(e:Ending)(w':World):Prop:=∃m,OutT fill k m x∧Wrote B b (l++m) (.tuple #[]) w e w'
set_option maxHeartbeats 2000000 in
set_option maxRecDepth 100000 in
theorem Qos(w0 w:World)(b:Nat)(l:List UInt8)(u:Nat)(fill:Bool)(hT:Tab w0)(hb:Below w0.heap.size w0 w)(h:Bd8 w0.heap.size b l w)(hu:u<10000000000000000000)(hl:l.length+19≤140737488355328):
 Calls Tryz.prog 200 #[.pointer (some ⟨b,0,none⟩),.int .u64 u,.bool fill] w (Digs w0.heap.size b l fill 19 u w):=by
 have HO:=Hi (Qox (u:=u) (k:=19) hu (by decide));have hsz:w0.heap.size≤w.heap.size:=hb.size;have HF:=Hi (Qpd u (by omega) w (hT.below hb));have HD:=Hi h;obtain⟨s,hs⟩:∃s,(⟨(Lib.decDigits u).toArray⟩:ByteArray)=s:=⟨_,rfl⟩;rw[hs] at HF;have hse:s.data.toList=Lib.decDigits u:=by rw[←hs]
 have hss:s.size=(Lib.decDigits u).length:=by rw[←hse];simp
 have hs0:0<s.size:=by rw[hss];exact List.length_pos_iff.2 HO.out.some
 have hs19:s.size≤19:=by rw[hss];exact HO.out.most
 have HSE:=Hi hse;have HSS:=Hi hss;clear hb h hT hs hse hss;cases fill with
 |false=>
  go_enter Tryz.func200,Tryz.ntmps200;go_wp2_with fail;go_fit HF.out;rintro e w1 ⟨rfl,hb1⟩;have HW:=Hi (Qh3 w0.heap.size b l s w1 (HD.out.below hb1) hs0 (by omega) (by have:=hb1.size;omega));have HB1:=Hi hb1;clear HF hb1;go_wp2_with fail;go_fit HW.out;rintro e w2 ⟨rfl,hd,hb2,hw2⟩;have HD2:=Hi hd;have HB2:=Hi hb2;have HW2:=Hi hw2;clear HW hd hb2 hw2;go_wp2;go_end0;rw[HSE.out] at HD2;exact⟨_,HO.out,rfl,HD2.out,(HB1.out.mono hsz).trans HB2.out,(Wr.below HD.out.lt HB1.out).trans HW2.out⟩
 |true=>
  go_enter Tryz.func200,Tryz.ntmps200;go_wp2_with fail;go_fit HF.out;rintro e w1 ⟨rfl,hb1⟩;have HD1:=Hi (HD.out.below hb1);have HB1:=Hi (hb1.mono hsz);have HW1:=Hi (Wr.below HD.out.lt hb1);have hsz1:w0.heap.size≤w1.heap.size:=by have:=hb1.size;omega
  clear HF hb1 HD;go_wp2_with fail;go_loopw [13] (fun iv wr=>∃j:Nat,j+s.size≤19∧iv=.int .i64 j∧Bd8 w0.heap.size b (l++List.replicate j 48) wr∧Below w0.heap.size w wr∧Wr b w wr∧w0.heap.size≤wr.heap.size) (fun iv _=>19 - (intOf iv).toNat)
  case atStart=>exact⟨0,by omega,rfl,by rw[List.replicate_zero,List.append_nil];exact HD1.out,HB1.out,HW1.out,hsz1⟩
  case round=>
   obtain⟨j,hj,rfl,hd,hb,hw,hz⟩:=hrel;have HDJ:=Hi hd;have HBJ:=Hi hb;have HWJ:=Hi hw;clear hd hb hw;by_cases hlt:j+s.size<19
   ·
    have q1:((j:Int)<19 - (s.size:Int)):=by omega
    have HW:=Hi (Qpf w0.heap.size b (l++List.replicate j 48) 48 wr HDJ.out (by rw[List.length_append,List.length_replicate];omega) hz);rw[show ((48:UInt8).toNat:Int)=48 from rfl] at HW;go_wp2_with fail;go_fit HW.out;rintro e w2 ⟨rfl,hd,hb2,hw2⟩;have HD2:=Hi hd;have HB2:=Hi hb2;have HW2:=Hi hw2;have hz2:=hw2.size;clear HW hd hb2 hw2;go_wp2;go_roundw
    case rel=>exact⟨j+1,by omega,by go_num,by rw[List.replicate_succ',←List.append_assoc];exact HD2.out,HBJ.out.trans HB2.out,HWJ.out.trans HW2.out,by omega⟩
    case measure=>simp[intOf];omega
   ·
    have q1:¬((j:Int)<19 - (s.size:Int)):=by omega
    have hje:j=19 - (Lib.decDigits u).length:=by rw[←HSS.out];omega
    have HW:=Hi (Qh3 w0.heap.size b (l++List.replicate j 48) s wr HDJ.out hs0 (by rw[List.length_append,List.length_replicate];omega) hz);go_wp2_with fail;go_fit HW.out;rintro e w2 ⟨rfl,hd,hb2,hw2⟩;have HD2:=Hi hd;have HB2:=Hi hb2;have HW2:=Hi hw2;clear HW hd hb2 hw2;go_wp2;go_end0;rw[HSE.out,List.append_assoc,hje] at HD2;exact⟨_,Qoz HO.out,rfl,HD2.out,HBJ.out.trans HB2.out,HWJ.out.trans HW2.out⟩
end Go.Proofs.YtbbkamnfjejceaaGreatDoor
