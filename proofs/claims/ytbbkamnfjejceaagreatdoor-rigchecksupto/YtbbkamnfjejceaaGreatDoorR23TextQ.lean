/- num's powersOfTen. -/
import Derived.Test.YtbbkamnfjejceaaGreatDoorR22TextW
namespace Go.Proofs.YtbbkamnfjejceaaGreatDoor
set_option linter.unusedVariables false
set_option linter.unusedSimpArgs false
structure OutT (fill:Bool) (k:Nat) (m:List UInt8) (x:Nat):Prop where
 dig:AllDigits m
 eq:decVal m=x
 most:m.length≤k
 full:fill=true→m.length=k
 some:m≠ []
 lean:fill=false→m= [48]∨m.head?≠Option.some 48
theorem Qjf(c:UInt8)(l:List UInt8):decVal (c :: l)=(c.toNat - 48)*10 ^ l.length+decVal l:=by
 have:=Qbs [c] l
 simpa [decVal] using this
theorem Qfw(d:Nat)(h:d<10):(UInt8.ofNat (48+d)).toNat=48+d:=by
 rw[UInt8.toNat_ofNat'];omega
theorem Qry(u:Nat):AllDigits (Lib.decDigits u)∧decVal (Lib.decDigits u)=u∧Lib.decDigits u≠ []∧(Lib.decDigits u= [48]∨(Lib.decDigits u).head?≠Option.some 48):=by
 induction u using Nat.strongRecOn with
 |_ u ih=>
  rw[Lib.decDigits];by_cases h:u<10
  ·
   rw[dif_pos h];have e:=Qfw u h;refine⟨fun c hc=>?_,?_,by simp,?_⟩
   · rw[List.mem_singleton.1 hc,e];omega
   · simp only[decVal,List.foldl_cons,List.foldl_nil,e];omega
   ·
    by_cases h0:u=0
    · left;subst h0;rfl
    ·
     right;intro hc;have h1:UInt8.ofNat (48+u)=48:=by simpa using hc
     rw[h1] at e;have:(48:UInt8).toNat=48:=rfl;omega
  ·
   rw[dif_neg h];obtain⟨h1,h2,h3,h4⟩:=ih (u / 10) (by omega);have e:=Qfw (u % 10) (by omega);refine⟨fun c hc=>?_,?_,by simp,.inr ?_⟩
   ·
    rcases List.mem_append.1 hc with hc|hc
    · exact h1 c hc
    · rw[List.mem_singleton.1 hc,e];omega
   · rw[Qeg,h2,e];omega
   ·
    rcases h4 with h4|h4
    ·
     rw[h4] at h2;have:decVal [48]=0:=rfl;omega
    ·
     cases hl:Lib.decDigits (u / 10) with
     |nil=>exact absurd hl h3
     |cons c t=>rw[hl] at h4;simpa using h4
theorem Qjg{m:List UInt8}(hd:AllDigits m)(h0:m≠ [])(h:m.head?≠Option.some 48):10 ^ (m.length - 1)≤decVal m:=by
 cases m with
 |nil=>exact absurd rfl h0
 |cons c t=>
  have hc:=hd c (List.mem_cons_self ..);have hne:c.toNat≠48:=by
   intro he;apply h;simp only[List.head?_cons,Option.some.injEq];exact UInt8.toNat_inj.1 he
  rw[Qjf,List.length_cons,Nat.add_sub_cancel];have:1*10 ^ t.length≤(c.toNat - 48)*10 ^ t.length:=Nat.mul_le_mul_right _ (by omega);omega
theorem Qrz{u k:Nat}(hu:u<10 ^ k)(hk:0<k):OutT false k (Lib.decDigits u) u:=by
 obtain⟨h1,h2,h3,h4⟩:=Qry u;refine⟨h1,h2,?_,(fun h=>by cases h),h3,fun _=>h4⟩;rcases h4 with h4|h4
 · rw[h4];simp;omega
 ·
  have:=Qjg h1 h3 h4;rw[h2] at this;have h5:(Lib.decDigits u).length - 1<k:=(Nat.pow_lt_pow_iff_right (by decide:1<10)).1 (Nat.lt_of_le_of_lt this hu);omega
theorem Qr0(j:Nat)(m:List UInt8):decVal (List.replicate j 48++m)=decVal m:=by
 induction j with
 |zero=>rfl
 |succ j ih=>rw[List.replicate_succ,List.cons_append,Qh1,ih]
theorem Qr1{u k:Nat}{m:List UInt8}(h:OutT false k m u):OutT true k (List.replicate (k - m.length) 48++m) u:=by
 refine⟨fun c hc=>?_,by rw[Qr0];exact h.eq,?_,fun _=>?_,?_,(fun h=>by cases h)⟩
 ·
  rcases List.mem_append.1 hc with hc|hc
  · rw[List.eq_of_mem_replicate hc];decide
  · exact h.dig c hc
 · rw[List.length_append,List.length_replicate];have:=h.most;omega
 · rw[List.length_append,List.length_replicate];have:=h.most;omega
 · intro hc
   exact h.some (List.append_eq_nil_iff.1 hc).2
theorem Qjh{fill:Bool}{k hi lo:Nat}{m1 m2:List UInt8}(h1:OutT fill k m1 hi)(h2:OutT true k m2 lo)(hf:fill=true∨0<hi):OutT fill (2*k) (m1++m2) (hi*10 ^ k+lo):=by
 have e2:=h2.full rfl;refine⟨fun c hc=>?_,by rw[Qbs,h1.eq,h2.eq,e2],?_,fun h=>?_,?_,fun h=>.inr ?_⟩
 ·
  rcases List.mem_append.1 hc with hc|hc
  · exact h1.dig c hc
  · exact h2.dig c hc
 · rw[List.length_append];have:=h1.most;have:=h2.most;omega
 · rw[List.length_append,h1.full h,e2];omega
 · intro hc
   exact h1.some (List.append_eq_nil_iff.1 hc).1
 ·
  have hpos:0<hi:=by
   rcases hf with hf|hf
   · rw[h] at hf;cases hf
   · exact hf
  rcases h1.lean h with hl|hl
  · rw[←h1.eq,hl] at hpos
    exact absurd hpos (by decide)
  ·
   cases hm:m1 with
   |nil=>exact absurd hm h1.some
   |cons c t=>rw[hm] at hl;simpa using hl
theorem OutT.grow{k k' x:Nat}{m:List UInt8}(h:OutT false k m x)(hk:k≤k'):OutT false k' m x:=⟨h.dig,h.eq,Nat.le_trans h.most hk,(fun h=>by cases h),h.some,h.lean⟩
theorem Qr2(m:List UInt8):val 10 (m.reverse.map (fun c=>c.toNat - 48))=decVal m:=by
 induction m with
 |nil=>rfl
 |cons c t ih=>
  rw[List.reverse_cons,List.map_append,List.map_cons,List.map_nil,Qah,ih,Qjf,List.length_map,List.length_reverse,Nat.mul_comm (10 ^ t.length)];omega
theorem OutT.dec{k x:Nat}{m:List UInt8}(h:OutT false k m x):IsDec m x:=by
 by_cases h0:x=0
 ·
  left;refine⟨h0,?_⟩;rcases h.lean rfl with hl|hl
  · exact hl
  ·
   have:=Qjg h.dig h.some hl;rw[h.eq,h0] at this;have:=Nat.pow_pos (n:=m.length - 1) (by decide:0<10);omega
 ·
  right;refine⟨h0,m.reverse.map (fun c=>c.toNat - 48),⟨?_,?_,by rw[Qr2];exact h.eq⟩,?_⟩
  ·
   intro d hd;obtain⟨c,hc,rfl⟩:=List.mem_map.1 hd;have:=h.dig c (List.mem_reverse.1 hc);omega
  ·
   right;rcases h.lean rfl with hl|hl
   · rw[←h.eq,hl] at h0
     exact absurd rfl h0
   ·
    cases hm:m with
    |nil=>exact absurd hm h.some
    |cons c t=>
     rw[hm] at hl;have hc:=h.dig c (by rw[hm];exact List.mem_cons_self ..);have hne:c.toNat≠48:=fun he=>hl (by simp only[List.head?_cons,Option.some.injEq];exact UInt8.toNat_inj.1 he)
     rw[List.reverse_cons,List.map_append,List.map_cons,List.map_nil,List.length_append,List.length_singleton,Nat.add_sub_cancel,List.getD_eq_getElem?_getD,List.getElem?_append_right (Nat.le_refl _),Nat.sub_self];simp;omega
  ·
   rw[←List.map_reverse,List.reverse_reverse,List.map_map]
   conv=>lhs;rw[←List.map_id m]
   apply List.map_congr_left;intro c hc;have:=h.dig c hc;apply UInt8.toNat_inj.1;simp only[id_eq,Function.comp_apply];rw[Qfw _ (by omega)];omega
open Go.RowKit
def Digs(B b:Nat)(l:List UInt8)(fill:Bool)(k x:Nat)(w:World)(e:Ending)(w':World):Prop:=∃m,OutT fill k m x∧Wrote B b (l++m) (.tuple #[]) w e w'
set_option maxHeartbeats 2000000 in
set_option maxRecDepth 100000 in
theorem Qru(w0 w:World)(b:Nat)(l:List UInt8)(u:Nat)(fill:Bool)(hT:Tab w0)(hb:Below w0.heap.size w0 w)(h:Bd8 w0.heap.size b l w)(hu:u<10000000000000000000)(hl:l.length+19≤140737488355328):
 Calls Tryz.prog 200 #[.pointer (some ⟨b,0,none⟩),.int .u64 u,.bool fill] w (Digs w0.heap.size b l fill 19 u w):=by
 have HO:=Hi (Qrz (u:=u) (k:=19) hu (by decide));have hsz:w0.heap.size≤w.heap.size:=hb.size;have HF:=Hi (Qsf u (by omega) w (hT.below hb));have HD:=Hi h;obtain⟨s,hs⟩:∃s,(⟨(Lib.decDigits u).toArray⟩:ByteArray)=s:=⟨_,rfl⟩;rw[hs] at HF;have hse:s.data.toList=Lib.decDigits u:=by rw[←hs]
 have hss:s.size=(Lib.decDigits u).length:=by rw[←hse];simp
 have hs0:0<s.size:=by rw[hss];exact List.length_pos_iff.2 HO.out.some
 have hs19:s.size≤19:=by rw[hss];exact HO.out.most
 have HSE:=Hi hse;have HSS:=Hi hss;clear hb h hT hs hse hss;cases fill with
 |false=>
  go_enter Tryz.func200,Tryz.ntmps200;go_wp2_with fail;go_fit HF.out;rintro e w1 ⟨rfl,hb1⟩;have HW:=Hi (Qjo w0.heap.size b l s w1 (HD.out.below hb1) hs0 (by omega) (by have:=hb1.size;omega));have HB1:=Hi hb1;clear HF hb1;go_wp2_with fail;go_fit HW.out;rintro e w2 ⟨rfl,hd,hb2,hw2⟩;have HD2:=Hi hd;have HB2:=Hi hb2;have HW2:=Hi hw2;clear HW hd hb2 hw2;go_wp2;go_end0;rw[HSE.out] at HD2;exact⟨_,HO.out,rfl,HD2.out,(HB1.out.mono hsz).trans HB2.out,(Wr.below HD.out.lt HB1.out).trans HW2.out⟩
 |true=>
  go_enter Tryz.func200,Tryz.ntmps200;go_wp2_with fail;go_fit HF.out;rintro e w1 ⟨rfl,hb1⟩;have HD1:=Hi (HD.out.below hb1);have HB1:=Hi (hb1.mono hsz);have HW1:=Hi (Wr.below HD.out.lt hb1);have hsz1:w0.heap.size≤w1.heap.size:=by have:=hb1.size;omega
  clear HF hb1 HD;go_wp2_with fail;go_loopw [13] (fun iv wr=>∃j:Nat,j+s.size≤19∧iv=.int .i64 j∧Bd8 w0.heap.size b (l++List.replicate j 48) wr∧Below w0.heap.size w wr∧Wr b w wr∧w0.heap.size≤wr.heap.size) (fun iv _=>19 - (intOf iv).toNat)
  case atStart=>exact⟨0,by omega,rfl,by rw[List.replicate_zero,List.append_nil];exact HD1.out,HB1.out,HW1.out,hsz1⟩
  case round=>
   obtain⟨j,hj,rfl,hd,hb,hw,hz⟩:=hrel;have HDJ:=Hi hd;have HBJ:=Hi hb;have HWJ:=Hi hw;clear hd hb hw;by_cases hlt:j+s.size<19
   ·
    have q1:((j:Int)<19 - (s.size:Int)):=by omega
    have HW:=Hi (Qsh w0.heap.size b (l++List.replicate j 48) 48 wr HDJ.out (by rw[List.length_append,List.length_replicate];omega) hz);rw[show ((48:UInt8).toNat:Int)=48 from rfl] at HW;go_wp2_with fail;go_fit HW.out;rintro e w2 ⟨rfl,hd,hb2,hw2⟩;have HD2:=Hi hd;have HB2:=Hi hb2;have HW2:=Hi hw2;have hz2:=hw2.size;clear HW hd hb2 hw2;go_wp2;go_roundw
    case rel=>exact⟨j+1,by omega,by go_num,by rw[List.replicate_succ',←List.append_assoc];exact HD2.out,HBJ.out.trans HB2.out,HWJ.out.trans HW2.out,by omega⟩
    case measure=>simp[intOf];omega
   ·
    have q1:¬((j:Int)<19 - (s.size:Int)):=by omega
    have hje:j=19 - (Lib.decDigits u).length:=by rw[←HSS.out];omega
    have HW:=Hi (Qjo w0.heap.size b (l++List.replicate j 48) s wr HDJ.out hs0 (by rw[List.length_append,List.length_replicate];omega) hz);go_wp2_with fail;go_fit HW.out;rintro e w2 ⟨rfl,hd,hb2,hw2⟩;have HD2:=Hi hd;have HB2:=Hi hb2;have HW2:=Hi hw2;clear HW hd hb2 hw2;go_wp2;go_end0;rw[HSE.out,List.append_assoc,hje] at HD2;exact⟨_,Qr1 HO.out,rfl,HD2.out,HBJ.out.trans HB2.out,HWJ.out.trans HW2.out⟩
def SlIn(C:Array Value):Prop:=∀(i:Nat) u,C[i]?=some u→∃a n c,u=Value.slice a n c
def SlBlk(w:World)(v:Value):Prop:=∀g,v.ownBlock=some g→∃C t f,w.heap[g]?=some (.cells C t f)∧SlIn C
theorem SlIn.append{C D:Array Value}(h:SlIn C)(k:SlIn D):SlIn (C++D):=fun i u hu=>by
 rw[Array.getElem?_append] at hu
 split at hu
 · exact h _ _ hu
 · exact k _ _ hu
theorem SlIn.zeros(n:Nat):SlIn (Builtin.zeroCells (Value.slice none 0 0).cells n):=fun i u hu=>by
 have hm:=Array.mem_of_getElem? hu;simp[Builtin.zeroCells,Value.cells] at hm;obtain⟨j,hj,e⟩:=hm;rw[Nat.mod_one] at e;exact⟨none,0,0,e.symm⟩
theorem SlIn.list{l:List Value}(h:∀u,u∈ l→∃a n c,u=Value.slice a n c):SlIn l.toArray:=fun i u hu=>h u (by rw[List.getElem?_toArray] at hu;exact List.mem_of_getElem? hu)
theorem SlIn.mem{C:Array Value}(h:SlIn C){u:Value}(hu:u∈ C.toList):∃a n c,u=Value.slice a n c:=by
 obtain⟨i,hi⟩:=List.mem_iff_getElem?.1 hu;exact h i u (by rw[Array.getElem?_toList] at hi;exact hi)
theorem SlBlk.below{w w':World}{v:Value}(h:SlBlk w v)(hb:∀g,v.ownBlock=some g→w'.heap[g]?=w.heap[g]?):SlBlk w' v:=fun g hg=>by
 obtain⟨C,t,f,h1,h2⟩:=h g hg;exact⟨C,t,f,by rw[hb g hg];exact h1,h2⟩
theorem SlBlk.new(w:World)(C:Array Value)(t:TypeId)(n cap:Nat)(h:SlIn C):SlBlk (w.drew.alloc (.cells C t)) (.slice (some ⟨w.heap.size,0,none⟩) n cap):=fun g hg=>by
 have e:w.heap.size=g:=by simpa [Value.ownBlock] using hg
 subst e;exact⟨C,t,_,heap_alloc_new w.drew _,h⟩
theorem SlBlk.row{w:World}{g n cap:Nat}{cur news:Array Value}{t:TypeId}{f:Nat × Nat}(hg:w.heap[g]?=some (.cells cur t f))(h:SlIn news):SlBlk (w.setRow g news) (.slice (some ⟨g,0,none⟩) n cap):=fun g' hg'=>by
 have e:g=g':=by simpa [Value.ownBlock] using hg'
 subst e;exact⟨news,t,f,setRow_heap w g cur _ t _ hg,h⟩
theorem Tryz.infoNat:(Tryz.prog.info? 75).map (fun i=>(i.zero,i.size,i.bytes))=some (some (.slice none 0 0),1,24):=by kernel_rfl
theorem Qr3{w:World}{base:Nat}{v v':Value}{n m cc:Nat}{xs news:List Value}{a:Addr}{w':World}{ty:TypeId}{i:TypeInfo}(hi:Tryz.prog.info? 75=some i)(hz:i.zero=some (.slice none 0 0))(hs1:i.size=1)(hby:i.bytes=24)(hown:w.ownsRow base 75 1 v n xs)(hu:SlBlk w v)
 (hl:news.length=m) (hnews:∀j u,news[j]?=some u→w.cell? (a.add j)=some u) (h1:∀u∈ news,u.oneCell'=true) (h8:∀u,u∈ news→∃a n c,u=Value.slice a n c) (h0:0<m) (h63:n+m≤1099511627776)
 (hr:(Builtin.append_ #[212,212] ty #[v,.slice (some a) m cc]).run Tryz.prog w=.ok v' w'):SlBlk w' v':=by
 have hxl:xs.length=n:=by simpa using hown.1
 have hown0:=hown;have hl':news.length=m*i.size:=by rw[hs1,Nat.mul_one];exact hl
 rcases hown.2 with ⟨rfl,rfl⟩|⟨g,cap,cur,rfl,hbg,hg,hnc,hcm,hcs,htake⟩
 ·
  rw[run_append_nil (P:=Tryz.prog) w 212 ty 75 i (.slice none 0 0) Tryz.underlying212 hi hz a m cc news hl' hnews h0 (by omega) (by rw[hby];omega)] at hr;injection hr with e1 e2
  rw[←e1,←e2];exact SlBlk.new _ _ _ _ _ ((SlIn.list h8).append (SlIn.zeros _))
 ·
  obtain⟨C,tt,ff,hC,hC8⟩:=hu g rfl;rw[hg] at hC;injection hC with hC
  injection hC with hC _ _
  subst hC;by_cases hroom:n+m≤cap
  ·
   rw[run_append_room (P:=Tryz.prog) w 212 ty 75 i Tryz.underlying212 hi g n cap cur hg a m cc news hl' hnews h1 hroom (by rw[hs1];omega)] at hr;injection hr with e1 e2
   rw[←e1,←e2];refine SlBlk.row hg (SlIn.list fun u hu=>?_);simp only[List.mem_append] at hu;rcases hu with (hu|hu)|hu
   · exact hC8.mem (List.mem_of_mem_take hu)
   · exact h8 u hu
   · exact hC8.mem (List.mem_of_mem_drop hu)
  ·
   have holds:∀j u,xs[j]?=some u→w.cell? ((⟨g,0,none⟩:Addr).add j)=some u:=hown0.cells (g:=g) rfl;rw[run_append_grow (P:=Tryz.prog) w 212 ty 75 i (.slice none 0 0) Tryz.underlying212 hi hz ⟨g,0,none⟩ n cap xs (by rw[hs1];simpa using hxl) holds a m cc news hl' hnews (by omega) (by omega) (by rw[hby];exact growslice_fits (by omega) (by omega))] at hr;injection hr with e1 e2
   rw[←e1,←e2];refine SlBlk.new _ _ _ _ _ (((SlIn.list fun u hu=>?_).append (SlIn.list h8)).append (SlIn.zeros _));rw[←htake] at hu;exact hC8.mem (List.mem_of_mem_take hu)
def pw(i:Nat):Nat:=10 ^ (19*2 ^ i)
theorem Qd2(i:Nat):pw (i+1)=pw i*pw i:=by unfold pw;rw[←Nat.pow_add];congr 1;rw[Nat.pow_succ];omega
theorem Qji:pw 0=10000000000000000000:=by decide
theorem Qfx(i:Nat):0<pw i:=Nat.pow_pos (by decide)
def Pows(w:World)(vs:List Value):Prop:=∀i v,vs[i]?=some v→∃a c l,v=.slice a (List.length l) c∧U64 w a c l (pw i)
theorem Pows.below{w w':World}{vs:List Value}(h:Pows w vs)(hb:Below w.heap.size w w'):Pows w' vs:=fun i v hv=>by
 obtain⟨a,c,l,e,hu⟩:=h i v hv;exact⟨a,c,l,e,hu.below hb⟩
theorem Pows.snoc{w:World}{vs:List Value}{a:Option Addr}{c:Nat}{l:List Nat}(h:Pows w vs)(hu:U64 w a c l (pw vs.length)):Pows w (vs++ [.slice a l.length c]):=fun i v hv=>by
 rw[List.getElem?_append] at hv
 split at hv
 · exact h i v hv
 ·
  rename_i hi;rw[List.getElem?_singleton] at hv
  split at hv
  ·
   have hi':i=vs.length:=by omega
   subst hi';injection hv with hv
   exact⟨a,c,l,hv.symm,hu⟩
  · cases hv
theorem U64.grownSl{w w':World}{v:Value}{a:Option Addr}{cap n:Nat}{l:List Nat}(h:U64 w a cap l n)(hg:w.grownBy w' v.ownBlock)(hs:SlBlk w v):U64 w' a cap l n:=by
 refine⟨⟨h.row.fit,?_,fun i hi=>?_⟩,h.num,h.short⟩
 ·
  rcases h.row.shape with h1|⟨b',off,h1,h2⟩
  · exact .inl h1
  · exact .inr ⟨b',off,h1,by have:=hg.size;omega⟩
 ·
  obtain⟨b',off,h1,h2,h3⟩:=h.row.cell i hi;refine⟨b',off,h1,by have:=hg.size;omega,(World.cell?_of_block (w:=w) (hg.block b' h2 ?_)).trans h3⟩;intro hc;obtain⟨C,t,f,hC,h8⟩:=hs b' hc.symm;rw[Lib.cell_of_heap hC] at h3;obtain⟨_,_,_,e⟩:=h8 _ _ h3;cases e
theorem Pows.grown{w w':World}{v:Value}{vs:List Value}(h:Pows w vs)(hg:w.grownBy w' v.ownBlock)(hs:SlBlk w v):Pows w' vs:=fun i u hu=>by
 obtain⟨a,c,l,e,h1⟩:=h i u hu;exact⟨a,c,l,e,h1.grownSl hg hs⟩
theorem Qr4(k:Nat):2 ^ (63*k)≤10 ^ (19*k):=by
 rw[Nat.pow_mul,Nat.pow_mul];exact Nat.pow_le_pow_left (by decide) k
theorem Qjj{w:World}{a:Option Addr}{c i:Nat}{l:List Nat}(h:U64 w a c l (pw i)):63*2 ^ i<64*l.length:=by
 have h1:=Qaa (B:=18446744073709551616) (by decide) h.num.small;rw[h.num.eq] at h1;have h2:2 ^ (63*2 ^ i)≤pw i:=Qr4 _;have h3:(18446744073709551616:Nat) ^ l.length=2 ^ (64*l.length):=by rw[Nat.pow_mul]
 rw[h3] at h1;exact(Nat.pow_lt_pow_iff_right (by decide:1<2)).1 (Nat.lt_of_le_of_lt h2 h1)
theorem Qr5(n:Nat):n+1≤2 ^ n:=Nat.lt_two_pow_self
theorem Qr6{w:World}{a a2:Option Addr}{c c2 i x:Nat}{l m:List Nat}(h:U64 w a c l (pw i))(hx:U64 w a2 c2 m x)(hl:m.length+1<2*l.length):x<pw (i+1):=by
 have h1:=Qaa (B:=18446744073709551616) (by decide) hx.num.small;rw[hx.num.eq] at h1;have h2:=h.num.trim.pow_le (B:=18446744073709551616) (by omega);rw[h.num.eq] at h2;have h3:=Nat.mul_le_mul h2 h2;rw[←Nat.pow_add,←Qd2] at h3;have h4:(18446744073709551616:Nat) ^ m.length≤18446744073709551616 ^ (l.length - 1+(l.length - 1)):=Nat.pow_le_pow_right (by decide) (by omega);omega
theorem Qr7{n k:Nat}(h:63*2 ^ n<64*k)(hk:k≤549755813890):19*2 ^ (n+1)≤140737488355000:=by
 rw[Nat.pow_succ];omega
def PowAns(w:World)(x:Nat)(e:Ending)(w':World):Prop:=(∃g n cap,e=.returned (.slice (some ⟨g,0,none⟩) (n+1) cap)∧n+1≤cap∧(∃vs,List.length vs=n+1∧(∀i v,vs[i]?=some v→w'.cell? ⟨g,i,none⟩=some v)∧Pows w' vs)∧g<w'.heap.size∧x<pw (n+1)∧n≤1099511627770∧19*2 ^ (n+1)≤140737488355000)∧Below w.heap.size w w'
set_option maxHeartbeats 2000000 in
set_option maxRecDepth 100000 in
theorem Qr8(a:Option Addr)(cap x:Nat)(ws:List Nat)(w:World)(h:U64 w a cap ws x)(hl:ws.length≤274877906944):
 Calls Tryz.prog 156 #[.slice a ws.length cap] w (PowAns w x):=by
 obtain⟨i0,hi,hz0,hz1,hz2⟩:=info_parts Tryz.infoNat;have HX:=Hi h;have HI:=Hi hi;have HZ0:=Hi hz0;have HZ1:=Hi hz1;have HZ2:=Hi hz2;clear h hi hz0 hz1 hz2;go_enter Tryz.func156,Tryz.ntmps156;go_wp2_with fail;go_loopw [3,4] (fun lv pv wr=>∃(n:Nat) (vs:List Value) (a1:Option Addr) (c1:Nat) (l1:List Nat),vs.length=n+1∧lv=.slice a1 l1.length c1∧vs[n]?=some lv∧wr.ownsRow w.heap.size 75 1 pv (n+1) vs∧SlBlk wr pv∧Pows wr vs∧U64 wr a1 c1 l1 (pw n)∧l1.length≤2*ws.length+1∧n≤2*ws.length∧Below w.heap.size w wr) (fun _ pv _=>2*ws.length+2 - sliceLen pv)
 case atStart=>
  have hB1:Blk .u64 146 (w.alloc (.cells (wordCells .u64 [10000000000000000000]) 146)) w.heap.size [10000000000000000000]:=Blk.new _ _ _ _;have hU1:U64 (w.alloc (.cells (wordCells .u64 [10000000000000000000]) 146)) (some ⟨w.heap.size,0,none⟩) 1 [10000000000000000000] (pw 0):=⟨hB1.row 1 (by simp) 1 (by omega),⟨fun d hd=>by simp at hd;omega,.inr (by simp),by rw[Qji];simp[val]⟩,by simp⟩;have hbb:Below (w.alloc (.cells (wordCells .u64 [10000000000000000000]) 146)).heap.size (w.alloc (.cells (wordCells .u64 [10000000000000000000]) 146)) ((w.alloc (.cells (wordCells .u64 [10000000000000000000]) 146)).alloc (.cells #[.slice (some ⟨w.heap.size,0,none⟩) 1 1] 75)):=(Below.refl _ _).alloc (Nat.le_refl _) _;have hU2:=hU1.below hbb;refine⟨0,[.slice (some ⟨w.heap.size,0,none⟩) 1 1],some ⟨w.heap.size,0,none⟩,1,[10000000000000000000],rfl,rfl,rfl,?_,?_,?_,hU2,by simp,by omega,?_⟩
  · exact⟨rfl,.inr ⟨w.heap.size+1,1,#[.slice (some ⟨w.heap.size,0,none⟩) 1 1],rfl,by omega,by have:=heap_alloc_new (w.alloc (.cells (wordCells .u64 [10000000000000000000]) 146)) (.cells #[.slice (some ⟨w.heap.size,0,none⟩) 1 1] 75);rw[World.size_alloc] at this;exact this,by omega,by unfold maxLen;omega,rfl,rfl⟩⟩
  ·
   intro g hg;have e:w.heap.size+1=g:=by simpa [Value.ownBlock] using hg
   subst e;refine⟨#[.slice (some ⟨w.heap.size,0,none⟩) 1 1],75,(0,0),by have:=heap_alloc_new (w.alloc (.cells (wordCells .u64 [10000000000000000000]) 146)) (.cells #[.slice (some ⟨w.heap.size,0,none⟩) 1 1] 75);rw[World.size_alloc] at this;exact this,?_⟩;intro i u hu
   match i with
   |0=>simp at hu;exact⟨_,_,_,hu.symm⟩
   |i+1=>simp at hu
  ·
   intro i v hv
   match i with
   |0=>simp at hv;exact⟨_,_,[10000000000000000000],hv.symm,hU2⟩
   |i+1=>simp at hv
  · exact((Below.refl _ _).alloc (Nat.le_refl _) _).alloc (by rw[World.size_alloc];omega) _
 case round=>
  obtain⟨n,vs,a1,c1,l1,hvl,rfl,hlast,hown,hsl,hpw,hu,hlb,hnb,hb⟩:=hrel;have hsl0:=Qg2 hown;have hpl:=Qjj hu;have h2n:=Qr5 n;have HVL:=Hi hvl;have HOW:=Hi hown;have HSL:=Hi hsl;have HPW:=Hi hpw;have HU:=Hi hu;have HB:=Hi hb;have hszb:=hb.size;have hl1:1≤l1.length:=by omega
  have hn1:63*(n+1)<64*l1.length:=by omega
  clear hvl hlast hown hsl hpw hu hb hpl h2n;by_cases hc:2*l1.length≤ws.length+1
  ·
   have q1:(2*(l1.length:Int) - 1≤(ws.length:Int)):=by omega
   have HM:=Hi (Qhx a1 a1 c1 c1 l1 l1 (pw n) (pw n) wr HU.out HU.out (by omega));go_wp2_with fail;go_fit HM.out;rintro e w2 ⟨⟨a2,c2,r2,rfl,hu2⟩,hb2⟩;rw[←Qd2] at hu2;have hr2:r2.length≤2*l1.length:=hu2.num.length_le_of_lt (by decide) (by
    rw[Qd2,show 2*l1.length=l1.length+l1.length by omega,Nat.pow_add];have h1:=Qaa (B:=18446744073709551616) (by decide) HU.out.num.small;rw[HU.out.num.eq] at h1
    exact Nat.mul_lt_mul'' h1 h1)
   have hszb2:=hb2.size;have HU2:=Hi hu2;have HB2:=Hi hb2;clear HM hu2 hb2;have hbA:Below w2.heap.size w2 (w2.alloc (.cells #[.slice a2 r2.length c2] 75)):=(Below.refl _ _).alloc (Nat.le_refl _) _;have hownA:=Qch (Qch HOW.out HB2.out) hbA;have hslA:SlBlk (w2.alloc (.cells #[.slice a2 r2.length c2] 75)) u4:=(HSL.out.below fun g hg=>HB2.out.block g (HOW.out.lt g hg).2).below fun g hg=>hbA.block g (by have:=(HOW.out.lt g hg).2;omega)
   have hn1:∀j u,[Value.slice a2 r2.length c2][j]?=some u→(w2.alloc (.cells #[.slice a2 r2.length c2] 75)).cell? ((⟨w2.heap.size,0,none⟩:Addr).add j)=some u:=World.news_of_block (heap_alloc_new w2 _);have hone:∀u∈ [Value.slice a2 r2.length c2],u.oneCell'=true:=fun u hu=>by rw[List.mem_singleton.1 hu];rfl
   obtain⟨v',w3,hr,hown',hgrow,_,hat⟩:=run_append_own_at (P:=Tryz.prog) (w2.alloc (.cells #[.slice a2 r2.length c2] 75)) w.heap.size 212 212 75 i0 (.slice none 0 0) 1 24 Tryz.underlying212 HI.out HZ0.out HZ1.out HZ2.out rfl (by decide) u4 (n+1) vs hownA ⟨w2.heap.size,0,none⟩ 1 1 [.slice a2 r2.length c2] rfl hn1 hone (by unfold maxLen;omega) (by omega) (by rw[World.size_alloc];omega);have HS3:=Hi (Qr3 (m:=1) HI.out HZ0.out HZ1.out HZ2.out hownA hslA rfl hn1 hone (fun u hu=>⟨_,_,_,List.mem_singleton.1 hu⟩) (by decide) (by omega) hr);have HU3:=Hi ((HU2.out.below hbA).grownSl hgrow hslA);have HP3:=Hi (((HPW.out.below HB2.out).below hbA).grown hgrow hslA);have HO3:=Hi hown';have HB3:=Hi (((HB.out.trans (HB2.out.mono (by omega))).alloc (by omega) (.cells #[.slice a2 r2.length c2] 75)).grown hgrow (by rw[World.size_alloc];omega) (fun k hk=>(HOW.out.lt k hk).1));have HR:=Hi hr
   clear hbA hownA hslA hn1 hone hr hown' hgrow hat;go_wp2_with (at_builtin;refine Qcu _ rfl _ _ 212 212 rfl u4 (.slice (some ⟨w2.heap.size,0,none⟩) 1 1) _ _ rfl rfl HR.out ?_);clear HR;go_wp2;go_roundw
   case rel=>
    refine⟨n+1,vs++ [.slice a2 r2.length c2],a2,c2,r2,by rw[List.length_append,HVL.out];rfl,rfl,?_,HO3.out,HS3.out,HP3.out.snoc (by rw[HVL.out];exact HU3.out),HU3.out,by omega,by omega,HB3.out⟩;rw[List.getElem?_append_right (by rw[HVL.out];omega),HVL.out,Nat.sub_self];rfl
   case measure=>
    rw[hsl0];have:=Qg2 HO3.out;simp only[sliceLen] at this ⊢;simp at this ⊢;omega
  ·
   have q1:¬(2*(l1.length:Int) - 1≤(ws.length:Int)):=by omega
   obtain⟨g,capg,rfl,hbg,hgl⟩:=HOW.out.form (by omega);go_wp2;go_ret;have hcells:=HOW.out.cells (g:=g) rfl;refine⟨⟨g,n,capg,rfl,?_,⟨vs,HVL.out,fun i v hv=>?_,HPW.out⟩,hgl,Qr6 HU.out (HX.out.below HB.out) (by omega),by omega,Qr7 (Qjj HU.out) (by omega)⟩,HB.out⟩
   ·
    rcases HOW.out.2 with ⟨h,_⟩|⟨g',cap',cur,he,_,_,hf,_⟩
    · cases h
    · injection he with _ _ h3
      omega
   ·
    have:=hcells i v hv;rw[Lib.add_plain,Nat.zero_add] at this;exact this
end Go.Proofs.YtbbkamnfjejceaaGreatDoor
