/- num's writeDigits, text; Q. -/
import Derived.Test.YtldjeecnapgakaaGreatDoorS26TextC
namespace Go.Proofs.YtldjeecnapgakaaGreatDoor
open Go.RowKit
set_option linter.unusedVariables false
set_option linter.unusedSimpArgs false
def SlIn(C:Array Value):Prop:=∀(i:Nat) u,C[i]?=some u→∃a n c,u=Value.slice a n c
def SlBlk(w:World)(v:Value):Prop:=∀g,v.ownBlock=some g→∃C t f,w.heap[g]?=some (.cells C t f)∧SlIn C
theorem SlIn.append{C D:Array Value}(h:SlIn C)(k:SlIn D):SlIn (C++D):=fun i u hu=>by
 rw[Array.getElem?_append] at hu
 split at hu
 · exact h _ _ hu
 · exact k _ _ hu
theorem SlIn.zeros(n:Nat):SlIn (Builtin.zeroCells (Value.slice none 0 0).cells n):=fun i u hu=>by
 have hm:=Array.mem_of_getElem? hu;simp[Builtin.zeroCells,Value.cells] at hm;obtain⟨j,hj,e⟩:=hm;rw[Nat.mod_one] at e;exact⟨none,0,0,e.symm⟩
theorem SlIn.list{l:List Value}(h:∀u,u∈ l→∃a n c,u=Value.slice a n c):SlIn l.toArray:=fun i u hu=>h u (by rw[List.getElem?_toArray] at hu;exact List.mem_of_getElem? hu)
theorem SlIn.mem{C:Array Value}(h:SlIn C){u:Value}(hu:u∈ C.toList):∃a n c,u=Value.slice a n c:=by
 obtain⟨i,hi⟩:=List.mem_iff_getElem?.1 hu;exact h i u (by rw[Array.getElem?_toList] at hi;exact hi)
theorem SlBlk.below{w w':World}{v:Value}(h:SlBlk w v)(hb:∀g,v.ownBlock=some g→w'.heap[g]?=w.heap[g]?):SlBlk w' v:=fun g hg=>by
 obtain⟨C,t,f,h1,h2⟩:=h g hg;exact⟨C,t,f,by rw[hb g hg];exact h1,h2⟩
theorem SlBlk.new(w:World)(C:Array Value)(t:TypeId)(n cap:Nat)(h:SlIn C):SlBlk (w.drew.alloc (.cells C t)) (.slice (some ⟨w.heap.size,0,none⟩) n cap):=fun g hg=>by
 have e:w.heap.size=g:=by simpa [Value.ownBlock] using hg
 subst e;exact⟨C,t,_,heap_alloc_new w.drew _,h⟩
theorem SlBlk.row{w:World}{g n cap:Nat}{cur news:Array Value}{t:TypeId}{f:Nat × Nat}(hg:w.heap[g]?=some (.cells cur t f))(h:SlIn news):SlBlk (w.setRow g news) (.slice (some ⟨g,0,none⟩) n cap):=fun g' hg'=>by
 have e:g=g':=by simpa [Value.ownBlock] using hg'
 subst e;exact⟨news,t,f,setRow_heap w g cur _ t _ hg,h⟩
theorem Tryz.infoNat:(Tryz.prog.info? 61).map (fun i=>(i.zero,i.size,i.bytes))=some (some (.slice none 0 0),1,24):=by kernel_rfl
theorem Qrf{w:World}{base:Nat}{v v':Value}{n m cc:Nat}{xs news:List Value}{a:Addr}{w':World}{ty:TypeId}{i:TypeInfo}(hi:Tryz.prog.info? 61=some i)(hz:i.zero=some (.slice none 0 0))(hs1:i.size=1)(hby:i.bytes=24)(hown:w.ownsRow base 61 1 v n xs)(hu:SlBlk w v)
 (hl:news.length=m) (hnews:∀j u,news[j]?=some u→w.cell? (a.add j)=some u) (h1:∀u∈ news,u.oneCell'=true) (h8:∀u,u∈ news→∃a n c,u=Value.slice a n c) (h0:0<m) (h63:n+m≤1099511627776)
 (hr:(Builtin.append_ #[157,157] ty #[v,.slice (some a) m cc]).run Tryz.prog w=.ok v' w'):SlBlk w' v':=by
 have hxl:xs.length=n:=by simpa using hown.1
 have hown0:=hown;have hl':news.length=m*i.size:=by rw[hs1,Nat.mul_one];exact hl
 rcases hown.2 with ⟨rfl,rfl⟩|⟨g,cap,cur,rfl,hbg,hg,hnc,hcm,hcs,htake⟩
 ·
  rw[run_append_nil (P:=Tryz.prog) w 157 ty 61 i (.slice none 0 0) Tryz.underlying157 hi hz a m cc news hl' hnews h0 (by omega) (by rw[hby];omega)] at hr;injection hr with e1 e2
  rw[←e1,←e2];exact SlBlk.new _ _ _ _ _ ((SlIn.list h8).append (SlIn.zeros _))
 ·
  obtain⟨C,tt,ff,hC,hC8⟩:=hu g rfl;rw[hg] at hC;injection hC with hC
  injection hC with hC _ _
  subst hC;by_cases hroom:n+m≤cap
  ·
   rw[run_append_room (P:=Tryz.prog) w 157 ty 61 i Tryz.underlying157 hi g n cap cur hg a m cc news hl' hnews h1 hroom (by rw[hs1];omega)] at hr;injection hr with e1 e2
   rw[←e1,←e2];refine SlBlk.row hg (SlIn.list fun u hu=>?_);simp only[List.mem_append] at hu;rcases hu with (hu|hu)|hu
   · exact hC8.mem (List.mem_of_mem_take hu)
   · exact h8 u hu
   · exact hC8.mem (List.mem_of_mem_drop hu)
  ·
   have holds:∀j u,xs[j]?=some u→w.cell? ((⟨g,0,none⟩:Addr).add j)=some u:=hown0.cells (g:=g) rfl;rw[run_append_grow (P:=Tryz.prog) w 157 ty 61 i (.slice none 0 0) Tryz.underlying157 hi hz ⟨g,0,none⟩ n cap xs (by rw[hs1];simpa using hxl) holds a m cc news hl' hnews (by omega) (by omega) (by rw[hby];exact growslice_fits (by omega) (by omega))] at hr;injection hr with e1 e2
   rw[←e1,←e2];refine SlBlk.new _ _ _ _ _ (((SlIn.list fun u hu=>?_).append (SlIn.list h8)).append (SlIn.zeros _));rw[←htake] at hu;exact hC8.mem (List.mem_of_mem_take hu)
def pw(i:Nat):Nat:=10 ^ (19*2 ^ i)
theorem Qdr(i:Nat):pw (i+1)=pw i*pw i:=by unfold pw;rw[←Nat.pow_add];congr 1;rw[Nat.pow_succ];omega
theorem Qi7:pw 0=10000000000000000000:=by decide
theorem Qfc(i:Nat):0<pw i:=Nat.pow_pos (by decide)
def Pows(w:World)(vs:List Value):Prop:=∀i v,vs[i]?=some v→∃a c l,v=.slice a (List.length l) c∧U64 w a c l (pw i)
theorem Pows.below{w w':World}{vs:List Value}(h:Pows w vs)(hb:Below w.heap.size w w'):Pows w' vs:=fun i v hv=>by
 obtain⟨a,c,l,e,hu⟩:=h i v hv;exact⟨a,c,l,e,hu.below hb⟩
theorem Pows.snoc{w:World}{vs:List Value}{a:Option Addr}{c:Nat}{l:List Nat}(h:Pows w vs)(hu:U64 w a c l (pw vs.length)):Pows w (vs++ [.slice a l.length c]):=fun i v hv=>by
 rw[List.getElem?_append] at hv
 split at hv
 · exact h i v hv
 ·
  rename_i hi;rw[List.getElem?_singleton] at hv
  split at hv
  ·
   have hi':i=vs.length:=by omega
   subst hi';injection hv with hv
   exact⟨a,c,l,hv.symm,hu⟩
  · cases hv
theorem U64.grownSl{w w':World}{v:Value}{a:Option Addr}{cap n:Nat}{l:List Nat}(h:U64 w a cap l n)(hg:w.grownBy w' v.ownBlock)(hs:SlBlk w v):U64 w' a cap l n:=by
 refine⟨⟨h.row.fit,?_,fun i hi=>?_⟩,h.num,h.short⟩
 ·
  rcases h.row.shape with h1|⟨b',off,h1,h2⟩
  · exact .inl h1
  · exact .inr ⟨b',off,h1,by have:=hg.size;omega⟩
 ·
  obtain⟨b',off,h1,h2,h3⟩:=h.row.cell i hi;refine⟨b',off,h1,by have:=hg.size;omega,(World.cell?_of_block (w:=w) (hg.block b' h2 ?_)).trans h3⟩;intro hc;obtain⟨C,t,f,hC,h8⟩:=hs b' hc.symm;rw[Lib.cell_of_heap hC] at h3;obtain⟨_,_,_,e⟩:=h8 _ _ h3;cases e
theorem Pows.grown{w w':World}{v:Value}{vs:List Value}(h:Pows w vs)(hg:w.grownBy w' v.ownBlock)(hs:SlBlk w v):Pows w' vs:=fun i u hu=>by
 obtain⟨a,c,l,e,h1⟩:=h i u hu;exact⟨a,c,l,e,h1.grownSl hg hs⟩
theorem Qrg(k:Nat):2 ^ (63*k)≤10 ^ (19*k):=by
 rw[Nat.pow_mul,Nat.pow_mul];exact Nat.pow_le_pow_left (by decide) k
theorem Qi8{w:World}{a:Option Addr}{c i:Nat}{l:List Nat}(h:U64 w a c l (pw i)):63*2 ^ i<64*l.length:=by
 have h1:=Qac (B:=18446744073709551616) (by decide) h.num.small;rw[h.num.eq] at h1;have h2:2 ^ (63*2 ^ i)≤pw i:=Qrg _;have h3:(18446744073709551616:Nat) ^ l.length=2 ^ (64*l.length):=by rw[Nat.pow_mul]
 rw[h3] at h1;exact(Nat.pow_lt_pow_iff_right (by decide:1<2)).1 (Nat.lt_of_le_of_lt h2 h1)
theorem Qrh(n:Nat):n+1≤2 ^ n:=Nat.lt_two_pow_self
theorem Qri{w:World}{a a2:Option Addr}{c c2 i x:Nat}{l m:List Nat}(h:U64 w a c l (pw i))(hx:U64 w a2 c2 m x)(hl:m.length+1<2*l.length):x<pw (i+1):=by
 have h1:=Qac (B:=18446744073709551616) (by decide) hx.num.small;rw[hx.num.eq] at h1;have h2:=h.num.trim.pow_le (B:=18446744073709551616) (by omega);rw[h.num.eq] at h2;have h3:=Nat.mul_le_mul h2 h2;rw[←Nat.pow_add,←Qdr] at h3;have h4:(18446744073709551616:Nat) ^ m.length≤18446744073709551616 ^ (l.length - 1+(l.length - 1)):=Nat.pow_le_pow_right (by decide) (by omega);omega
theorem Qrj{n k:Nat}(h:63*2 ^ n<64*k)(hk:k≤549755813890):19*2 ^ (n+1)≤140737488355000:=by
 rw[Nat.pow_succ];omega
def PowAns(w:World)(x:Nat)(e:Ending)(w':World):Prop:=(∃g n cap,e=.returned (.slice (some ⟨g,0,none⟩) (n+1) cap)∧n+1≤cap∧(∃vs,List.length vs=n+1∧(∀i v,vs[i]?=some v→w'.cell? ⟨g,i,none⟩=some v)∧Pows w' vs)∧g<w'.heap.size∧x<pw (n+1)∧n≤1099511627770∧19*2 ^ (n+1)≤140737488355000)∧Below w.heap.size w w'
set_option maxHeartbeats 2000000 in
set_option maxRecDepth 100000 in
theorem Qrk(a:Option Addr)(cap x:Nat)(ws:List Nat)(w:World)(h:U64 w a cap ws x)(hl:ws.length≤274877906944):
 Calls Tryz.prog 121 #[.slice a ws.length cap] w (PowAns w x):=by
 obtain⟨i0,hi,hz0,hz1,hz2⟩:=info_parts Tryz.infoNat;have HX:=Hi h;have HI:=Hi hi;have HZ0:=Hi hz0;have HZ1:=Hi hz1;have HZ2:=Hi hz2;clear h hi hz0 hz1 hz2;go_enter Tryz.func121,Tryz.ntmps121;go_wp2_with fail;go_loopw [3,4] (fun lv pv wr=>∃(n:Nat) (vs:List Value) (a1:Option Addr) (c1:Nat) (l1:List Nat),vs.length=n+1∧lv=.slice a1 l1.length c1∧vs[n]?=some lv∧wr.ownsRow w.heap.size 61 1 pv (n+1) vs∧SlBlk wr pv∧Pows wr vs∧U64 wr a1 c1 l1 (pw n)∧l1.length≤2*ws.length+1∧n≤2*ws.length∧Below w.heap.size w wr) (fun _ pv _=>2*ws.length+2 - sliceLen pv)
 case atStart=>
  have hB1:Blk .u64 119 (w.alloc (.cells (wordCells .u64 [10000000000000000000]) 119)) w.heap.size [10000000000000000000]:=Blk.new _ _ _ _;have hU1:U64 (w.alloc (.cells (wordCells .u64 [10000000000000000000]) 119)) (some ⟨w.heap.size,0,none⟩) 1 [10000000000000000000] (pw 0):=⟨hB1.row 1 (by simp) 1 (by omega),⟨fun d hd=>by simp at hd;omega,.inr (by simp),by rw[Qi7];simp[val]⟩,by simp⟩;have hbb:Below (w.alloc (.cells (wordCells .u64 [10000000000000000000]) 119)).heap.size (w.alloc (.cells (wordCells .u64 [10000000000000000000]) 119)) ((w.alloc (.cells (wordCells .u64 [10000000000000000000]) 119)).alloc (.cells #[.slice (some ⟨w.heap.size,0,none⟩) 1 1] 61)):=(Below.refl _ _).alloc (Nat.le_refl _) _;have hU2:=hU1.below hbb;refine⟨0,[.slice (some ⟨w.heap.size,0,none⟩) 1 1],some ⟨w.heap.size,0,none⟩,1,[10000000000000000000],rfl,rfl,rfl,?_,?_,?_,hU2,by simp,by omega,?_⟩
  · exact⟨rfl,.inr ⟨w.heap.size+1,1,#[.slice (some ⟨w.heap.size,0,none⟩) 1 1],rfl,by omega,by have:=heap_alloc_new (w.alloc (.cells (wordCells .u64 [10000000000000000000]) 119)) (.cells #[.slice (some ⟨w.heap.size,0,none⟩) 1 1] 61);rw[World.size_alloc] at this;exact this,by omega,by unfold maxLen;omega,rfl,rfl⟩⟩
  ·
   intro g hg;have e:w.heap.size+1=g:=by simpa [Value.ownBlock] using hg
   subst e;refine⟨#[.slice (some ⟨w.heap.size,0,none⟩) 1 1],61,(0,0),by have:=heap_alloc_new (w.alloc (.cells (wordCells .u64 [10000000000000000000]) 119)) (.cells #[.slice (some ⟨w.heap.size,0,none⟩) 1 1] 61);rw[World.size_alloc] at this;exact this,?_⟩;intro i u hu
   match i with
   |0=>simp at hu;exact⟨_,_,_,hu.symm⟩
   |i+1=>simp at hu
  ·
   intro i v hv
   match i with
   |0=>simp at hv;exact⟨_,_,[10000000000000000000],hv.symm,hU2⟩
   |i+1=>simp at hv
  · exact((Below.refl _ _).alloc (Nat.le_refl _) _).alloc (by rw[World.size_alloc];omega) _
 case round=>
  obtain⟨n,vs,a1,c1,l1,hvl,rfl,hlast,hown,hsl,hpw,hu,hlb,hnb,hb⟩:=hrel;have hsl0:=Qeo hown;have hpl:=Qi8 hu;have h2n:=Qrh n;have HVL:=Hi hvl;have HOW:=Hi hown;have HSL:=Hi hsl;have HPW:=Hi hpw;have HU:=Hi hu;have HB:=Hi hb;have hszb:=hb.size;have hl1:1≤l1.length:=by omega
  have hn1:63*(n+1)<64*l1.length:=by omega
  clear hvl hlast hown hsl hpw hu hb hpl h2n;by_cases hc:2*l1.length≤ws.length+1
  ·
   have q1:(2*(l1.length:Int) - 1≤(ws.length:Int)):=by omega
   have HM:=Hi (Qhx a1 a1 c1 c1 l1 l1 (pw n) (pw n) wr HU.out HU.out (by omega));go_wp2_with fail;go_fit HM.out;rintro e w2 ⟨⟨a2,c2,r2,rfl,hu2⟩,hb2⟩;rw[←Qdr] at hu2;have hr2:r2.length≤2*l1.length:=hu2.num.length_le_of_lt (by decide) (by
    rw[Qdr,show 2*l1.length=l1.length+l1.length by omega,Nat.pow_add];have h1:=Qac (B:=18446744073709551616) (by decide) HU.out.num.small;rw[HU.out.num.eq] at h1
    exact Nat.mul_lt_mul'' h1 h1)
   have hszb2:=hb2.size;have HU2:=Hi hu2;have HB2:=Hi hb2;clear HM hu2 hb2;have hbA:Below w2.heap.size w2 (w2.alloc (.cells #[.slice a2 r2.length c2] 61)):=(Below.refl _ _).alloc (Nat.le_refl _) _;have hownA:=Qbd (Qbd HOW.out HB2.out) hbA;have hslA:SlBlk (w2.alloc (.cells #[.slice a2 r2.length c2] 61)) u4:=(HSL.out.below fun g hg=>HB2.out.block g (HOW.out.lt g hg).2).below fun g hg=>hbA.block g (by have:=(HOW.out.lt g hg).2;omega)
   have hn1:∀j u,[Value.slice a2 r2.length c2][j]?=some u→(w2.alloc (.cells #[.slice a2 r2.length c2] 61)).cell? ((⟨w2.heap.size,0,none⟩:Addr).add j)=some u:=World.news_of_block (heap_alloc_new w2 _);have hone:∀u∈ [Value.slice a2 r2.length c2],u.oneCell'=true:=fun u hu=>by rw[List.mem_singleton.1 hu];rfl
   obtain⟨v',w3,hr,hown',hgrow,_,hat⟩:=run_append_own_at (P:=Tryz.prog) (w2.alloc (.cells #[.slice a2 r2.length c2] 61)) w.heap.size 157 157 61 i0 (.slice none 0 0) 1 24 Tryz.underlying157 HI.out HZ0.out HZ1.out HZ2.out rfl (by decide) u4 (n+1) vs hownA ⟨w2.heap.size,0,none⟩ 1 1 [.slice a2 r2.length c2] rfl hn1 hone (by unfold maxLen;omega) (by omega) (by rw[World.size_alloc];omega);have HS3:=Hi (Qrf (m:=1) HI.out HZ0.out HZ1.out HZ2.out hownA hslA rfl hn1 hone (fun u hu=>⟨_,_,_,List.mem_singleton.1 hu⟩) (by decide) (by omega) hr);have HU3:=Hi ((HU2.out.below hbA).grownSl hgrow hslA);have HP3:=Hi (((HPW.out.below HB2.out).below hbA).grown hgrow hslA);have HO3:=Hi hown';have HB3:=Hi (((HB.out.trans (HB2.out.mono (by omega))).alloc (by omega) (.cells #[.slice a2 r2.length c2] 61)).grown hgrow (by rw[World.size_alloc];omega) (fun k hk=>(HOW.out.lt k hk).1));have HR:=Hi hr
   clear hbA hownA hslA hn1 hone hr hown' hgrow hat;go_wp2_with (at_builtin;refine Qfd _ rfl _ _ 157 157 rfl u4 (.slice (some ⟨w2.heap.size,0,none⟩) 1 1) _ _ rfl rfl HR.out ?_);clear HR;go_wp2;go_roundw
   case rel=>
    refine⟨n+1,vs++ [.slice a2 r2.length c2],a2,c2,r2,by rw[List.length_append,HVL.out];rfl,rfl,?_,HO3.out,HS3.out,HP3.out.snoc (by rw[HVL.out];exact HU3.out),HU3.out,by omega,by omega,HB3.out⟩;rw[List.getElem?_append_right (by rw[HVL.out];omega),HVL.out,Nat.sub_self];rfl
   case measure=>
    rw[hsl0];have:=Qeo HO3.out;simp only[sliceLen] at this ⊢;simp at this ⊢;omega
  ·
   have q1:¬(2*(l1.length:Int) - 1≤(ws.length:Int)):=by omega
   obtain⟨g,capg,rfl,hbg,hgl⟩:=HOW.out.form (by omega);go_wp2;go_ret;have hcells:=HOW.out.cells (g:=g) rfl;refine⟨⟨g,n,capg,rfl,?_,⟨vs,HVL.out,fun i v hv=>?_,HPW.out⟩,hgl,Qri HU.out (HX.out.below HB.out) (by omega),by omega,Qrj (Qi8 HU.out) (by omega)⟩,HB.out⟩
   ·
    rcases HOW.out.2 with ⟨h,_⟩|⟨g',cap',cur,he,_,_,hf,_⟩
    · cases h
    · injection he with _ _ h3
      omega
   ·
    have:=hcells i v hv;rw[Lib.add_plain,Nat.zero_add] at this;exact this
def Pw(w:World)(g n:Nat):Prop:=∀i,i<n→∃a c l,w.cell? ⟨g,i,none⟩=some (.slice a (List.length l) c)∧U64 w a c l (pw i)
theorem Pw.below{w w':World}{g n:Nat}(h:Pw w g n)(hb:Below w.heap.size w w'):Pw w' g n:=fun i hi=>by
 obtain⟨a,c,l,h1,h2⟩:=h i hi;exact⟨a,c,l,(hb.cell (p:=⟨g,i,none⟩) (World.block_lt_of_cell? _ _ h1)).trans h1,h2.below hb⟩
theorem Pw.wrote{B b:Nat}{l:List UInt8}{w w':World}{g n:Nat}(h:Pw w g n)(hd:Bd8 B b l w)(k:Wr b w w'):Pw w' g n:=fun i hi=>by
 obtain⟨a,c,ws,h1,h2⟩:=h i hi;obtain⟨a0,c0,l0,h10,_⟩:=h 0 (by omega);obtain⟨g1,g2⟩:=hd.slice_apart h10;exact⟨a,c,ws,(World.cell?_of_block (w:=w) (a:=⟨g,i,none⟩) (k.block g (World.block_lt_of_cell? _ _ h10) g1 g2)).trans h1,h2.wrote hd k⟩
theorem Pw.less{w:World}{g n m:Nat}(h:Pw w g n)(hm:m≤n):Pw w g m:=fun i hi=>h i (by omega)
theorem Qq7{w:World}{a:Option Addr}{c x:Nat}{l:List Nat}(h:U64 w a c l x)(hx:x<10000000000000000000):l.getD 0 0=x:=by
 have hl:l.length≤1:=h.num.length_le_of_lt (by decide) (by rw[Nat.pow_one];omega);rw[←h.num.eq]
 match l,hl with
 | [],_=>rfl
 | [d],_=>simp[val]
set_option maxHeartbeats 2000000 in
set_option maxRecDepth 100000 in
theorem Qq8(w0:World)(b g:Nat)(hT:Tab w0)(n:Nat):∀(cap:Nat) (fill:Bool) (l:List UInt8) (a:Option Addr) (c x:Nat) (ws:List Nat) (w:World),Below w0.heap.size w0 w→Bd8 w0.heap.size b l w→U64 w a c ws x→Pw w g n→n≤cap→x<pw n→ws.length≤274877906944→n≤1099511627776→l.length+19*2 ^ n≤140737488355328→
 Calls Tryz.prog 120 #[.pointer (some ⟨b,0,none⟩),.slice a ws.length c,.slice (some ⟨g,0,none⟩) n cap,.bool fill] w (Digs w0.heap.size b l fill (19*2 ^ n) x w):=by
 induction n with
 |zero=>
  intro cap fill l a c x ws w hb hd hu hp hnc hx hwl hn hl;rw[Qi7] at hx;have HWD:=Hi (Qbm a c ws 0 w hu.row hu.short (by decide));rw[Qq7 hu hx] at HWD;have HWC:=Hi (Qq6 w0 w b l x fill hT hb hd hx (by simpa using hl));clear hb hd hu hp;go_enter Tryz.func120,Tryz.ntmps120;go_wp2_with fail;go_fit HWD.out;rintro e w1 ⟨rfl,hw⟩;subst hw;clear HWD;go_wp2_with fail;go_fit HWC.out;rintro e w2 ⟨m,ho,rfl,hd2,hb2,hw2⟩;have HO:=Hi ho;have HD2:=Hi hd2;have HB2:=Hi hb2;have HW2:=Hi hw2;clear HWC ho hd2 hb2 hw2;go_wp2;go_end0;exact⟨m,by simpa using HO.out,rfl,HD2.out,HB2.out,HW2.out⟩
 |succ n ih=>
  intro cap fill l a c x ws w hb hd hu hp hnc hx hwl hn hl;obtain⟨ap,cp,lp,hcell,hup⟩:=hp n (by omega);have HDV:=Hi (Qht a ap c cp ws lp x (pw n) w hu hup (Qfc n) (by omega));have HB:=Hi hb;have HD:=Hi hd;have HP:=Hi hp;have HIH:=Hi ih;have hq1:x / pw n<pw n:=by rw[Nat.div_lt_iff_lt_mul (Qfc n)];rw[Qdr] at hx;exact hx
  have hq2:x % pw n<pw n:=Nat.mod_lt _ (Qfc n);have hlen:∀(w':World) (a':Option Addr) (c' y:Nat) (l':List Nat),U64 w' a' c' l' y→y≤x→l'.length≤ws.length:=fun w' a' c' y l' h' hy=>h'.num.length_le_of_lt (by decide) (Nat.lt_of_le_of_lt hy (by have:=Qac (B:=18446744073709551616) (by decide) hu.num.small;rw[hu.num.eq] at this;exact this))
  have HLEN:=Hi hlen;have HX:=Hi (Nat.div_add_mod x (pw n));have h2:19*2 ^ (n+1)=2*(19*2 ^ n):=by rw[Nat.pow_succ];omega
  have HPE:=Hi (show pw n=10 ^ (19*2 ^ n) from rfl);have n1:((n+1:Nat):Int) - 1=(n:Int):=by omega
  have n2:((n:Int)+1) - 1=(n:Int):=by omega
  have n0:(((n+1:Nat):Int) == 0)=false:=by rw[beq_eq_false_iff_ne];omega
  have hsz:w0.heap.size≤w.heap.size:=hb.size;clear hb hd hu hp hup ih hlen;go_enter Tryz.func120,Tryz.ntmps120;go_wp2_with fail;go_fit HDV.out;rintro e w1 ⟨⟨aq,cq,lq,ar,cr,lr,rfl,hq,hr⟩,hb1⟩;have hz:=hq.num.len_zero (by decide);have HL1:=Hi (HLEN.out _ _ _ _ _ hq (Nat.div_le_self _ _));have HL2:=Hi (HLEN.out _ _ _ _ _ hr (Nat.mod_le _ _));have HQ:=Hi hq;have HR:=Hi hr;have HB1:=Hi hb1;have HD1:=Hi (HD.out.below hb1);have HP1:=Hi (HP.out.below hb1);have HW1:=Hi (Wr.below HD.out.lt hb1);have HBB:=Hi (HB.out.trans (hb1.mono hsz));have hsz1:=hb1.size;clear HDV hq hr hb1;cases fill with
  |true=>
   have HC1:=Hi (HIH.out cap true l aq cq (x / pw n) lq w1 HBB.out HD1.out HQ.out (HP1.out.less (by omega)) (by omega) hq1 (by have:=HL1.out;omega) (by omega) (by omega));clear hz;go_wp2_with fail;go_fit HC1.out;rintro e w2 ⟨m1,ho1,rfl,hd2,hb2,hw2⟩;have HO1:=Hi ho1;have HC2:=Hi (HIH.out cap true (l++m1) ar cr (x % pw n) lr w2 (HBB.out.trans hb2) hd2 (HR.out.wrote HD1.out hw2) ((HP1.out.wrote HD1.out hw2).less (by omega)) (by omega) hq2 (by have:=HL2.out;omega) (by omega) (by rw[List.length_append];have:=ho1.most;omega));have HB2:=Hi hb2;have HW2:=Hi hw2;clear HC1 ho1 hd2 hb2 hw2;go_wp2_with fail;go_fit HC2.out;rintro e w3 ⟨m2,ho2,rfl,hd3,hb3,hw3⟩;have HO2:=Hi ho2;have HD3:=Hi hd3;have HB3:=Hi hb3;have HW3:=Hi hw3;clear HC2 ho2 hd3 hb3 hw3;go_wp2;go_end0;have ho:=Qi6 HO1.out HO2.out (.inl rfl);rw[←HPE.out,Nat.mul_comm (x / pw n),HX.out,←h2] at ho
   exact⟨m1++m2,ho,rfl,by rw[←List.append_assoc];exact HD3.out,(HB1.out.mono hsz).trans (HB2.out.trans HB3.out),HW1.out.trans (HW2.out.trans HW3.out)⟩
  |false=>
   by_cases hlq:0<lq.length
   ·
    have q1:((0:Int)<(lq.length:Int)):=by omega
    have HF:Hid (0<x / pw n):=Hi (by
     rcases Nat.eq_zero_or_pos (x / pw n) with h|h
     · have:=hz.1 h;omega
     · exact h)
    have HC1:=Hi (HIH.out cap false l aq cq (x / pw n) lq w1 HBB.out HD1.out HQ.out (HP1.out.less (by omega)) (by omega) hq1 (by have:=HL1.out;omega) (by omega) (by omega));clear hz;go_wp2_with fail;go_fit HC1.out;rintro e w2 ⟨m1,ho1,rfl,hd2,hb2,hw2⟩;have HO1:=Hi ho1;have HC2:=Hi (HIH.out cap true (l++m1) ar cr (x % pw n) lr w2 (HBB.out.trans hb2) hd2 (HR.out.wrote HD1.out hw2) ((HP1.out.wrote HD1.out hw2).less (by omega)) (by omega) hq2 (by have:=HL2.out;omega) (by omega) (by rw[List.length_append];have:=ho1.most;omega));have HB2:=Hi hb2;have HW2:=Hi hw2;clear HC1 ho1 hd2 hb2 hw2;go_wp2_with fail;go_fit HC2.out;rintro e w3 ⟨m2,ho2,rfl,hd3,hb3,hw3⟩;have HO2:=Hi ho2;have HD3:=Hi hd3;have HB3:=Hi hb3;have HW3:=Hi hw3;clear HC2 ho2 hd3 hb3 hw3;go_wp2;go_end0;have ho:=Qi6 HO1.out HO2.out (.inr HF.out);rw[←HPE.out,Nat.mul_comm (x / pw n),HX.out,←h2] at ho
    exact⟨m1++m2,ho,rfl,by rw[←List.append_assoc];exact HD3.out,(HB1.out.mono hsz).trans (HB2.out.trans HB3.out),HW1.out.trans (HW2.out.trans HW3.out)⟩
   ·
    have q1:¬((0:Int)<(lq.length:Int)):=by omega
    have hx0:x % pw n=x:=by
     have h1:=HX.out;rw[hz.2 (by omega),Nat.mul_zero,Nat.zero_add] at h1;exact h1
    have HC2:=Hi (HIH.out cap false l ar cr (x % pw n) lr w1 HBB.out HD1.out HR.out (HP1.out.less (by omega)) (by omega) hq2 (by have:=HL2.out;omega) (by omega) (by omega));clear hz;go_wp2_with fail;go_fit HC2.out;rintro e w3 ⟨m2,ho2,rfl,hd3,hb3,hw3⟩;have HO2:=Hi ho2;have HD3:=Hi hd3;have HB3:=Hi hb3;have HW3:=Hi hw3;clear HC2 ho2 hd3 hb3 hw3;go_wp2;go_end0;have ho:=HO2.out;rw[hx0] at ho;exact⟨m2,ho.grow (by omega),rfl,HD3.out,(HB1.out.mono hsz).trans HB3.out,HW1.out.trans HW3.out⟩
def TextAns(x:Nat)(w:World)(e:Ending)(w':World):Prop:=(∃s:ByteArray,e=.returned (.string s)∧IsDec s.data.toList x∧s.size≤140737488355328)∧Below w.heap.size w w'
set_option maxHeartbeats 2000000 in
set_option maxRecDepth 100000 in
theorem Qq9(a:Option Addr)(c x:Nat)(ws:List Nat)(w:World)(hT:Tab w)(h:U64 w a c ws x)(hl:ws.length≤274877906944):
 Calls Tryz.prog 75 #[.slice a ws.length c] w (TextAns x w):=by
 obtain⟨wA,hwA⟩:∃wA,w.alloc (.cells #[.pointer none,.slice none 0 0] 155)=wA:=⟨_,rfl⟩;have hbA:Below w.heap.size w wA:=by rw[←hwA];exact(Below.refl _ _).alloc (Nat.le_refl _) _
 have hsA:wA.heap[w.heap.size]?=some (.cells #[.pointer none,.slice none 0 0] 155 (0,0)):=by rw[←hwA];exact heap_alloc_new w _
 have hdA:Bd8 w.heap.size w.heap.size [] wA:=⟨.inl ⟨Nat.le_refl _,.slice none 0 0,hsA,World.ownsRow_nil _ _ _ _,by simp[Value.ownBlock]⟩,fun v hv=>by
  rw[Lib.cell_of_heap hsA] at hv;have:v=.slice none 0 0:=by simpa using hv.symm
  subst this;intro g hg
  simp[Value.ownBlock] at hg⟩
 have HPO:=Hi (Qrk a c x ws wA (h.below hbA) hl);have HU:=Hi (h.below hbA);have HD:=Hi hdA;have HBA:=Hi hbA;have HWA:=Hi hwA;have HT:=Hi hT;have hsz:=hbA.size;clear hT h hbA hsA hdA hwA;go_enter Tryz.func75,Tryz.ntmps75;go_wp2_with fail;rw[HWA.out];go_fit HPO.out;rintro e w1 ⟨⟨g,n,cap,rfl,hnc,⟨vs,hvl,hvs,hpows⟩,hgl,hx,hnb,hroom⟩,hb1⟩;have hPw:Pw w1 g (n+1):=fun i hi=>by
  obtain⟨v,hv⟩:∃v,vs[i]?=some v:=⟨vs[i]'(by omega),List.getElem?_eq_getElem (by omega)⟩;obtain⟨a',c',l',e',hu'⟩:=hpows i v hv;exact⟨a',c',l',by rw[hvs i v hv,e'],hu'⟩
 have HWD:=Hi (Qq8 w w.heap.size g HT.out (n+1) cap false [] a c x ws w1 (HBA.out.trans (hb1.mono hsz)) (HD.out.below hb1) (HU.out.below hb1) hPw hnc hx hl (by omega) (by rw[List.length_nil];omega));have HB1:=Hi (HBA.out.trans (hb1.mono hsz));have hsz1:=hb1.size;clear HPO hPw hvl hvs hpows hgl hx hb1;go_wp2_with fail;go_fit HWD.out;rintro e w2 ⟨m,ho,rfl,hd2,hb2,hw2⟩;have HBS:=Hi (Qq3 w.heap.size w.heap.size m w2 (by have:=hd2.bd;rwa [List.nil_append] at this) (by have:=hw2.size;omega));have HDE:=Hi ho.dec;have HML:=Hi ho.most;have HB2:=Hi (HB1.out.trans hb2);clear HWD ho hd2 hb2 hw2;go_wp2_with fail;go_fit HBS.out;rintro e w3 ⟨rfl,hb3⟩;have HB3:=Hi (HB2.out.trans hb3);clear HBS hb3;go_wp2;go_ret;refine⟨⟨_,rfl,HDE.out,?_⟩,HB3.out⟩;have h1:=HML.out;rw[←Qag]
 show m.length≤_
 omega
def QAns(q:Rat)(w:World)(e:Ending)(w':World):Prop:=(∃s:ByteArray,e=.returned (.string s)∧QText s.data.toList q)∧Below w.heap.size w w'
end Go.Proofs.YtldjeecnapgakaaGreatDoor
