/- fractions as values: their cells. -/
import Derived.Test.YtfpcipgoedifaaaGreatDoorK21TextC
import Derived.Test.YtfpcipgoedifaaaGreatDoorK19FracC
namespace Go.Proofs.YtfpcipgoedifaaaGreatDoor
open Go.RowKit
set_option linter.unusedVariables false
set_option linter.unusedSimpArgs false
def SlIn(C:Array Value):Prop:=∀(i:Nat) u,C[i]?=some u->∃a n c,u=Value.slice a n c
def SlBlk(w:World)(v:Value):Prop:=∀g,v.ownBlock=some g->∃C t f,w.heap[g]?=some (.cells C t f)/\SlIn C
theorem SlIn.append{C D:Array Value}(h:SlIn C)(k:SlIn D):SlIn (C++D):=fun i u hu=>by
 rw[Array.getElem?_append] at hu
 split at hu
 · exact h _ _ hu
 · exact k _ _ hu
theorem SlIn.zeros(n:Nat):SlIn (Builtin.zeroCells (Value.slice none 0 0).cells n):=fun i u hu=>by
 have hm:=Array.mem_of_getElem? hu;simp[Builtin.zeroCells,Value.cells] at hm;obtain⟨j,hj,e⟩:=hm;rw[Nat.mod_one] at e;exact⟨none,0,0,e.symm⟩
theorem SlIn.list{l:List Value}(h:∀u,u∈ l->∃a n c,u=Value.slice a n c):SlIn l.toArray:=fun i u hu=>h u (by rw[List.getElem?_toArray] at hu;exact mO hu)
theorem SlIn.mem{C:Array Value}(h:SlIn C){u:Value}(hu:u∈ C.toList):∃a n c,u=Value.slice a n c:=by
 obtain⟨i,hi⟩:=List.mem_iff_getElem?.1 hu;exact h i u (by rw[Array.getElem?_toList] at hi;exact hi)
theorem SlBlk.below{w w':World}{v:Value}(h:SlBlk w v)(hb:∀g,v.ownBlock=some g->w'.heap[g]?=w.heap[g]?):SlBlk w' v:=fun g hg=>by
 obtain⟨C,t,f,h1,h2⟩:=h g hg;exact⟨C,t,f,by rw[hb g hg];exact h1,h2⟩
theorem SlBlk.new(w:World)(C:Array Value)(t:TypeId)(n cap:Nat)(h:SlIn C):SlBlk (w.drew.alloc (.cells C t)) (.slice (some ⟨w.heap.size,0,none⟩) n cap):=fun g hg=>by
 have e:w.heap.size=g:=by simpa [Value.ownBlock] using hg
 subst e;exact⟨C,t,_,heap_alloc_new w.drew _,h⟩
theorem SlBlk.row{w:World}{g n cap:Nat}{cur news:Array Value}{t:TypeId}{f:Nat × Nat}(hg:w.heap[g]?=some (.cells cur t f))(h:SlIn news):SlBlk (w.setRow g news) (.slice (some ⟨g,0,none⟩) n cap):=fun g' hg'=>by
 have e:g=g':=by simpa [Value.ownBlock] using hg'
 subst e;exact⟨news,t,f,setRow_heap w g cur _ t _ hg,h⟩
theorem Tryz.infoNat:(Tryz.prog.info? 101).map (fun i=>(i.zero,i.size,i.bytes))=some (some (.slice none 0 0),1,24):=by kernel_rfl
theorem Qvb{w:World}{base:Nat}{v v':Value}{n m cc:Nat}{xs news:List Value}{a:Addr}{w':World}{ty:TypeId}{i:TypeInfo}(hi:Tryz.prog.info? 101=some i)(hz:i.zero=some (.slice none 0 0))(hs1:i.size=1)(hby:i.bytes=24)(hown:w.ownsRow base 101 1 v n xs)(hu:SlBlk w v)
 (hl:news.length=m) (hnews:∀j u,news[j]?=some u->w.cell? (a.add j)=some u) (h1:∀u∈ news,u.oneCell'=true) (h8:∀u,u∈ news->∃a n c,u=Value.slice a n c) (h0:0<m) (h63:n+m<=1099511627776)
 (hr:(Builtin.append_ #[211,211] ty #[v,.slice (some a) m cc]).run Tryz.prog w=.ok v' w'):SlBlk w' v':=by
 have hxl:xs.length=n:=by simpa using hown.1
 have hown0:=hown;have hl':news.length=m*i.size:=by rw[hs1,Nat.mul_one];exact hl
 rcases hown.2 with ⟨rfl,rfl⟩|⟨g,cap,cur,rfl,hbg,hg,hnc,hcm,hcs,htake⟩
 ·
  rw[run_append_nil (P:=Tryz.prog) w 211 ty 101 i (.slice none 0 0) Tryz.underlying211 hi hz a m cc news hl' hnews h0 (by omega) (by rw[hby];omega)] at hr;injection hr with e1 e2
  rw[<-e1,<-e2];exact SlBlk.new _ _ _ _ _ ((SlIn.list h8).append (SlIn.zeros _))
 ·
  obtain⟨C,tt,ff,hC,hC8⟩:=hu g rfl;rw[hg] at hC;injection hC with hC
  injection hC with hC _ _
  subst hC;by_cases hroom:n+m<=cap
  ·
   rw[run_append_room (P:=Tryz.prog) w 211 ty 101 i Tryz.underlying211 hi g n cap cur hg a m cc news hl' hnews h1 hroom (by rw[hs1];omega)] at hr;injection hr with e1 e2
   rw[<-e1,<-e2];refine SlBlk.row hg (SlIn.list fun u hu=>?_);simp only[List.mem_append] at hu;rcases hu with (hu|hu)|hu
   · exact hC8.mem (List.mem_of_mem_take hu)
   · exact h8 u hu
   · exact hC8.mem (List.mem_of_mem_drop hu)
  ·
   have holds:∀j u,xs[j]?=some u->w.cell? ((⟨g,0,none⟩:Addr).add j)=some u:=hown0.cells (g:=g) rfl;rw[run_append_grow (P:=Tryz.prog) w 211 ty 101 i (.slice none 0 0) Tryz.underlying211 hi hz ⟨g,0,none⟩ n cap xs (by rw[hs1];simpa using hxl) holds a m cc news hl' hnews (by omega) (by omega) (by rw[hby];exact growslice_fits (by omega) (by omega))] at hr;injection hr with e1 e2
   rw[<-e1,<-e2];refine SlBlk.new _ _ _ _ _ (((SlIn.list fun u hu=>?_).append (SlIn.list h8)).append (SlIn.zeros _));rw[<-htake] at hu;exact hC8.mem (List.mem_of_mem_take hu)
def pw(i:Nat):Nat:=10 ^ (19*2 ^ i)
theorem Qen(i:Nat):pw (i+1)=pw i*pw i:=by unfold pw;rw[<-Nat.pow_add];congr 1;rw[Nat.pow_succ];omega
theorem Qlb:pw 0=10000000000000000000:=by decide
theorem Qgf(i:Nat):0<pw i:=Nat.pow_pos (by decide)
def Pows(w:World)(vs:List Value):Prop:=∀i v,vs[i]?=some v->∃a c l,v=.slice a (List.length l) c/\U64 w a c l (pw i)
theorem Pows.below{w w':World}{vs:List Value}(h:Pows w vs)(hb:Below w.heap.size w w'):Pows w' vs:=fun i v hv=>by
 obtain⟨a,c,l,e,hu⟩:=h i v hv;exact⟨a,c,l,e,hu.below hb⟩
theorem Pows.snoc{w:World}{vs:List Value}{a:Option Addr}{c:Nat}{l:List Nat}(h:Pows w vs)(hu:U64 w a c l (pw vs.length)):Pows w (vs++ [.slice a l.length c]):=fun i v hv=>by
 rw[List.getElem?_append] at hv
 split at hv
 · exact h i v hv
 ·
  rename_i hi;rw[List.getElem?_singleton] at hv
  split at hv
  ·
   have hi':i=vs.length:=by omega
   subst hi';injection hv with hv
   exact⟨a,c,l,hv.symm,hu⟩
  · cases hv
theorem U64.grownSl{w w':World}{v:Value}{a:Option Addr}{cap n:Nat}{l:List Nat}(h:U64 w a cap l n)(hg:w.grownBy w' v.ownBlock)(hs:SlBlk w v):U64 w' a cap l n:=by
 refine⟨⟨h.row.fit,?_,fun i hi=>?_⟩,h.num,h.short⟩
 ·
  rcases h.row.shape with h1|⟨b',off,h1,h2⟩
  · exact .inl h1
  · exact .inr ⟨b',off,h1,by have:=hg.size;omega⟩
 ·
  obtain⟨b',off,h1,h2,h3⟩:=h.row.cell i hi;refine⟨b',off,h1,by have:=hg.size;omega,(World.cell?_of_block (w:=w) (hg.block b' h2 ?_)).trans h3⟩;intro hc;obtain⟨C,t,f,hC,h8⟩:=hs b' hc.symm;rw[Lib.cell_of_heap hC] at h3;obtain⟨_,_,_,e⟩:=h8 _ _ h3;cases e
theorem Pows.grown{w w':World}{v:Value}{vs:List Value}(h:Pows w vs)(hg:w.grownBy w' v.ownBlock)(hs:SlBlk w v):Pows w' vs:=fun i u hu=>by
 obtain⟨a,c,l,e,h1⟩:=h i u hu;exact⟨a,c,l,e,h1.grownSl hg hs⟩
theorem Qvc(k:Nat):2 ^ (63*k)<=10 ^ (19*k):=by
 rw[Nat.pow_mul,Nat.pow_mul];exact Nat.pow_le_pow_left (by decide) k
theorem Qlc{w:World}{a:Option Addr}{c i:Nat}{l:List Nat}(h:U64 w a c l (pw i)):63*2 ^ i<64*l.length:=by
 have h1:=Qab (B:=18446744073709551616) (by decide) h.num.small;rw[h.num.eq] at h1;have h2:2 ^ (63*2 ^ i)<=pw i:=Qvc _;have h3:(18446744073709551616:Nat) ^ l.length=2 ^ (64*l.length):=by rw[Nat.pow_mul]
 rw[h3] at h1;exact(Nat.pow_lt_pow_iff_right (by decide:1<2)).1 (Nat.lt_of_le_of_lt h2 h1)
theorem Qvd(n:Nat):n+1<=2 ^ n:=Nat.lt_two_pow_self
theorem Qve{w:World}{a a2:Option Addr}{c c2 i x:Nat}{l m:List Nat}(h:U64 w a c l (pw i))(hx:U64 w a2 c2 m x)(hl:m.length+1<2*l.length):x<pw (i+1):=by
 have h1:=Qab (B:=18446744073709551616) (by decide) hx.num.small;rw[hx.num.eq] at h1;have h2:=h.num.trim.pow_le (B:=18446744073709551616) (by omega);rw[h.num.eq] at h2;have h3:=Nat.mul_le_mul h2 h2;rw[<-Nat.pow_add,<-Qen] at h3;have h4:(18446744073709551616:Nat) ^ m.length<=18446744073709551616 ^ (l.length - 1+(l.length - 1)):=Nat.pow_le_pow_right (by decide) (by omega);omega
theorem Qvf{n k:Nat}(h:63*2 ^ n<64*k)(hk:k<=549755813890):19*2 ^ (n+1)<=140737488355000:=by
 rw[Nat.pow_succ];omega
def PowAns(w:World)(x:Nat)(e:Ending)(w':World):Prop:=(∃g n cap,e=.returned (.slice (some ⟨g,0,none⟩) (n+1) cap)/\n+1<=cap/\(∃vs,List.length vs=n+1/\(∀i v,vs[i]?=some v->w'.cell? ⟨g,i,none⟩=some v)/\Pows w' vs)/\g<w'.heap.size/\x<pw (n+1)/\n<=1099511627770/\19*2 ^ (n+1)<=140737488355000)/\Below w.heap.size w w'
set_option maxHeartbeats 2000000 in
set_option maxRecDepth 100000 in
theorem Qvg(a:Option Addr)(cap x:Nat)(ws:List Nat)(w:World)(h:U64 w a cap ws x)(hl:ws.length<=274877906944):
 Calls Tryz.prog 171 #[.slice a ws.length cap] w (PowAns w x):=by
 obtain⟨i0,hi,hz0,hz1,hz2⟩:=info_parts Tryz.infoNat;have HX:=Hi h;have HI:=Hi hi;have HZ0:=Hi hz0;have HZ1:=Hi hz1;have HZ2:=Hi hz2;clear h hi hz0 hz1 hz2;go_enter Tryz.func171,Tryz.ntmps171;go_wp2_with fail;go_loopw [3,4] (fun lv pv wr=>∃(n:Nat) (vs:List Value) (a1:Option Addr) (c1:Nat) (l1:List Nat),vs.length=n+1/\lv=.slice a1 l1.length c1/\vs[n]?=some lv/\wr.ownsRow w.heap.size 101 1 pv (n+1) vs/\SlBlk wr pv/\Pows wr vs/\U64 wr a1 c1 l1 (pw n)/\l1.length<=2*ws.length+1/\n<=2*ws.length/\Below w.heap.size w wr) (fun _ pv _=>2*ws.length+2 - sliceLen pv)
 case atStart=>
  have hB1:Blk .u64 123 (w.alloc (.cells (wordCells .u64 [10000000000000000000]) 123)) w.heap.size [10000000000000000000]:=Blk.new _ _ _ _;have hU1:U64 (w.alloc (.cells (wordCells .u64 [10000000000000000000]) 123)) (some ⟨w.heap.size,0,none⟩) 1 [10000000000000000000] (pw 0):=⟨hB1.row 1 (by simp) 1 (by omega),⟨fun d hd=>by simp at hd;omega,.inr (by simp),by rw[Qlb];simp[val]⟩,by simp⟩;have hbb:Below (w.alloc (.cells (wordCells .u64 [10000000000000000000]) 123)).heap.size (w.alloc (.cells (wordCells .u64 [10000000000000000000]) 123)) ((w.alloc (.cells (wordCells .u64 [10000000000000000000]) 123)).alloc (.cells #[.slice (some ⟨w.heap.size,0,none⟩) 1 1] 101)):=bR.alloc lZ _;have hU2:=hU1.below hbb;refine⟨0,[.slice (some ⟨w.heap.size,0,none⟩) 1 1],some ⟨w.heap.size,0,none⟩,1,[10000000000000000000],rfl,rfl,rfl,?_,?_,?_,hU2,by simp,by omega,?_⟩
  · exact⟨rfl,.inr ⟨w.heap.size+1,1,#[.slice (some ⟨w.heap.size,0,none⟩) 1 1],rfl,by omega,by have:=heap_alloc_new (w.alloc (.cells (wordCells .u64 [10000000000000000000]) 123)) (.cells #[.slice (some ⟨w.heap.size,0,none⟩) 1 1] 101);rw[World.size_alloc] at this;exact this,by omega,by unfold maxLen;omega,rfl,rfl⟩⟩
  ·
   intro g hg;have e:w.heap.size+1=g:=by simpa [Value.ownBlock] using hg
   subst e;refine⟨#[.slice (some ⟨w.heap.size,0,none⟩) 1 1],101,(0,0),by have:=heap_alloc_new (w.alloc (.cells (wordCells .u64 [10000000000000000000]) 123)) (.cells #[.slice (some ⟨w.heap.size,0,none⟩) 1 1] 101);rw[World.size_alloc] at this;exact this,?_⟩;intro i u hu
   match i with
   |0=>simp at hu;exact⟨_,_,_,hu.symm⟩
   |i+1=>simp at hu
  ·
   intro i v hv
   match i with
   |0=>simp at hv;exact⟨_,_,[10000000000000000000],hv.symm,hU2⟩
   |i+1=>simp at hv
  · exact(bR.alloc lZ _).alloc (by rw[World.size_alloc];omega) _
 case round=>
  obtain⟨n,vs,a1,c1,l1,hvl,rfl,hlast,hown,hsl,hpw,hu,hlb,hnb,hb⟩:=hrel;have hsl0:=Qik hown;have hpl:=Qlc hu;have h2n:=Qvd n;have HVL:=Hi hvl;have HOW:=Hi hown;have HSL:=Hi hsl;have HPW:=Hi hpw;have HU:=Hi hu;have HB:=Hi hb;have hszb:=hb.size;have hl1:1<=l1.length:=by omega
  have hn1:63*(n+1)<64*l1.length:=by omega
  clear hvl hlast hown hsl hpw hu hb hpl h2n;by_cases hc:2*l1.length<=ws.length+1
  ·
   have q1:(2*(l1.length:Int) - 1<=(ws.length:Int)):=by omega
   have HM:=Hi (Qjg a1 a1 c1 c1 l1 l1 (pw n) (pw n) wr HU.out HU.out (by omega));go_wp2_with fail;go_fit HM.out;rintro e w2 ⟨⟨a2,c2,r2,rfl,hu2⟩,hb2⟩;rw[<-Qen] at hu2;have hr2:r2.length<=2*l1.length:=hu2.num.length_le_of_lt (by decide) (by
    rw[Qen,show 2*l1.length=l1.length+l1.length by omega,Nat.pow_add];have h1:=Qab (B:=18446744073709551616) (by decide) HU.out.num.small;rw[HU.out.num.eq] at h1
    exact Nat.mul_lt_mul'' h1 h1)
   have hszb2:=hb2.size;have HU2:=Hi hu2;have HB2:=Hi hb2;clear HM hu2 hb2;have hbA:Below w2.heap.size w2 (w2.alloc (.cells #[.slice a2 r2.length c2] 101)):=bR.alloc lZ _;have hownA:=Qcj (Qcj HOW.out HB2.out) hbA;have hslA:SlBlk (w2.alloc (.cells #[.slice a2 r2.length c2] 101)) u4:=(HSL.out.below fun g hg=>HB2.out.block g (HOW.out.lt g hg).2).below fun g hg=>hbA.block g (by have:=(HOW.out.lt g hg).2;omega)
   have hn1:∀j u,[Value.slice a2 r2.length c2][j]?=some u->(w2.alloc (.cells #[.slice a2 r2.length c2] 101)).cell? ((⟨w2.heap.size,0,none⟩:Addr).add j)=some u:=World.news_of_block (heap_alloc_new w2 _);have hone:∀u∈ [Value.slice a2 r2.length c2],u.oneCell'=true:=fun u hu=>by rw[List.mem_singleton.1 hu];rfl
   obtain⟨v',w3,hr,hown',hgrow,_,hat⟩:=run_append_own_at (P:=Tryz.prog) (w2.alloc (.cells #[.slice a2 r2.length c2] 101)) w.heap.size 211 211 101 i0 (.slice none 0 0) 1 24 Tryz.underlying211 HI.out HZ0.out HZ1.out HZ2.out rfl (by decide) u4 (n+1) vs hownA ⟨w2.heap.size,0,none⟩ 1 1 [.slice a2 r2.length c2] rfl hn1 hone (by unfold maxLen;omega) (by omega) (by rw[World.size_alloc];omega);have HS3:=Hi (Qvb (m:=1) HI.out HZ0.out HZ1.out HZ2.out hownA hslA rfl hn1 hone (fun u hu=>⟨_,_,_,List.mem_singleton.1 hu⟩) (by decide) (by omega) hr);have HU3:=Hi ((HU2.out.below hbA).grownSl hgrow hslA);have HP3:=Hi (((HPW.out.below HB2.out).below hbA).grown hgrow hslA);have HO3:=Hi hown';have HB3:=Hi (((HB.out.trans (HB2.out.mono (by omega))).alloc (by omega) (.cells #[.slice a2 r2.length c2] 101)).grown hgrow (by rw[World.size_alloc];omega) (fun k hk=>(HOW.out.lt k hk).1));have HR:=Hi hr
   clear hbA hownA hslA hn1 hone hr hown' hgrow hat;go_wp2_with (at_builtin;refine Qc1 _ rfl _ _ 211 211 rfl u4 (.slice (some ⟨w2.heap.size,0,none⟩) 1 1) _ _ rfl rfl HR.out ?_);clear HR;go_wp2;go_roundw
   case rel=>
    refine⟨n+1,vs++ [.slice a2 r2.length c2],a2,c2,r2,by rw[List.length_append,HVL.out];rfl,rfl,?_,HO3.out,HS3.out,HP3.out.snoc (by rw[HVL.out];exact HU3.out),HU3.out,by omega,by omega,HB3.out⟩;rw[List.getElem?_append_right (by rw[HVL.out];omega),HVL.out,Nat.sub_self];rfl
   case measure=>
    rw[hsl0];have:=Qik HO3.out;simp only[sliceLen] at this ⊢;simp at this ⊢;omega
  ·
   have q1:¬(2*(l1.length:Int) - 1<=(ws.length:Int)):=by omega
   obtain⟨g,capg,rfl,hbg,hgl⟩:=HOW.out.form (by omega);go_wp2;go_ret;have hcells:=HOW.out.cells (g:=g) rfl;refine⟨⟨g,n,capg,rfl,?_,⟨vs,HVL.out,fun i v hv=>?_,HPW.out⟩,hgl,Qve HU.out (HX.out.below HB.out) (by omega),by omega,Qvf (Qlc HU.out) (by omega)⟩,HB.out⟩
   ·
    rcases HOW.out.2 with ⟨h,_⟩|⟨g',cap',cur,he,_,_,hf,_⟩
    · cases h
    · injection he with _ _ h3
      omega
   ·
    have:=hcells i v hv;rw[Lib.add_plain,Nat.zero_add] at this;exact this
def Pw(w:World)(g n:Nat):Prop:=∀i,i<n->∃a c l,w.cell? ⟨g,i,none⟩=some (.slice a (List.length l) c)/\U64 w a c l (pw i)
theorem Pw.below{w w':World}{g n:Nat}(h:Pw w g n)(hb:Below w.heap.size w w'):Pw w' g n:=fun i hi=>by
 obtain⟨a,c,l,h1,h2⟩:=h i hi;exact⟨a,c,l,ce hb (World.block_lt_of_cell? _ _ h1) h1,h2.below hb⟩
theorem Pw.wrote{B b:Nat}{l:List UInt8}{w w':World}{g n:Nat}(h:Pw w g n)(hd:Bd8 B b l w)(k:Wr b w w'):Pw w' g n:=fun i hi=>by
 obtain⟨a,c,ws,h1,h2⟩:=h i hi;obtain⟨a0,c0,l0,h10,_⟩:=h 0 (by omega);obtain⟨g1,g2⟩:=hd.slice_apart h10;exact⟨a,c,ws,(World.cell?_of_block (w:=w) (a:=⟨g,i,none⟩) (k.block g (World.block_lt_of_cell? _ _ h10) g1 g2)).trans h1,h2.wrote hd k⟩
theorem Pw.less{w:World}{g n m:Nat}(h:Pw w g n)(hm:m<=n):Pw w g m:=fun i hi=>h i (by omega)
theorem Qu3{w:World}{a:Option Addr}{c x:Nat}{l:List Nat}(h:U64 w a c l x)(hx:x<10000000000000000000):l.getD 0 0=x:=by
 have hl:l.length<=1:=h.num.length_le_of_lt (by decide) (by rw[Nat.pow_one];omega);rw[<-h.num.eq]
 match l,hl with
 | [],_=>rfl
 | [d],_=>simp[val]
set_option maxHeartbeats 2000000 in
set_option maxRecDepth 100000 in
theorem Qu4(w0:World)(b g:Nat)(hT:Tab w0)(n:Nat):∀(cap:Nat) (fill:Bool) (l:List UInt8) (a:Option Addr) (c x:Nat) (ws:List Nat) (w:World),Below w0.heap.size w0 w->Bd8 w0.heap.size b l w->U64 w a c ws x->Pw w g n->n<=cap->x<pw n->ws.length<=274877906944->n<=1099511627776->l.length+19*2 ^ n<=140737488355328->
 Calls Tryz.prog 170 #[.pointer (some ⟨b,0,none⟩),.slice a ws.length c,.slice (some ⟨g,0,none⟩) n cap,.bool fill] w (Digs w0.heap.size b l fill (19*2 ^ n) x w):=by
 induction n with
 |zero=>
  intro cap fill l a c x ws w hb hd hu hp hnc hx hwl hn hl;rw[Qlb] at hx;have HWD:=Hi (Qbr a c ws 0 w hu.row hu.short (by decide));rw[Qu3 hu hx] at HWD;have HWC:=Hi (Qu2 w0 w b l x fill hT hb hd hx (by simpa using hl));clear hb hd hu hp;go_enter Tryz.func170,Tryz.ntmps170;go_wp2_with fail;go_fit HWD.out;rintro e w1 ⟨rfl,hw⟩;subst hw;clear HWD;go_wp2_with fail;go_fit HWC.out;rintro e w2 ⟨m,ho,rfl,hd2,hb2,hw2⟩;have HO:=Hi ho;have HD2:=Hi hd2;have HB2:=Hi hb2;have HW2:=Hi hw2;clear HWC ho hd2 hb2 hw2;go_wp2;go_end0;exact⟨m,by simpa using HO.out,rfl,HD2.out,HB2.out,HW2.out⟩
 |succ n ih=>
  intro cap fill l a c x ws w hb hd hu hp hnc hx hwl hn hl;obtain⟨ap,cp,lp,hcell,hup⟩:=hp n (by omega);have HDV:=Hi (Qjc a ap c cp ws lp x (pw n) w hu hup (Qgf n) (by omega));have HB:=Hi hb;have HD:=Hi hd;have HP:=Hi hp;have HIH:=Hi ih;have hq1:x / pw n<pw n:=by rw[Nat.div_lt_iff_lt_mul (Qgf n)];rw[Qen] at hx;exact hx
  have hq2:x % pw n<pw n:=Nat.mod_lt _ (Qgf n);have hlen:∀(w':World) (a':Option Addr) (c' y:Nat) (l':List Nat),U64 w' a' c' l' y->y<=x->l'.length<=ws.length:=fun w' a' c' y l' h' hy=>h'.num.length_le_of_lt (by decide) (Nat.lt_of_le_of_lt hy (by have:=Qab (B:=18446744073709551616) (by decide) hu.num.small;rw[hu.num.eq] at this;exact this))
  have HLEN:=Hi hlen;have HX:=Hi (Nat.div_add_mod x (pw n));have h2:19*2 ^ (n+1)=2*(19*2 ^ n):=by rw[Nat.pow_succ];omega
  have HPE:=Hi (show pw n=10 ^ (19*2 ^ n) from rfl);have n1:((n+1:Nat):Int) - 1=(n:Int):=by omega
  have n2:((n:Int)+1) - 1=(n:Int):=by omega
  have n0:(((n+1:Nat):Int) == 0)=false:=by rw[beq_eq_false_iff_ne];omega
  have hsz:w0.heap.size<=w.heap.size:=hb.size;clear hb hd hu hp hup ih hlen;go_enter Tryz.func170,Tryz.ntmps170;go_wp2_with fail;go_fit HDV.out;rintro e w1 ⟨⟨aq,cq,lq,ar,cr,lr,rfl,hq,hr⟩,hb1⟩;have hz:=hq.num.len_zero (by decide);have HL1:=Hi (HLEN.out _ _ _ _ _ hq (Nat.div_le_self _ _));have HL2:=Hi (HLEN.out _ _ _ _ _ hr (Nat.mod_le _ _));have HQ:=Hi hq;have HR:=Hi hr;have HB1:=Hi hb1;have HD1:=Hi (HD.out.below hb1);have HP1:=Hi (HP.out.below hb1);have HW1:=Hi (Wr.below HD.out.lt hb1);have HBB:=Hi (HB.out.trans (hb1.mono hsz));have hsz1:=hb1.size;clear HDV hq hr hb1;cases fill with
  |true=>
   have HC1:=Hi (HIH.out cap true l aq cq (x / pw n) lq w1 HBB.out HD1.out HQ.out (HP1.out.less (by omega)) (by omega) hq1 (by have:=HL1.out;omega) (by omega) (by omega));clear hz;go_wp2_with fail;go_fit HC1.out;rintro e w2 ⟨m1,ho1,rfl,hd2,hb2,hw2⟩;have HO1:=Hi ho1;have HC2:=Hi (HIH.out cap true (l++m1) ar cr (x % pw n) lr w2 (HBB.out.trans hb2) hd2 (HR.out.wrote HD1.out hw2) ((HP1.out.wrote HD1.out hw2).less (by omega)) (by omega) hq2 (by have:=HL2.out;omega) (by omega) (by rw[List.length_append];have:=ho1.most;omega));have HB2:=Hi hb2;have HW2:=Hi hw2;clear HC1 ho1 hd2 hb2 hw2;go_wp2_with fail;go_fit HC2.out;rintro e w3 ⟨m2,ho2,rfl,hd3,hb3,hw3⟩;have HO2:=Hi ho2;have HD3:=Hi hd3;have HB3:=Hi hb3;have HW3:=Hi hw3;clear HC2 ho2 hd3 hb3 hw3;go_wp2;go_end0;have ho:=Qla HO1.out HO2.out (.inl rfl);rw[<-HPE.out,Nat.mul_comm (x / pw n),HX.out,<-h2] at ho
   exact⟨m1++m2,ho,rfl,by rw[<-List.append_assoc];exact HD3.out,(HB1.out.mono hsz).trans (HB2.out.trans HB3.out),HW1.out.trans (HW2.out.trans HW3.out)⟩
  |false=>
   by_cases hlq:0<lq.length
   ·
    have q1:((0:Int)<(lq.length:Int)):=by omega
    have HF:Hid (0<x / pw n):=Hi (by
     rcases Nat.eq_zero_or_pos (x / pw n) with h|h
     · have:=hz.1 h;omega
     · exact h)
    have HC1:=Hi (HIH.out cap false l aq cq (x / pw n) lq w1 HBB.out HD1.out HQ.out (HP1.out.less (by omega)) (by omega) hq1 (by have:=HL1.out;omega) (by omega) (by omega));clear hz;go_wp2_with fail;go_fit HC1.out;rintro e w2 ⟨m1,ho1,rfl,hd2,hb2,hw2⟩;have HO1:=Hi ho1;have HC2:=Hi (HIH.out cap true (l++m1) ar cr (x % pw n) lr w2 (HBB.out.trans hb2) hd2 (HR.out.wrote HD1.out hw2) ((HP1.out.wrote HD1.out hw2).less (by omega)) (by omega) hq2 (by have:=HL2.out;omega) (by omega) (by rw[List.length_append];have:=ho1.most;omega));have HB2:=Hi hb2;have HW2:=Hi hw2;clear HC1 ho1 hd2 hb2 hw2;go_wp2_with fail;go_fit HC2.out;rintro e w3 ⟨m2,ho2,rfl,hd3,hb3,hw3⟩;have HO2:=Hi ho2;have HD3:=Hi hd3;have HB3:=Hi hb3;have HW3:=Hi hw3;clear HC2 ho2 hd3 hb3 hw3;go_wp2;go_end0;have ho:=Qla HO1.out HO2.out (.inr HF.out);rw[<-HPE.out,Nat.mul_comm (x / pw n),HX.out,<-h2] at ho
    exact⟨m1++m2,ho,rfl,by rw[<-List.append_assoc];exact HD3.out,(HB1.out.mono hsz).trans (HB2.out.trans HB3.out),HW1.out.trans (HW2.out.trans HW3.out)⟩
   ·
    have q1:¬((0:Int)<(lq.length:Int)):=by omega
    have hx0:x % pw n=x:=by
     have h1:=HX.out;rw[hz.2 (by omega),Nat.mul_zero,Nat.zero_add] at h1;exact h1
    have HC2:=Hi (HIH.out cap false l ar cr (x % pw n) lr w1 HBB.out HD1.out HR.out (HP1.out.less (by omega)) (by omega) hq2 (by have:=HL2.out;omega) (by omega) (by omega));clear hz;go_wp2_with fail;go_fit HC2.out;rintro e w3 ⟨m2,ho2,rfl,hd3,hb3,hw3⟩;have HO2:=Hi ho2;have HD3:=Hi hd3;have HB3:=Hi hb3;have HW3:=Hi hw3;clear HC2 ho2 hd3 hb3 hw3;go_wp2;go_end0;have ho:=HO2.out;rw[hx0] at ho;exact⟨m2,ho.grow (by omega),rfl,HD3.out,(HB1.out.mono hsz).trans HB3.out,HW1.out.trans HW3.out⟩
def TextAns(x:Nat)(w:World)(e:Ending)(w':World):Prop:=(∃s:ByteArray,e=.returned (.string s)/\IsDec s.data.toList x/\s.size<=140737488355328)/\Below w.heap.size w w'
set_option maxHeartbeats 2000000 in
set_option maxRecDepth 100000 in
theorem Qu5(a:Option Addr)(c x:Nat)(ws:List Nat)(w:World)(hT:Tab w)(h:U64 w a c ws x)(hl:ws.length<=274877906944):
 Calls Tryz.prog 143 #[.slice a ws.length c] w (TextAns x w):=by
 obtain⟨wA,hwA⟩:=nm (w.alloc (.cells #[.pointer none,.slice none 0 0] 209));have hbA:Below w.heap.size w wA:=by rw[<-hwA];exact(Below.refl _ _).alloc lZ _
 have hsA:wA.heap[w.heap.size]?=some (.cells #[.pointer none,.slice none 0 0] 209 (0,0)):=by rw[<-hwA];exact heap_alloc_new w _
 have hdA:Bd8 w.heap.size w.heap.size [] wA:=⟨.inl ⟨Nat.le_refl _,.slice none 0 0,hsA,World.ownsRow_nil _ _ _ _,by simp[Value.ownBlock]⟩,fun v hv=>by
  rw[Lib.cell_of_heap hsA] at hv;have:v=.slice none 0 0:=by simpa using hv.symm
  subst this;intro g hg
  simp[Value.ownBlock] at hg⟩
 have HPO:=Hi (Qvg a c x ws wA (h.below hbA) hl);have HU:=Hi (h.below hbA);have HD:=Hi hdA;have HBA:=Hi hbA;have HWA:=Hi hwA;have HT:=Hi hT;have hsz:=hbA.size;clear hT h hbA hsA hdA hwA;go_enter Tryz.func143,Tryz.ntmps143;go_wp2_with fail;rw[HWA.out];go_fit HPO.out;rintro e w1 ⟨⟨g,n,cap,rfl,hnc,⟨vs,hvl,hvs,hpows⟩,hgl,hx,hnb,hroom⟩,hb1⟩;have hPw:Pw w1 g (n+1):=fun i hi=>by
  obtain⟨v,hv⟩:∃v,vs[i]?=some v:=⟨vs[i]'(by omega),gE (by omega)⟩;obtain⟨a',c',l',e',hu'⟩:=hpows i v hv;exact⟨a',c',l',by rw[hvs i v hv,e'],hu'⟩
 have HWD:=Hi (Qu4 w w.heap.size g HT.out (n+1) cap false [] a c x ws w1 (HBA.out.trans (hb1.mono hsz)) (HD.out.below hb1) (HU.out.below hb1) hPw hnc hx hl (by omega) (by rw[List.length_nil];omega));have HB1:=Hi (HBA.out.trans (hb1.mono hsz));have hsz1:=hb1.size;clear HPO hPw hvl hvs hpows hgl hx hb1;go_wp2_with fail;go_fit HWD.out;rintro e w2 ⟨m,ho,rfl,hd2,hb2,hw2⟩;have HBS:=Hi (Quz w.heap.size w.heap.size m w2 (by have:=hd2.bd;rwa [List.nil_append] at this) (by have:=hw2.size;omega));have HDE:=Hi ho.dec;have HML:=Hi ho.most;have HB2:=Hi (HB1.out.trans hb2);clear HWD ho hd2 hb2 hw2;go_wp2_with fail;go_fit HBS.out;rintro e w3 ⟨rfl,hb3⟩;have HB3:=Hi (HB2.out.trans hb3);clear HBS hb3;go_wp2;go_ret;refine⟨⟨_,rfl,HDE.out,?_⟩,HB3.out⟩;have h1:=HML.out;rw[<-Qah]
 show m.length<=_
 omega
def QAns(q:Rat)(w:World)(e:Ending)(w':World):Prop:=(∃s:ByteArray,e=.returned (.string s)/\QText s.data.toList q)/\Below w.heap.size w w'
theorem Qch(s t:ByteArray):(s++t).data.toList=s.data.toList++t.data.toList:=by simp[ByteArray.data_append]
theorem Qoz(w:World)(d:Nat)(a:Option Addr)(n c:Nat):(Op.equalIn (d+1) 101 (.slice a n c) (.slice none 0 0)).run Tryz.prog w=.ok a.isNone w:=by
 cases a<;>simp[Op.equalIn,run_underlying Tryz.underlying101]
theorem Qo0(w:World)(a:Option Addr)(n c:Nat):(Op.equal 101 (.slice a n c) (.slice none 0 0)).run Tryz.prog w=.ok a.isNone w:=Qoz w 9999 a n c
theorem Qo1(w:World)(a:Option Addr)(n c:Nat):(binOp .neq 101 (.slice a n c) (.slice none 0 0)).run Tryz.prog w=.ok (.bool a.isSome) w:=by
 cases a<;>simp[binOp,Qo0]
theorem Qfc{a:Option Addr}{n c x K:Nat}{w:World}(hT:Tab w)(h:NumV w a n c x)(hx:x<2 ^ K)(hK:K<=274877906944):Calls Tryz.prog 143 #[.slice a n c] w (TextAns x w):=by
 obtain⟨l,rfl,h⟩:=h;exact Qu5 a c x l w hT h (Nat.le_trans (h.len_bits hx) hK)
set_option maxHeartbeats 2000000 in
set_option maxRecDepth 100000 in
theorem num_Q(neg:Bool)(a b:Option Addr)(n c m d K:Nat)(q:Rat)(w:World)(hT:Tab w)(h:FracAt w neg a n c b m d q)(hf:Fits q K)(hK:K<=274877906944):
 Calls Tryz.prog 101 #[.agg #[.bool neg,.slice a n c,.slice b m d]] w (QAns q w):=by
 have hq:=Qo1;obtain⟨wA,hwA⟩:=nm (w.alloc (.cells #[.bool neg,.slice a n c,.slice b m d] 103));have hbA:Below w.heap.size w wA:=by rw[<-hwA];exact(Below.refl _ _).alloc lZ _
 have hsb:SB wA w.heap.size 103 #[.bool neg,.slice a n c,.slice b m d]:=by rw[<-hwA];exact SB.new w _ _
 have HT1:=Hi (Qfc (hT.below hbA) (h.top.below hbA) hf.1 hK);have HLO:=Hi (h.low.below hbA);have HTA:=Hi (hT.below hbA);have HNG:=Hi h.neg;have HF:=Hi hf;have HSB:=Hi hsb;have HBA:=Hi hbA;have HWA:=Hi hwA;have hsz:=hbA.size;clear hT h hf hbA hsb hwA;go_enter Tryz.func101,Tryz.ntmps101;obtain⟨-,k1,-⟩:=zc HSB.out;go_wp2_with fail;rw[HWA.out];go_fit HT1.out;rintro e w1 ⟨⟨s1,rfl,hd1,hs1⟩,hb1⟩;have HD1:=Hi hd1;have HB1:=Hi (HBA.out.trans (hb1.mono hsz));have HL1:=Hi (HLO.out.below hb1);have HTB:=Hi (HTA.out.below hb1);have hsb1:=HSB.out.below hb1 HSB.out.lt;obtain⟨g0,-,g2,-⟩:=zc hsb1;have hsz1:=hb1.size;clear HT1 hd1 hb1 hsb1 k1 HLO HTA;cases neg with
 |true=>
  have HSI:Hid (IntText ((⟨#[45]⟩:ByteArray)++s1).data.toList q.num):=Hi ⟨s1.data.toList,HD1.out,by rw[if_pos (of_decide_eq_true HNG.out.symm),Qch];rfl⟩;rcases HL1.out with ⟨rfl,rfl,rfl,hden⟩|⟨hden,hl⟩
  ·
   go_wp2;go_ret;exact⟨⟨_,rfl,_,HSI.out,.inl ⟨hden,rfl⟩⟩,HB1.out⟩
  ·
   obtain⟨bb,bo,rfl⟩:=hl.some (by omega);have HT2:=Hi (Qfc HTB.out hl HF.out.2 hK);clear hl;go_wp2_with fail;go_fit HT2.out;rintro e w2 ⟨⟨s2,rfl,hd2,hs2⟩,hb2⟩;have HD2:=Hi hd2;have HB2:=Hi (HB1.out.trans (hb2.mono HB1.out.size));clear HT2 hd2 hb2;go_wp2;go_ret;exact⟨⟨_,rfl,_,HSI.out,.inr ⟨by omega,_,HD2.out,by rw[Qch,Qch];rfl⟩⟩,HB2.out⟩
 |false=>
  have HSI:Hid (IntText s1.data.toList q.num):=Hi ⟨s1.data.toList,HD1.out,by rw[if_neg (of_decide_eq_false HNG.out.symm)]⟩;rcases HL1.out with ⟨rfl,rfl,rfl,hden⟩|⟨hden,hl⟩
  ·
   go_wp2;go_ret;exact⟨⟨_,rfl,_,HSI.out,.inl ⟨hden,rfl⟩⟩,HB1.out⟩
  ·
   obtain⟨bb,bo,rfl⟩:=hl.some (by omega);have HT2:=Hi (Qfc HTB.out hl HF.out.2 hK);clear hl;go_wp2_with fail;go_fit HT2.out;rintro e w2 ⟨⟨s2,rfl,hd2,hs2⟩,hb2⟩;have HD2:=Hi hd2;have HB2:=Hi (HB1.out.trans (hb2.mono HB1.out.size));clear HT2 hd2 hb2;go_wp2;go_ret;exact⟨⟨_,rfl,_,HSI.out,.inr ⟨by omega,_,HD2.out,by rw[Qch,Qch];rfl⟩⟩,HB2.out⟩
theorem Qo2{v:Value}{K:Nat}{q:Rat}{w:World}(hT:Tab w)(h:FracV w v q)(hf:Fits q K)(hK:K<=274877906944):Calls Tryz.prog 101 #[v] w (QAns q w):=by
 obtain⟨neg,a,n,c,b,m,d,rfl,h⟩:=h;exact num_Q neg a b n c m d K q w hT h hf hK
set_option maxHeartbeats 1000000 in
set_option maxRecDepth 100000 in
theorem Qh9(a1 a2:Option Addr)(c1 c2:Nat)(l m:List Nat)(w:World)(h1:Row .u64 w a1 c1 l)(h2:Row .u64 w a2 c2 m)(hl:l.length<=1099511627776)(hm:m.length<=1099511627776):
 Calls Tryz.prog 179 #[.slice a1 l.length c1,.slice a2 m.length c2] w fun e w'=>e=.returned (.bool (decide (l=m)))/\Below w.heap.size w w':=by
 have H1:=Hi h1;have H2:=Hi h2;clear h1 h2;by_cases hlm:l.length=m.length
 ·
  have q1:((l.length:Int) != (m.length:Int))=false:=by simp[hlm]
  have q2:((l.length:Int) == (m.length:Int))=true:=by simp[hlm]
  go_enter Tryz.func179,Tryz.ntmps179;go_wp2;go_loopw [13] (fun iv wr=>∃k:Nat,k<=l.length/\iv=.int .i64 k/\l.take k=m.take k/\Below w.heap.size w wr) (fun iv _=>l.length - (intOf iv).toNat)
  case atStart=>exact⟨0,by omega,rfl,by simp,Below.refl _ _⟩
  case round=>
   obtain⟨k,hk,rfl,ht,hb⟩:=hrel;have HT:=Hi ht;have HB:=Hi hb;clear ht hb;by_cases hlt:k<l.length
   ·
    obtain⟨b1,o1,rfl,hb1,hc1⟩:=(H1.out.below HB.out).cell k hlt;obtain⟨b2,o2,rfl,hb2,hc2⟩:=(H2.out.below HB.out).cell k (by omega);obtain⟨x,hx⟩:=nm (l.getD k 0);obtain⟨y,hy⟩:=nm (m.getD k 0);rw[hx] at hc1;rw[hy] at hc2;have HXX:=Hi hx;have HYY:=Hi hy;have e1:l.take (k+1)=l.take k++ [x]:=by rw[List.take_succ_eq_append_getElem hlt,<-hx,List.getD_eq_getElem?_getD,gE hlt];rfl
    have e2:m.take (k+1)=m.take k++ [y]:=by rw[List.take_succ_eq_append_getElem (by omega),<-hy,List.getD_eq_getElem?_getD,gE (by omega)];rfl
    have HE1:=Hi e1;have HE2:=Hi e2;clear hx hy e1 e2;by_cases hxy:x=y
    ·
     subst hxy;have q3:((x:Int) == (x:Int))=true:=by simp
     go_wp2_with fail;go_region
     all_goals
      go_wp2;go_roundw
      case rel=>exact⟨k+1,by omega,by go_num,by rw[HE1.out,HE2.out,HT.out],HB.out.drew⟩
      case measure=>simp[intOf];omega
    ·
     have q3:((x:Int) == (y:Int))=false:=by rw[beq_eq_false_iff_ne];omega
     have q4:((x:Int) != (y:Int))=true:=by rw[bne_iff_ne];omega
     have HNE:Hid (decide (l=m)=false):=Hi (decide_eq_false (fun h=>by
      have h1:=HXX.out;rw[h,HYY.out] at h1
      exact hxy h1.symm))
     go_wp2_with fail;go_region
     all_goals
      go_wp2;go_ret;exact⟨by rw[HNE.out];rfl,HB.out.drew⟩
   ·
    have hk':k=l.length:=by omega
    subst hk';have HEQ:Hid (decide (l=m)=true):=Hi (decide_eq_true (by have:=HT.out;rwa [List.take_length,List.take_of_length_le (by omega)] at this));go_wp2;go_ret;exact⟨by rw[HEQ.out];rfl,HB.out⟩
 ·
  have q1:((l.length:Int) != (m.length:Int))=true:=by rw[bne_iff_ne];omega
  have q2:((l.length:Int) == (m.length:Int))=false:=by rw[beq_eq_false_iff_ne];omega
  have HNE:Hid (decide (l=m)=false):=Hi (decide_eq_false (fun h=>hlm (by rw[h])));go_enter Tryz.func179,Tryz.ntmps179;go_wp2;go_ret;exact⟨by rw[HNE.out];rfl,Below.refl _ _⟩
theorem Low.row{w:World}{b:Option Addr}{m d k:Nat}(h:Low w b m d k):∃L:List Nat,L.length=m/\Row .u64 w b d L/\L.length<=1099511627776/\((L= []/\k=1)∨(1<k/\Num 18446744073709551616 L k)):=by
 rcases h with ⟨rfl,rfl,rfl,rfl⟩|⟨h,l,hl,hu⟩
 · exact⟨[],rfl,Row.nil _ _,by simp,.inl ⟨rfl,rfl⟩⟩
 · exact⟨l,hl,hu.row,hu.short,.inr ⟨h,hu.num⟩⟩
theorem Qia{L M:List Nat}{j k:Nat}(h1:(L= []/\j=1)∨(1<j/\Num 18446744073709551616 L j))(h2:(M= []/\k=1)∨(1<k/\Num 18446744073709551616 M k)):L=M↔j=k:=by
 rcases h1 with ⟨rfl,rfl⟩|⟨g1,n1⟩<;>rcases h2 with ⟨rfl,rfl⟩|⟨g2,n2⟩
 · simp
 ·
  constructor
  · rintro rfl;have:=n2.eq;simp[val] at this;omega
  · intro h;omega
 ·
  constructor
  · rintro rfl;have:=n1.eq;simp[val] at this;omega
  · intro h;omega
 ·
  constructor
  · rintro rfl;rw[<-n1.eq,<-n2.eq]
  · rintro rfl;exact n1.inj (by decide) n2
theorem Qo3(p q:Rat):p=q↔(decide (p.num<0)=decide (q.num<0)/\p.num.natAbs=q.num.natAbs/\p.den=q.den):=by
 constructor
 · rintro rfl;exact⟨rfl,rfl,rfl⟩
 ·
  rintro⟨h1,h2,h3⟩;refine Rat.ext ?_ h3;rw[<-Qbm p.num,<-Qbm q.num,h1,h2]
set_option maxHeartbeats 1000000 in
set_option maxRecDepth 100000 in
theorem Qo4(nx ny:Bool)(ax bx ay b2:Option Addr)(lx cx mx dx ly cy my dy:Nat)(p q:Rat)(w:World)(hx:FracAt w nx ax lx cx bx mx dx p)(hy:FracAt w ny ay ly cy b2 my dy q):
 Calls Tryz.prog 155 #[.agg #[.bool nx,.slice ax lx cx,.slice bx mx dx],.agg #[.bool ny,.slice ay ly cy,.slice b2 my dy]] w fun e w'=>e=.returned (.bool (decide (p=q)))/\Below w.heap.size w w':=by
 obtain⟨lX,rfl,hX⟩:=hx.top;obtain⟨lY,rfl,hY⟩:=hy.top;obtain⟨LX,rfl,hLX,hLXs,hLXk⟩:=hx.low.row;obtain⟨LY,rfl,hLY,hLYs,hLYk⟩:=hy.low.row;have hT:decide (lX=lY)=decide (p.num.natAbs=q.num.natAbs):=by
  by_cases h:p.num.natAbs=q.num.natAbs
  · rw[decide_eq_true h];rw[h] at hX;exact decide_eq_true (hX.num.inj (by decide) hY.num)
  · rw[decide_eq_false h];exact decide_eq_false (fun hc=>h (by rw[<-hX.num.eq,<-hY.num.eq,hc]))
 have hL:decide (LX=LY)=decide (p.den=q.den):=by
  by_cases h:p.den=q.den
  · rw[decide_eq_true h];exact decide_eq_true ((Qia hLXk hLYk).2 h)
  · rw[decide_eq_false h];exact decide_eq_false (fun hc=>h ((Qia hLXk hLYk).1 hc))
 have hpq:=Qo3 p q;rw[<-hx.neg,<-hy.neg] at hpq;obtain⟨wA,hwA⟩:=nm ((w.alloc (.cells #[.bool nx,.slice ax lX.length cx,.slice bx LX.length dx] 103)).alloc (.cells #[.bool ny,.slice ay lY.length cy,.slice b2 LY.length dy] 103));have hbA:Below w.heap.size w wA:=by rw[<-hwA];exact Below.new2 w _ _
 have hsy:SB wA (w.heap.size+1) 103 #[.bool ny,.slice ay lY.length cy,.slice b2 LY.length dy]:=by rw[<-hwA];exact SB.new2 w _ _ _ _
 have hsx:SB wA w.heap.size 103 #[.bool nx,.slice ax lX.length cx,.slice bx LX.length dx]:=by rw[<-hwA];exact(SB.new w _ _).alloc _
 have HT1:=Hi (Qh9 ax ay cx cy lX lY wA (hX.row.below hbA) (hY.row.below hbA) hX.short hY.short);have HT2:=Hi (fun w1 hb=>Qh9 bx b2 dx dy LX LY w1 ((hLX.below hbA).below hb) ((hLY.below hbA).below hb) hLXs hLYs);rw[hT] at HT1;rw[hL] at HT2;obtain⟨x0,x1,-⟩:=zc hsx;obtain⟨y0,y1,-⟩:=zc hsy;have HSX:=Hi hsx;have HSY:=Hi hsy;have HBA:=Hi hbA;have HWA:=Hi hwA;have HPQ:=Hi hpq;have hsz:=hbA.size;clear hx hy hX hY hLX hLXs hLXk hLY hLYs hLYk hT hL hpq hbA hsx hsy hwA;by_cases hn:nx=ny
 ·
  subst hn;by_cases ht:p.num.natAbs=q.num.natAbs
  ·
   rw[decide_eq_true ht] at HT1;go_enter Tryz.func155,Tryz.ntmps155;go_wp2_with fail;rw[HWA.out];go_fit HT1.out;rintro e w1 ⟨rfl,hb1⟩;have HC2:=Hi (HT2.out w1 hb1);have hsx1:=HSX.out.below hb1 HSX.out.lt;have hsy1:=HSY.out.below hb1 HSY.out.lt;obtain⟨-,-,x2,-⟩:=zc hsx1;obtain⟨-,-,y2,-⟩:=zc hsy1;have HB1:=Hi (HBA.out.trans (hb1.mono hsz));clear HT1 HT2 hb1 hsx1 hsy1;go_wp2_with fail;go_fit HC2.out;rintro e w2 ⟨rfl,hb2⟩;have HB2:=Hi (HB1.out.trans (hb2.mono HB1.out.size));clear HC2 hb2;go_wp2;go_ret;refine⟨?_,HB2.out⟩;by_cases hd:p.den=q.den
   · rw[decide_eq_true hd,decide_eq_true (HPQ.out.2 ⟨by trivial,ht,hd⟩)];rfl
   · rw[decide_eq_false hd,decide_eq_false (fun h=>hd (HPQ.out.1 h).2.2)];rfl
  ·
   rw[decide_eq_false ht] at HT1;have HNE:Hid (decide (p=q)=false):=Hi (decide_eq_false (fun h=>ht (HPQ.out.1 h).2.1));go_enter Tryz.func155,Tryz.ntmps155;go_wp2_with fail;rw[HWA.out];go_fit HT1.out;rintro e w1 ⟨rfl,hb1⟩;have HB1:=Hi (HBA.out.trans (hb1.mono hsz));clear HT1 HT2 hb1;go_wp2;go_ret;exact⟨by rw[HNE.out];rfl,HB1.out⟩
 ·
  have q0:(nx == ny)=false:=by simpa using hn
  have HNE:Hid (decide (p=q)=false):=Hi (decide_eq_false (fun h=>hn (HPQ.out.1 h).1));clear HT1 HT2;go_enter Tryz.func155,Tryz.ntmps155;go_wp2;go_ret;exact⟨by rw[HNE.out];rfl,by rw[HWA.out];exact HBA.out⟩
theorem Qo5{v1 v2:Value}{p q:Rat}{w:World}(hx:FracV w v1 p)(hy:FracV w v2 q):Calls Tryz.prog 155 #[v1,v2] w fun e w'=>e=.returned (.bool (decide (p=q)))/\Below w.heap.size w w':=by
 obtain⟨nx,ax,lx,cx,bx,mx,dx,rfl,hx⟩:=hx;obtain⟨ny,ay,ly,cy,b2,my,dy,rfl,hy⟩:=hy;exact Qo4 nx ny ax bx ay b2 lx cx mx dx ly cy my dy p q w hx hy
def hasTen:Prop:=(Tryz.prog.globalNamed "internal/strconv.uint64pow10").isSome=true
structure Glob (w:World):Prop where
 most:∃m,w.cell? ⟨0,0,none⟩=some (.int .i64 m)
 tab:hasTen->Tab w
theorem Glob.below{w w':World}(h:Glob w)(hb:Below w.heap.size w w'):Glob w':=by
 obtain⟨m,hm⟩:=h.most;exact⟨⟨m,ce hb (World.block_lt_of_cell? _ _ hm) hm⟩,fun h9=>(h.tab h9).below hb⟩
structure FE where
 x:Value
 y:Value
 z:Value
 q:Rat
 k:Nat
structure FBag (w0 w:World) (L:List FE):Prop where
 base:Below w0.heap.size w0 w
 glob:Glob w0
 ts:∀t,t∈ L->FracV w (.agg #[t.x,t.y,t.z]) t.q/\Fits t.q t.k/\0<t.k
theorem FBag.start{w:World}(h:Glob w):FBag w w []:=⟨Below.refl _ _,h,fun t ht=>by cases ht⟩
theorem FBag.below{w0 w w':World}{L:List FE}(h:FBag w0 w L)(hb:Below w.heap.size w w'):FBag w0 w' L:=
 ⟨h.base.trans (hb.mono h.base.size),h.glob,fun t ht=>⟨(h.ts t ht).1.below hb,(h.ts t ht).2⟩⟩
theorem FBag.drew{w0 w:World}{L:List FE}(h:FBag w0 w L):FBag w0 w.drew L:=h.below bR.drew
theorem FBag.globNow{w0 w:World}{L:List FE}(h:FBag w0 w L):Glob w:=h.glob.below h.base
theorem FBag.get{w0 w:World}{L:List FE}{x y z:Value}{q:Rat}{k:Nat}(h:FBag w0 w L)(hx:⟨x,y,z,q,k⟩∈ L):FracV w (.agg #[x,y,z]) q/\Fits q k/\0<k:=h.ts _ hx
theorem FBag.put{w0 w:World}{L:List FE}{x y z:Value}{q:Rat}{k:Nat}(h:FBag w0 w L)(hv:FracV w (.agg #[x,y,z]) q)(hf:Fits q k)(hk:0<k):FBag w0 w (⟨x,y,z,q,k⟩ :: L):=
 ⟨h.base,h.glob,fun t ht=>by
   rcases List.mem_cons.1 ht with rfl|ht
   · exact⟨hv,hf,hk⟩
   · exact h.ts t ht⟩
def FNewB(w0:World)(L:List FE)(q:Rat)(k:Nat)(e:Ending)(w':World):Prop:=∃x y z,e=.returned (.agg #[x,y,z])/\FBag w0 w' (⟨x,y,z,q,k⟩ :: L)
theorem FBag.new{w0 w w':World}{L:List FE}{q:Rat}{k:Nat}{e:Ending}(h:FBag w0 w L)(hn:FNew w q e w')(hf:Fits q k)(hk:0<k):FNewB w0 L q k e w':=by
 obtain⟨⟨v,rfl,neg,a,n,c,b,m,d,rfl,hv⟩,hb⟩:=hn;exact⟨_,_,_,rfl,(h.below hb).put ⟨neg,a,n,c,b,m,d,rfl,hv⟩ hf hk⟩
theorem Fits.div{p q:Rat}{j k:Nat}(h:Fits p j)(h':Fits q k)(hj:0<j)(hk:0<k):Fits (p / q) (j+k):=by
 by_cases hq:q=0
 · rw[hq,Rat.div_def,Rat.inv_zero,Rat.mul_zero];exact Fits.zero.mono (by omega)
 · rw[Rat.div_def];exact h.mul (h'.inv hq) hj
theorem FBag.equal{w0 w:World}{L:List FE}{x1 x2 x3 y1 y2 y3:Value}{j k:Nat}{p q:Rat}(h:FBag w0 w L)(hx:⟨x1,x2,x3,p,j⟩∈ L)(hy:⟨y1,y2,y3,q,k⟩∈ L):
 Calls Tryz.prog 155 #[.agg #[x1,x2,x3],.agg #[y1,y2,y3]] w (fun e w'=>e=.returned (.bool (decide (p=q)))/\FBag w0 w' L):=by
 obtain⟨hx,fx,kx⟩:=h.get hx;obtain⟨hy,fy,ky⟩:=h.get hy;refine(Qo5 hx hy).mono ?_;rintro e w' ⟨rfl,hb⟩;exact⟨rfl,h.below hb⟩
theorem FBag.of{w0 w:World}{L:List FE}{n:Nat}(s:ByteArray)(h:FBag w0 w L)(hs:s.size<=n)(hn:n<=1073741824):
 Calls Tryz.prog 51 #[.string s] w (fun e w'=>∃q,QOf s.data.toList q/\FNewB w0 L q (4*n+1) e w'):=by
 obtain⟨m,hm⟩:=h.globNow.most;refine(Qri s m w hm (by omega)).mono ?_;rintro e w' ⟨q,hq,hf⟩;exact⟨q,hq,h.new hf (hq.fits (by rw[Qah];exact hs)) (by omega)⟩
theorem Qof{C:Array Value}(h:∀v,v∈ C.toList->∀n,v≠Value.int .u64 n):NoU64 C:=fun i n hi=>h _ (by rw[<-Array.getElem?_toList] at hi;exact mO hi) n rfl
theorem Qaa(P:Program){v:Value}(h:v.oneCell'=true):∀(a:Addr) (w:World),(store a v).run P w=stored P w a v .plain:=fun a w=>run_store P w a v .plain h
theorem FracV.one{w:World}{x y z:Value}{q:Rat}(h:FracV w (.agg #[x,y,z]) q):x.oneCell'=true/\y.oneCell'=true/\z.oneCell'=true:=by
 obtain⟨neg,a,n,c,b,m,d,e,_⟩:=h;simp at e;obtain⟨rfl,rfl,rfl⟩:=e;exact⟨rfl,rfl,rfl⟩
theorem FracV.no64{w:World}{x y z:Value}{q:Rat}(h:FracV w (.agg #[x,y,z]) q)(n:Int):x≠.int .u64 n/\y≠.int .u64 n/\z≠.int .u64 n:=by
 obtain⟨neg,a,m,c,b,k,d,e,_⟩:=h;simp at e;obtain⟨rfl,rfl,rfl⟩:=e;exact⟨by simp,by simp,by simp⟩
theorem Tryz.spotInfo:(Tryz.prog.info? 42).map (·.size)=some 2:=by kernel_rfl
end Go.Proofs.YtfpcipgoedifaaaGreatDoor
