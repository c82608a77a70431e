/- fractions as values: their cells. -/
import Derived.Test.YtldjeecnapgakaaGreatDoorV24TextC
import Derived.Test.YtldjeecnapgakaaGreatDoorV22FracC
namespace Go.Proofs.YtldjeecnapgakaaGreatDoor
open Go.RowKit
open Go.Proofs.Tryz
set_option linter.unusedSimpArgs false
set_option linter.unusedVariables false
set_option maxHeartbeats 8000000
set_option maxRecDepth 1000000
def SlIn(C:Array Value):Prop:=∀(i:Nat) u,C[i]?=some u->∃a n c,u=Value.slice a n c
def SlBlk(w:World)(v:Value):Prop:=∀g,v.ownBlock=some g->∃C t f,w.heap[g]?=some (.cells C t f)/\SlIn C
theorem SlIn.append{C D:Array Value}(h:SlIn C)(k:SlIn D):SlIn (C++D):=fun i u hu=>by
 rw[Array.getElem?_append] at hu
 split at hu
 . exact h _ _ hu
 . exact k _ _ hu
theorem SlIn.zeros(n:Nat):SlIn (Builtin.zeroCells (Value.slice none 0 0).cells n):=fun i u hu=>by
 have hm:=Array.mem_of_getElem? hu;simp[Builtin.zeroCells,Value.cells] at hm;obtain⟨j,hj,e⟩:=hm;rw[Nat.mod_one] at e;exact⟨none,0,0,e.symm⟩
theorem SlIn.list{l:List Value}(h:∀u,u∈ l->∃a n c,u=Value.slice a n c):SlIn l.toArray:=fun i u hu=>h u (by rw[List.getElem?_toArray] at hu;exact mO hu)
theorem SlIn.mem{C:Array Value}(h:SlIn C){u:Value}(hu:u∈ C.toList):∃a n c,u=Value.slice a n c:=by
 obtain⟨i,hi⟩:=List.mem_iff_getElem?.1 hu;exact h i u (by rw[Array.getElem?_toList] at hi;exact hi)
theorem SlBlk.below{w w':World}{v:Value}(h:SlBlk w v)(hb:∀g,v.ownBlock=some g->w'.heap[g]?=w.heap[g]?):SlBlk w' v:=fun g hg=>by
 obtain⟨C,t,f,h1,h2⟩:=h g hg;exact⟨C,t,f,by rw[hb g hg];exact h1,h2⟩
theorem SlBlk.new(w:World)(C:Array Value)(t:TypeId)(n cap:Nat)(h:SlIn C):SlBlk (w.drew.alloc (.cells C t)) (.slice (some ⟨w.heap.size,0,none⟩) n cap):=fun g hg=>by
 have e:w.heap.size=g:=by simpa [Value.ownBlock] using hg
 subst e;exact⟨C,t,_,heap_alloc_new w.drew _,h⟩
theorem SlBlk.row{w:World}{g n cap:Nat}{cur news:Array Value}{t:TypeId}{f:Nat × Nat}(hg:w.heap[g]?=some (.cells cur t f))(h:SlIn news):SlBlk (w.setRow g news) (.slice (some ⟨g,0,none⟩) n cap):=fun g' hg'=>by
 have e:g=g':=by simpa [Value.ownBlock] using hg'
 subst e;exact⟨news,t,f,setRow_heap w g cur _ t _ hg,h⟩
theorem Tryz.infoNat:(prog.info? 61).map (fun i=>(i.zero,i.size,i.bytes))=some (some (.slice none 0 0),1,24):=by kernel_rfl
theorem Qs3{w:World}{base:Nat}{v v':Value}{n m cc:Nat}{xs news:List Value}{a:Addr}{w':World}{ty:TypeId}{i:TypeInfo}(hi:prog.info? 61=some i)(hz:i.zero=some (.slice none 0 0))(hs1:i.size=1)(hby:i.bytes=24)(hown:w.ownsRow base 61 1 v n xs)(hu:SlBlk w v)
 (hl:news.length=m) (hnews:∀j u,news[j]?=some u->w.cell? (a.add j)=some u) (h1:∀u∈ news,u.oneCell'=true) (h8:∀u,u∈ news->∃a n c,u=Value.slice a n c) (h0:0<m) (h63:n+m<=1099511627776)
 (hr:(Builtin.append_ #[157,157] ty #[v,.slice (some a) m cc]).run prog w=.ok v' w'):SlBlk w' v':=by
 have hxl:xs.length=n:=by simpa using hown.1
 have hown0:=hown;have hl':news.length=m*i.size:=by rw[hs1,Nat.mul_one];exact hl
 rcases hown.2 with ⟨rfl,rfl⟩|⟨g,cap,cur,rfl,hbg,hg,hnc,hcm,hcs,htake⟩
 .
  rw[run_append_nil (P:=prog) w 157 ty 61 i (.slice none 0 0) underlying157 hi hz a m cc news hl' hnews h0 (by omega) (by rw[hby];omega)] at hr;injection hr with e1 e2
  rw[<-e1,<-e2];exact SlBlk.new _ _ _ _ _ ((SlIn.list h8).append (SlIn.zeros _))
 .
  obtain⟨C,tt,ff,hC,hC8⟩:=hu g rfl;rw[hg] at hC;injection hC with hC
  injection hC with hC _ _
  subst hC;by_cases hroom:n+m<=cap
  .
   rw[run_append_room (P:=prog) w 157 ty 61 i underlying157 hi g n cap cur hg a m cc news hl' hnews h1 hroom (by rw[hs1];omega)] at hr;injection hr with e1 e2
   rw[<-e1,<-e2];refine SlBlk.row hg (SlIn.list fun u hu=>?_);simp only[List.mem_append] at hu;rcases hu with (hu|hu)|hu
   . exact hC8.mem (List.mem_of_mem_take hu)
   . exact h8 u hu
   . exact hC8.mem (List.mem_of_mem_drop hu)
  .
   have holds:∀j u,xs[j]?=some u->w.cell? ((⟨g,0,none⟩:Addr).add j)=some u:=hown0.cells (g:=g) rfl;rw[run_append_grow (P:=prog) w 157 ty 61 i (.slice none 0 0) underlying157 hi hz ⟨g,0,none⟩ n cap xs (by rw[hs1];simpa using hxl) holds a m cc news hl' hnews (by omega) (by omega) (by rw[hby];exact growslice_fits (by omega) (by omega))] at hr;injection hr with e1 e2
   rw[<-e1,<-e2];refine SlBlk.new _ _ _ _ _ (((SlIn.list fun u hu=>?_).append (SlIn.list h8)).append (SlIn.zeros _));rw[<-htake] at hu;exact hC8.mem (List.mem_of_mem_take hu)
def pw(i:Nat):Nat:=10 ^ (19*2 ^ i)
theorem Qd0(i:Nat):pw (i+1)=pw i*pw i:=by unfold pw;rw[<-Nat.pow_add];congr 1;rw[Nat.pow_succ];omega
theorem Qj1:pw 0=10000000000000000000:=by decide
theorem Qfr(i:Nat):0<pw i:=Nat.pow_pos (by decide)
def Pows(w:World)(vs:List Value):Prop:=∀i v,vs[i]?=some v->∃a c l,v=.slice a (List.length l) c/\U64 w a c l (pw i)
theorem Pows.below{w w':World}{vs:List Value}(h:Pows w vs)(hb:Below w.heap.size w w'):Pows w' vs:=fun i v hv=>by
 obtain⟨a,c,l,e,hu⟩:=h i v hv;exact⟨a,c,l,e,hu.below hb⟩
theorem Pows.snoc{w:World}{vs:List Value}{a:Option Addr}{c:Nat}{l:List Nat}(h:Pows w vs)(hu:U64 w a c l (pw vs.length)):Pows w (vs++ [.slice a l.length c]):=fun i v hv=>by
 rw[List.getElem?_append] at hv
 split at hv
 . exact h i v hv
 .
  rename_i hi;rw[List.getElem?_singleton] at hv
  split at hv
  .
   have hi':i=vs.length:=by omega
   subst hi';injection hv with hv
   exact⟨a,c,l,hv.symm,hu⟩
  . cases hv
theorem U64.grownSl{w w':World}{v:Value}{a:Option Addr}{cap n:Nat}{l:List Nat}(h:U64 w a cap l n)(hg:w.grownBy w' v.ownBlock)(hs:SlBlk w v):U64 w' a cap l n:=by
 refine⟨⟨h.row.fit,?_,fun i hi=>?_⟩,h.num,h.short⟩
 .
  rcases h.row.shape with h1|⟨b',off,h1,h2⟩
  . exact .inl h1
  . exact .inr ⟨b',off,h1,by have:=hg.size;omega⟩
 .
  obtain⟨b',off,h1,h2,h3⟩:=h.row.cell i hi;refine⟨b',off,h1,by have:=hg.size;omega,(World.cell?_of_block (w:=w) (hg.block b' h2 ?_)).trans h3⟩;intro hc;obtain⟨C,t,f,hC,h8⟩:=hs b' hc.symm;rw[Lib.cell_of_heap hC] at h3;obtain⟨_,_,_,e⟩:=h8 _ _ h3;cases e
theorem Pows.grown{w w':World}{v:Value}{vs:List Value}(h:Pows w vs)(hg:w.grownBy w' v.ownBlock)(hs:SlBlk w v):Pows w' vs:=fun i u hu=>by
 obtain⟨a,c,l,e,h1⟩:=h i u hu;exact⟨a,c,l,e,h1.grownSl hg hs⟩
theorem Qs4(k:Nat):2 ^ (63*k)<=10 ^ (19*k):=by
 rw[Nat.pow_mul,Nat.pow_mul];exact Nat.pow_le_pow_left (by decide) k
theorem Qj2{w:World}{a:Option Addr}{c i:Nat}{l:List Nat}(h:U64 w a c l (pw i)):63*2 ^ i<64*l.length:=by
 have h1:=Qac (B:=18446744073709551616) (by decide) h.num.small;rw[h.num.eq] at h1;have h2:2 ^ (63*2 ^ i)<=pw i:=Qs4 _;have h3:(18446744073709551616:Nat) ^ l.length=2 ^ (64*l.length):=by rw[Nat.pow_mul]
 rw[h3] at h1;exact(Nat.pow_lt_pow_iff_right (by decide:1<2)).1 (Nat.lt_of_le_of_lt h2 h1)
theorem Qs5(n:Nat):n+1<=2 ^ n:=Nat.lt_two_pow_self
theorem Qs6{w:World}{a a2:Option Addr}{c c2 i x:Nat}{l m:List Nat}(h:U64 w a c l (pw i))(hx:U64 w a2 c2 m x)(hl:m.length+1<2*l.length):x<pw (i+1):=by
 have h1:=Qac (B:=18446744073709551616) (by decide) hx.num.small;rw[hx.num.eq] at h1;have h2:=h.num.trim.pow_le (B:=18446744073709551616) (by omega);rw[h.num.eq] at h2;have h3:=Nat.mul_le_mul h2 h2;rw[<-Nat.pow_add,<-Qd0] at h3;have h4:(18446744073709551616:Nat) ^ m.length<=18446744073709551616 ^ (l.length - 1+(l.length - 1)):=Nat.pow_le_pow_right (by decide) (by omega);omega
theorem Qs7{n k:Nat}(h:63*2 ^ n<64*k)(hk:k<=549755813890):19*2 ^ (n+1)<=140737488355000:=by
 rw[Nat.pow_succ];omega
def PowAns(w:World)(x:Nat)(e:Ending)(w':World):Prop:=(∃g n cap,e=.returned (.slice (some ⟨g,0,none⟩) (n+1) cap)/\n+1<=cap/\(∃vs,List.length vs=n+1/\(∀i v,vs[i]?=some v->w'.cell? ⟨g,i,none⟩=some v)/\Pows w' vs)/\g<w'.heap.size/\x<pw (n+1)/\n<=1099511627770/\19*2 ^ (n+1)<=140737488355000)/\Below w.heap.size w w'
theorem Qs8(a:Option Addr)(cap x:Nat)(ws:List Nat)(w:World)(h:U64 w a cap ws x)(hl:ws.length<=274877906944):
 Calls prog 121 #[.slice a ws.length cap] w (PowAns w x):=by
 obtain⟨i0,hi,hz0,hz1,hz2⟩:=info_parts Tryz.infoNat;obtain⟨HX,HI,HZ0,HZ1,HZ2⟩:=Id h hi hz0 hz1 hz2;clear h hi hz0 hz1 hz2;go_enter func121,ntmps121;go_wp2_with fail;go_loopw [3,4] (fun lv pv wr=>∃(n:Nat) (vs:List Value) (a1:Option Addr) (c1:Nat) (l1:List Nat),vs.length=n+1/\lv=.slice a1 l1.length c1/\vs[n]?=some lv/\wr.ownsRow w.heap.size 61 1 pv (n+1) vs/\SlBlk wr pv/\Pows wr vs/\U64 wr a1 c1 l1 (pw n)/\l1.length<=2*ws.length+1/\n<=2*ws.length/\Below w.heap.size w wr) (fun _ pv _=>2*ws.length+2 - sliceLen pv)
 case atStart=>
  have hB1:Blk .u64 119 (w.alloc (.cells (wordCells .u64 [10000000000000000000]) 119)) w.heap.size [10000000000000000000]:=Blk.new _ _ _ _;have hU1:U64 (w.alloc (.cells (wordCells .u64 [10000000000000000000]) 119)) (some ⟨w.heap.size,0,none⟩) 1 [10000000000000000000] (pw 0):=⟨hB1.row 1 (by simp) 1 (by omega),⟨fun d hd=>by simp at hd;omega,.inr (by simp),by rw[Qj1];simp[val]⟩,by simp⟩;have hbb:Below (w.alloc (.cells (wordCells .u64 [10000000000000000000]) 119)).heap.size (w.alloc (.cells (wordCells .u64 [10000000000000000000]) 119)) ((w.alloc (.cells (wordCells .u64 [10000000000000000000]) 119)).alloc (.cells #[.slice (some ⟨w.heap.size,0,none⟩) 1 1] 61)):=bR.alloc lZ _;have hU2:=hU1.below hbb;refine⟨0,[.slice (some ⟨w.heap.size,0,none⟩) 1 1],some ⟨w.heap.size,0,none⟩,1,[10000000000000000000],rfl,rfl,rfl,?_,?_,?_,hU2,by simp,by omega,?_⟩
  . exact⟨rfl,.inr ⟨w.heap.size+1,1,#[.slice (some ⟨w.heap.size,0,none⟩) 1 1],rfl,by omega,by have:=heap_alloc_new (w.alloc (.cells (wordCells .u64 [10000000000000000000]) 119)) (.cells #[.slice (some ⟨w.heap.size,0,none⟩) 1 1] 61);rw[World.size_alloc] at this;exact this,by omega,by unfold maxLen;omega,rfl,rfl⟩⟩
  .
   intro g hg;have e:w.heap.size+1=g:=by simpa [Value.ownBlock] using hg
   subst e;refine⟨#[.slice (some ⟨w.heap.size,0,none⟩) 1 1],61,(0,0),by have:=heap_alloc_new (w.alloc (.cells (wordCells .u64 [10000000000000000000]) 119)) (.cells #[.slice (some ⟨w.heap.size,0,none⟩) 1 1] 61);rw[World.size_alloc] at this;exact this,?_⟩;intro i u hu
   match i with
   |0=>simp at hu;exact⟨_,_,_,hu.symm⟩
   |i+1=>simp at hu
  .
   intro i v hv
   match i with
   |0=>simp at hv;exact⟨_,_,[10000000000000000000],hv.symm,hU2⟩
   |i+1=>simp at hv
  . exact(bR.alloc lZ _).alloc (by rw[World.size_alloc];omega) _
 case round=>
  obtain⟨n,vs,a1,c1,l1,hvl,rfl,hlast,hown,hsl,hpw,hu,hlb,hnb,hb⟩:=hrel;have hsl0:=Qey hown;have hpl:=Qj2 hu;have h2n:=Qs5 n;obtain⟨HVL,HOW,HSL,HPW,HU,HB⟩:=Ie hvl hown hsl hpw hu hb;have hszb:=hb.size;have hl1:1<=l1.length:=by omega
  have hn1:63*(n+1)<64*l1.length:=by omega
  clear hvl hlast hown hsl hpw hu hb hpl h2n;by_cases hc:2*l1.length<=ws.length+1
  .
   have q1:(2*(l1.length:Int) - 1<=(ws.length:Int)):=by omega
   have HM:=Hi (Qio a1 a1 c1 c1 l1 l1 (pw n) (pw n) wr HU.o HU.o (by omega));go_wp2_with fail;go_fit HM.o;rintro e w2 ⟨⟨a2,c2,r2,rfl,hu2⟩,hb2⟩;rw[<-Qd0] at hu2;have hr2:r2.length<=2*l1.length:=hu2.num.length_le_of_lt (by decide) (by
    rw[Qd0,show 2*l1.length=l1.length+l1.length by omega,Nat.pow_add];have h1:=Qac (B:=18446744073709551616) (by decide) HU.o.num.small;rw[HU.o.num.eq] at h1
    exact Nat.mul_lt_mul'' h1 h1)
   have hszb2:=hb2.size;obtain⟨HU2,HB2⟩:=Ia hu2 hb2;clear HM hu2 hb2;have hbA:Below w2.heap.size w2 (w2.alloc (.cells #[.slice a2 r2.length c2] 61)):=bR.alloc lZ _;have hownA:=Qbh (Qbh HOW.o HB2.o) hbA;have hslA:SlBlk (w2.alloc (.cells #[.slice a2 r2.length c2] 61)) u4:=(HSL.o.below fun g hg=>HB2.o.block g (HOW.o.lt g hg).2).below fun g hg=>hbA.block g (by have:=(HOW.o.lt g hg).2;omega)
   have hn1:∀j u,[Value.slice a2 r2.length c2][j]?=some u->(w2.alloc (.cells #[.slice a2 r2.length c2] 61)).cell? ((⟨w2.heap.size,0,none⟩:Addr).add j)=some u:=World.news_of_block (heap_alloc_new w2 _);have hone:∀u∈ [Value.slice a2 r2.length c2],u.oneCell'=true:=fun u hu=>by rw[List.mem_singleton.1 hu];rfl
   obtain⟨v',w3,hr,hown',hgrow,_,hat⟩:=run_append_own_at (P:=prog) (w2.alloc (.cells #[.slice a2 r2.length c2] 61)) w.heap.size 157 157 61 i0 (.slice none 0 0) 1 24 underlying157 HI.o HZ0.o HZ1.o HZ2.o rfl (by decide) u4 (n+1) vs hownA ⟨w2.heap.size,0,none⟩ 1 1 [.slice a2 r2.length c2] rfl hn1 hone (by unfold maxLen;omega) (by omega) (by rw[World.size_alloc];omega);obtain⟨HS3,HU3,HP3,HO3,HB3,HR⟩:=Ie (Qs3 (m:=1) HI.o HZ0.o HZ1.o HZ2.o hownA hslA rfl hn1 hone (fun u hu=>⟨_,_,_,List.mem_singleton.1 hu⟩) (by decide) (by omega) hr) ((HU2.o.below hbA).grownSl hgrow hslA) (((HPW.o.below HB2.o).below hbA).grown hgrow hslA) hown' (((HB.o.trans (HB2.o.mono (by omega))).alloc (by omega) (.cells #[.slice a2 r2.length c2] 61)).grown hgrow (by rw[World.size_alloc];omega) (fun k hk=>(HOW.o.lt k hk).1)) hr
   clear hbA hownA hslA hn1 hone hr hown' hgrow hat;go_wp2_with (at_builtin;refine Qfs _ rfl _ _ 157 157 rfl u4 (.slice (some ⟨w2.heap.size,0,none⟩) 1 1) _ _ rfl rfl HR.o ?_);clear HR;go_wp2;go_roundw
   case rel=>
    refine⟨n+1,vs++ [.slice a2 r2.length c2],a2,c2,r2,by rw[List.length_append,HVL.o];rfl,rfl,?_,HO3.o,HS3.o,HP3.o.snoc (by rw[HVL.o];exact HU3.o),HU3.o,by omega,by omega,HB3.o⟩;rw[List.getElem?_append_right (by rw[HVL.o];omega),HVL.o,Nat.sub_self];rfl
   case measure=>
    rw[hsl0];have:=Qey HO3.o;simp only[sliceLen] at this ⊢;simp at this ⊢;omega
  .
   have q1:¬(2*(l1.length:Int) - 1<=(ws.length:Int)):=by omega
   obtain⟨g,capg,rfl,hbg,hgl⟩:=HOW.o.form (by omega);go_wp2;go_ret;have hcells:=HOW.o.cells (g:=g) rfl;refine⟨⟨g,n,capg,rfl,?_,⟨vs,HVL.o,fun i v hv=>?_,HPW.o⟩,hgl,Qs6 HU.o (HX.o.below HB.o) (by omega),by omega,Qs7 (Qj2 HU.o) (by omega)⟩,HB.o⟩
   .
    rcases HOW.o.2 with ⟨h,_⟩|⟨g',cap',cur,he,_,_,hf,_⟩
    . cases h
    . injection he with _ _ h3
      omega
   .
    have:=hcells i v hv;rw[Lib.add_plain,Nat.zero_add] at this;exact this
def Pw(w:World)(g n:Nat):Prop:=∀i,i<n->∃a c l,w.cell? ⟨g,i,none⟩=some (.slice a (List.length l) c)/\U64 w a c l (pw i)
theorem Pw.below{w w':World}{g n:Nat}(h:Pw w g n)(hb:Below w.heap.size w w'):Pw w' g n:=fun i hi=>by
 obtain⟨a,c,l,h1,h2⟩:=h i hi;exact⟨a,c,l,ce hb (World.block_lt_of_cell? _ _ h1) h1,h2.below hb⟩
theorem Pw.wrote{B b:Nat}{l:List UInt8}{w w':World}{g n:Nat}(h:Pw w g n)(hd:Bd8 B b l w)(k:Wr b w w'):Pw w' g n:=fun i hi=>by
 obtain⟨a,c,ws,h1,h2⟩:=h i hi;obtain⟨a0,c0,l0,h10,_⟩:=h 0 (by omega);obtain⟨g1,g2⟩:=hd.slice_apart h10;exact⟨a,c,ws,(World.cell?_of_block (w:=w) (a:=⟨g,i,none⟩) (k.block g (World.block_lt_of_cell? _ _ h10) g1 g2)).trans h1,h2.wrote hd k⟩
theorem Pw.less{w:World}{g n m:Nat}(h:Pw w g n)(hm:m<=n):Pw w g m:=fun i hi=>h i (by omega)
theorem Qsv{w:World}{a:Option Addr}{c x:Nat}{l:List Nat}(h:U64 w a c l x)(hx:x<10000000000000000000):l.getD 0 0=x:=by
 have hl:l.length<=1:=h.num.length_le_of_lt (by decide) (by rw[Nat.pow_one];omega);rw[<-h.num.eq]
 match l,hl with
 | [],_=>rfl
 | [d],_=>simp[val]
theorem Qsw(w0:World)(b g:Nat)(hT:Tab w0)(n:Nat):∀(cap:Nat) (fill:Bool) (l:List UInt8) (a:Option Addr) (c x:Nat) (ws:List Nat) (w:World),Below w0.heap.size w0 w->Bd8 w0.heap.size b l w->U64 w a c ws x->Pw w g n->n<=cap->x<pw n->ws.length<=274877906944->n<=1099511627776->l.length+19*2 ^ n<=140737488355328->
 Calls prog 120 #[.pointer (some ⟨b,0,none⟩),.slice a ws.length c,.slice (some ⟨g,0,none⟩) n cap,.bool fill] w (Digs w0.heap.size b l fill (19*2 ^ n) x w):=by
 induction n with
 |zero=>
  intro cap fill l a c x ws w hb hd hu hp hnc hx hwl hn hl;rw[Qj1] at hx;have HWD:=Hi (Qbv a c ws 0 w hu.row hu.short (by decide));rw[Qsv hu hx] at HWD;have HWC:=Hi (Qsu w0 w b l x fill hT hb hd hx (by simpa using hl));clear hb hd hu hp;go_enter func120,ntmps120;go_wp2_with fail;go_fit HWD.o;rintro e w1 ⟨rfl,hw⟩;subst hw;clear HWD;go_wp2_with fail;go_fit HWC.o;rintro e w2 ⟨m,ho,rfl,hd2,hb2,hw2⟩;obtain⟨HO,HD2,HB2,HW2⟩:=Ic ho hd2 hb2 hw2;clear HWC ho hd2 hb2 hw2;go_wp2;go_end0;exact⟨m,by simpa using HO.o,rfl,HD2.o,HB2.o,HW2.o⟩
 |succ n ih=>
  intro cap fill l a c x ws w hb hd hu hp hnc hx hwl hn hl;obtain⟨ap,cp,lp,hcell,hup⟩:=hp n (by omega);obtain⟨HDV,HB,HD,HP,HIH⟩:=Id (Qik a ap c cp ws lp x (pw n) w hu hup (Qfr n) (by omega)) hb hd hp ih;have hq1:x / pw n<pw n:=by rw[Nat.div_lt_iff_lt_mul (Qfr n)];rw[Qd0] at hx;exact hx
  have hq2:x % pw n<pw n:=Nat.mod_lt _ (Qfr n);have hlen:∀(w':World) (a':Option Addr) (c' y:Nat) (l':List Nat),U64 w' a' c' l' y->y<=x->l'.length<=ws.length:=fun w' a' c' y l' h' hy=>h'.num.length_le_of_lt (by decide) (Nat.lt_of_le_of_lt hy (by have:=Qac (B:=18446744073709551616) (by decide) hu.num.small;rw[hu.num.eq] at this;exact this))
  obtain⟨HLEN,HX⟩:=Ia hlen (Nat.div_add_mod x (pw n));have h2:19*2 ^ (n+1)=2*(19*2 ^ n):=by rw[Nat.pow_succ];omega
  have HPE:=Hi (show pw n=10 ^ (19*2 ^ n) from rfl);have n1:((n+1:Nat):Int) - 1=(n:Int):=by omega
  have n2:((n:Int)+1) - 1=(n:Int):=by omega
  have n0:(((n+1:Nat):Int) == 0)=false:=by rw[beq_eq_false_iff_ne];omega
  have hsz:w0.heap.size<=w.heap.size:=hb.size;clear hb hd hu hp hup ih hlen;go_enter func120,ntmps120;go_wp2_with fail;go_fit HDV.o;rintro e w1 ⟨⟨aq,cq,lq,ar,cr,lr,rfl,hq,hr⟩,hb1⟩;have hz:=hq.num.len_zero (by decide);obtain⟨HL1,HL2,HQ,HR,HB1,HD1,HP1,HW1,HBB⟩:=Ih (HLEN.o _ _ _ _ _ hq (Nat.div_le_self _ _)) (HLEN.o _ _ _ _ _ hr (Nat.mod_le _ _)) hq hr hb1 (HD.o.below hb1) (HP.o.below hb1) (Wr.below HD.o.lt hb1) (HB.o.trans (hb1.mono hsz));have hsz1:=hb1.size;clear HDV hq hr hb1;cases fill with
  |true=>
   have HC1:=Hi (HIH.o cap true l aq cq (x / pw n) lq w1 HBB.o HD1.o HQ.o (HP1.o.less (by omega)) (by omega) hq1 (by have:=HL1.o;omega) (by omega) (by omega));clear hz;go_wp2_with fail;go_fit HC1.o;rintro e w2 ⟨m1,ho1,rfl,hd2,hb2,hw2⟩;obtain⟨HO1,HC2,HB2,HW2⟩:=Ic ho1 (HIH.o cap true (l++m1) ar cr (x % pw n) lr w2 (HBB.o.trans hb2) hd2 (HR.o.wrote HD1.o hw2) ((HP1.o.wrote HD1.o hw2).less (by omega)) (by omega) hq2 (by have:=HL2.o;omega) (by omega) (by rw[List.length_append];have:=ho1.most;omega)) hb2 hw2;clear HC1 ho1 hd2 hb2 hw2;go_wp2_with fail;go_fit HC2.o;rintro e w3 ⟨m2,ho2,rfl,hd3,hb3,hw3⟩;obtain⟨HO2,HD3,HB3,HW3⟩:=Ic ho2 hd3 hb3 hw3;clear HC2 ho2 hd3 hb3 hw3;go_wp2;go_end0;have ho:=Qj0 HO1.o HO2.o (.inl rfl);rw[<-HPE.o,Nat.mul_comm (x / pw n),HX.o,<-h2] at ho
   exact⟨m1++m2,ho,rfl,by rw[<-List.append_assoc];exact HD3.o,(HB1.o.mono hsz).trans (HB2.o.trans HB3.o),HW1.o.trans (HW2.o.trans HW3.o)⟩
  |false=>
   by_cases hlq:0<lq.length
   .
    have q1:((0:Int)<(lq.length:Int)):=by omega
    have HF:O (0<x / pw n):=Hi (by
     rcases Nat.eq_zero_or_pos (x / pw n) with h|h
     . have:=hz.1 h;omega
     . exact h)
    have HC1:=Hi (HIH.o cap false l aq cq (x / pw n) lq w1 HBB.o HD1.o HQ.o (HP1.o.less (by omega)) (by omega) hq1 (by have:=HL1.o;omega) (by omega) (by omega));clear hz;go_wp2_with fail;go_fit HC1.o;rintro e w2 ⟨m1,ho1,rfl,hd2,hb2,hw2⟩;obtain⟨HO1,HC2,HB2,HW2⟩:=Ic ho1 (HIH.o cap true (l++m1) ar cr (x % pw n) lr w2 (HBB.o.trans hb2) hd2 (HR.o.wrote HD1.o hw2) ((HP1.o.wrote HD1.o hw2).less (by omega)) (by omega) hq2 (by have:=HL2.o;omega) (by omega) (by rw[List.length_append];have:=ho1.most;omega)) hb2 hw2;clear HC1 ho1 hd2 hb2 hw2;go_wp2_with fail;go_fit HC2.o;rintro e w3 ⟨m2,ho2,rfl,hd3,hb3,hw3⟩;obtain⟨HO2,HD3,HB3,HW3⟩:=Ic ho2 hd3 hb3 hw3;clear HC2 ho2 hd3 hb3 hw3;go_wp2;go_end0;have ho:=Qj0 HO1.o HO2.o (.inr HF.o);rw[<-HPE.o,Nat.mul_comm (x / pw n),HX.o,<-h2] at ho
    exact⟨m1++m2,ho,rfl,by rw[<-List.append_assoc];exact HD3.o,(HB1.o.mono hsz).trans (HB2.o.trans HB3.o),HW1.o.trans (HW2.o.trans HW3.o)⟩
   .
    have q1:¬((0:Int)<(lq.length:Int)):=by omega
    have hx0:x % pw n=x:=by
     have h1:=HX.o;rw[hz.2 (by omega),Nat.mul_zero,Nat.zero_add] at h1;exact h1
    have HC2:=Hi (HIH.o cap false l ar cr (x % pw n) lr w1 HBB.o HD1.o HR.o (HP1.o.less (by omega)) (by omega) hq2 (by have:=HL2.o;omega) (by omega) (by omega));clear hz;go_wp2_with fail;go_fit HC2.o;rintro e w3 ⟨m2,ho2,rfl,hd3,hb3,hw3⟩;obtain⟨HO2,HD3,HB3,HW3⟩:=Ic ho2 hd3 hb3 hw3;clear HC2 ho2 hd3 hb3 hw3;go_wp2;go_end0;have ho:=HO2.o;rw[hx0] at ho;exact⟨m2,ho.grow (by omega),rfl,HD3.o,(HB1.o.mono hsz).trans HB3.o,HW1.o.trans HW3.o⟩
def TextAns(x:Nat)(w:World)(e:Ending)(w':World):Prop:=(∃s:ByteArray,e=.returned (.string s)/\IsDec s.data.toList x/\s.size<=140737488355328)/\Below w.heap.size w w'
theorem Qsx(a:Option Addr)(c x:Nat)(ws:List Nat)(w:World)(hT:Tab w)(h:U64 w a c ws x)(hl:ws.length<=274877906944):
 Calls prog 75 #[.slice a ws.length c] w (TextAns x w):=by
 obtain⟨wA,hwA⟩:=nm (w.alloc (.cells #[.pointer none,.slice none 0 0] 155));have hbA:Below w.heap.size w wA:=by rw[<-hwA];exact(Below.refl _ _).alloc lZ _
 have hsA:wA.heap[w.heap.size]?=some (.cells #[.pointer none,.slice none 0 0] 155 (0,0)):=by rw[<-hwA];exact heap_alloc_new w _
 have hdA:Bd8 w.heap.size w.heap.size [] wA:=⟨.inl ⟨Nat.le_refl _,.slice none 0 0,hsA,World.ownsRow_nil _ _ _ _,by simp[Value.ownBlock]⟩,fun v hv=>by
  rw[Lib.cell_of_heap hsA] at hv;have:v=.slice none 0 0:=by simpa using hv.symm
  subst this;intro g hg
  simp[Value.ownBlock] at hg⟩
 obtain⟨HPO,HU,HD,HBA,HWA,HT⟩:=Ie (Qs8 a c x ws wA (h.below hbA) hl) (h.below hbA) hdA hbA hwA hT;have hsz:=hbA.size;clear hT h hbA hsA hdA hwA;go_enter func75,ntmps75;go_wp2_with fail;rw[HWA.o];go_fit HPO.o;rintro e w1 ⟨⟨g,n,cap,rfl,hnc,⟨vs,hvl,hvs,hpows⟩,hgl,hx,hnb,hroom⟩,hb1⟩;have hPw:Pw w1 g (n+1):=fun i hi=>by
  obtain⟨v,hv⟩:∃v,vs[i]?=some v:=⟨vs[i]'(by omega),gE (by omega)⟩;obtain⟨a',c',l',e',hu'⟩:=hpows i v hv;exact⟨a',c',l',by rw[hvs i v hv,e'],hu'⟩
 obtain⟨HWD,HB1⟩:=Ia (Qsw w w.heap.size g HT.o (n+1) cap false [] a c x ws w1 (HBA.o.trans (hb1.mono hsz)) (HD.o.below hb1) (HU.o.below hb1) hPw hnc hx hl (by omega) (by rw[List.length_nil];omega)) (HBA.o.trans (hb1.mono hsz));have hsz1:=hb1.size;clear HPO hPw hvl hvs hpows hgl hx hb1;go_wp2_with fail;go_fit HWD.o;rintro e w2 ⟨m,ho,rfl,hd2,hb2,hw2⟩;obtain⟨HBS,HDE,HML,HB2⟩:=Ic (Qsr w.heap.size w.heap.size m w2 (by have:=hd2.bd;rwa [List.nil_append] at this) (by have:=hw2.size;omega)) ho.dec ho.most (HB1.o.trans hb2);clear HWD ho hd2 hb2 hw2;go_wp2_with fail;go_fit HBS.o;rintro e w3 ⟨rfl,hb3⟩;have HB3:=Hi (HB2.o.trans hb3);clear HBS hb3;go_wp2;go_ret;refine⟨⟨_,rfl,HDE.o,?_⟩,HB3.o⟩;have h1:=HML.o;rw[<-Qah]
 show m.length<=_
 omega
def QAns(q:Rat)(w:World)(e:Ending)(w':World):Prop:=(∃s:ByteArray,e=.returned (.string s)/\QText s.data.toList q)/\Below w.heap.size w w'
theorem Qcl(s t:ByteArray):(s++t).data.toList=s.data.toList++t.data.toList:=by simp[ByteArray.data_append]
theorem Qof(w:World)(d:Nat)(a:Option Addr)(n c:Nat):(Op.equalIn (d+1) 61 (.slice a n c) (.slice none 0 0)).run prog w=.ok a.isNone w:=by
 cases a<;>simp[Op.equalIn,run_underlying underlying61]
theorem Qog(w:World)(a:Option Addr)(n c:Nat):(Op.equal 61 (.slice a n c) (.slice none 0 0)).run prog w=.ok a.isNone w:=Qof w 9999 a n c
theorem Qoh(w:World)(a:Option Addr)(n c:Nat):(binOp .neq 61 (.slice a n c) (.slice none 0 0)).run prog w=.ok (.bool a.isSome) w:=by
 cases a<;>simp[binOp,Qog]
theorem Qev{a:Option Addr}{n c x K:Nat}{w:World}(hT:Tab w)(h:NumV w a n c x)(hx:x<2 ^ K)(hK:K<=274877906944):Calls prog 75 #[.slice a n c] w (TextAns x w):=by
 obtain⟨l,rfl,h⟩:=h;exact Qsx a c x l w hT h (Nat.le_trans (h.len_bits hx) hK)
theorem num_Q(neg:Bool)(a b:Option Addr)(n c m d K:Nat)(q:Rat)(w:World)(hT:Tab w)(h:FracAt w neg a n c b m d q)(hf:Fits q K)(hK:K<=274877906944):
 Calls prog 33 #[.agg #[.bool neg,.slice a n c,.slice b m d]] w (QAns q w):=by
 have hq:=Qoh;obtain⟨wA,hwA⟩:=nm (w.alloc (.cells #[.bool neg,.slice a n c,.slice b m d] 63));have hbA:Below w.heap.size w wA:=by rw[<-hwA];exact(Below.refl _ _).alloc lZ _
 have hsb:SB wA w.heap.size 63 #[.bool neg,.slice a n c,.slice b m d]:=by rw[<-hwA];exact SB.new w _ _
 obtain⟨HT1,HLO,HTA,HNG,HF,HSB,HBA,HWA⟩:=Ig (Qev (hT.below hbA) (h.top.below hbA) hf.1 hK) (h.low.below hbA) (hT.below hbA) h.neg hf hsb hbA hwA;have hsz:=hbA.size;clear hT h hf hbA hsb hwA;go_enter func33,ntmps33;obtain⟨-,k1,-⟩:=zc HSB.o;go_wp2_with fail;rw[HWA.o];go_fit HT1.o;rintro e w1 ⟨⟨s1,rfl,hd1,hs1⟩,hb1⟩;obtain⟨HD1,HB1,HL1,HTB⟩:=Ic hd1 (HBA.o.trans (hb1.mono hsz)) (HLO.o.below hb1) (HTA.o.below hb1);obtain⟨g0,-,g2,-⟩:=zc (HSB.o.below hb1 HSB.o.lt);have hsz1:=hb1.size;clear HT1 hd1 hb1 k1 HLO HTA;cases neg with
 |true=>
  have HSI:O (IntText ((⟨#[45]⟩:ByteArray)++s1).data.toList q.num):=Hi ⟨s1.data.toList,HD1.o,by rw[if_pos (of_decide_eq_true HNG.o.symm),Qcl];rfl⟩;rcases HL1.o with ⟨rfl,rfl,rfl,hden⟩|⟨hden,hl⟩
  .
   go_wp2;go_ret;exact⟨⟨_,rfl,_,HSI.o,.inl ⟨hden,rfl⟩⟩,HB1.o⟩
  .
   obtain⟨bb,bo,rfl⟩:=hl.some (by omega);have HT2:=Hi (Qev HTB.o hl HF.o.2 hK);clear hl;go_wp2_with fail;go_fit HT2.o;rintro e w2 ⟨⟨s2,rfl,hd2,hs2⟩,hb2⟩;obtain⟨HD2,HB2⟩:=Ia hd2 (HB1.o.trans (hb2.mono HB1.o.size));clear HT2 hd2 hb2;go_wp2;go_ret;exact⟨⟨_,rfl,_,HSI.o,.inr ⟨by omega,_,HD2.o,by rw[Qcl,Qcl];rfl⟩⟩,HB2.o⟩
 |false=>
  have HSI:O (IntText s1.data.toList q.num):=Hi ⟨s1.data.toList,HD1.o,by rw[if_neg (of_decide_eq_false HNG.o.symm)]⟩;rcases HL1.o with ⟨rfl,rfl,rfl,hden⟩|⟨hden,hl⟩
  .
   go_wp2;go_ret;exact⟨⟨_,rfl,_,HSI.o,.inl ⟨hden,rfl⟩⟩,HB1.o⟩
  .
   obtain⟨bb,bo,rfl⟩:=hl.some (by omega);have HT2:=Hi (Qev HTB.o hl HF.o.2 hK);clear hl;go_wp2_with fail;go_fit HT2.o;rintro e w2 ⟨⟨s2,rfl,hd2,hs2⟩,hb2⟩;obtain⟨HD2,HB2⟩:=Ia hd2 (HB1.o.trans (hb2.mono HB1.o.size));clear HT2 hd2 hb2;go_wp2;go_ret;exact⟨⟨_,rfl,_,HSI.o,.inr ⟨by omega,_,HD2.o,by rw[Qcl,Qcl];rfl⟩⟩,HB2.o⟩
theorem Qoi{v:Value}{K:Nat}{q:Rat}{w:World}(hT:Tab w)(h:FracV w v q)(hf:Fits q K)(hK:K<=274877906944):Calls prog 33 #[v] w (QAns q w):=by
 obtain⟨neg,a,n,c,b,m,d,rfl,h⟩:=h;exact num_Q neg a b n c m d K q w hT h hf hK
theorem Qhn(a1 a2:Option Addr)(c1 c2:Nat)(l m:List Nat)(w:World)(h1:Row .u64 w a1 c1 l)(h2:Row .u64 w a2 c2 m)(hl:l.length<=1099511627776)(hm:m.length<=1099511627776):
 Calls prog 128 #[.slice a1 l.length c1,.slice a2 m.length c2] w fun e w'=>e=.returned (.bool (decide (l=m)))/\Below w.heap.size w w':=by
 obtain⟨H1,H2⟩:=Ia h1 h2;clear h1 h2;by_cases hlm:l.length=m.length
 .
  have q1:((l.length:Int) != (m.length:Int))=false:=by simp[hlm]
  have q2:((l.length:Int) == (m.length:Int))=true:=by simp[hlm]
  go_enter func128,ntmps128;go_wp2;go_loopw [13] (fun iv wr=>∃k:Nat,k<=l.length/\iv=.int .i64 k/\l.take k=m.take k/\Below w.heap.size w wr) (fun iv _=>l.length - (intOf iv).toNat)
  case atStart=>exact⟨0,by omega,rfl,by simp,Below.refl _ _⟩
  case round=>
   obtain⟨k,hk,rfl,ht,hb⟩:=hrel;obtain⟨HT,HB⟩:=Ia ht hb;clear ht hb;by_cases hlt:k<l.length
   .
    obtain⟨b1,o1,rfl,hb1,hc1⟩:=(H1.o.below HB.o).cell k hlt;obtain⟨b2,o2,rfl,hb2,hc2⟩:=(H2.o.below HB.o).cell k (by omega);obtain⟨x,hx⟩:=nm (l.getD k 0);obtain⟨y,hy⟩:=nm (m.getD k 0);rw[hx] at hc1;rw[hy] at hc2;obtain⟨HXX,HYY⟩:=Ia hx hy;have e1:l.take (k+1)=l.take k++ [x]:=by rw[List.take_succ_eq_append_getElem hlt,<-hx,List.getD_eq_getElem?_getD,gE hlt];rfl
    have e2:m.take (k+1)=m.take k++ [y]:=by rw[List.take_succ_eq_append_getElem (by omega),<-hy,List.getD_eq_getElem?_getD,gE (by omega)];rfl
    obtain⟨HE1,HE2⟩:=Ia e1 e2;clear hx hy e1 e2;by_cases hxy:x=y
    .
     subst hxy;have q3:((x:Int) == (x:Int))=true:=by simp
     go_wp2_with fail;go_region
     all_goals
      go_wp2;go_roundw
      case rel=>exact⟨k+1,by omega,by go_num,by rw[HE1.o,HE2.o,HT.o],HB.o.drew⟩
      case measure=>simp[intOf];omega
    .
     have q3:((x:Int) == (y:Int))=false:=by rw[beq_eq_false_iff_ne];omega
     have q4:((x:Int) != (y:Int))=true:=by rw[bne_iff_ne];omega
     have HNE:O (decide (l=m)=false):=Hi (decide_eq_false (fun h=>by
      have h1:=HXX.o;rw[h,HYY.o] at h1
      exact hxy h1.symm))
     go_wp2_with fail;go_region
     all_goals
      go_wp2;go_ret;exact⟨by rw[HNE.o];rfl,HB.o.drew⟩
   .
    have hk':k=l.length:=by omega
    subst hk';have HEQ:O (decide (l=m)=true):=Hi (decide_eq_true (by have:=HT.o;rwa [List.take_length,List.take_of_length_le (by omega)] at this));go_wp2;go_ret;exact⟨by rw[HEQ.o];rfl,HB.o⟩
 .
  have q1:((l.length:Int) != (m.length:Int))=true:=by rw[bne_iff_ne];omega
  have q2:((l.length:Int) == (m.length:Int))=false:=by rw[beq_eq_false_iff_ne];omega
  have HNE:O (decide (l=m)=false):=Hi (decide_eq_false (fun h=>hlm (by rw[h])));go_enter func128,ntmps128;go_wp2;go_ret;exact⟨by rw[HNE.o];rfl,Below.refl _ _⟩
theorem Low.row{w:World}{b:Option Addr}{m d k:Nat}(h:Low w b m d k):∃L:List Nat,L.length=m/\Row .u64 w b d L/\L.length<=1099511627776/\((L= []/\k=1)∨(1<k/\Num 18446744073709551616 L k)):=by
 rcases h with ⟨rfl,rfl,rfl,rfl⟩|⟨h,l,hl,hu⟩
 . exact⟨[],rfl,Row.nil _ _,by simp,.inl ⟨rfl,rfl⟩⟩
 . exact⟨l,hl,hu.row,hu.short,.inr ⟨h,hu.num⟩⟩
theorem Qho{L M:List Nat}{j k:Nat}(h1:(L= []/\j=1)∨(1<j/\Num 18446744073709551616 L j))(h2:(M= []/\k=1)∨(1<k/\Num 18446744073709551616 M k)):L=M↔j=k:=by
 rcases h1 with ⟨rfl,rfl⟩|⟨g1,n1⟩<;>rcases h2 with ⟨rfl,rfl⟩|⟨g2,n2⟩
 . simp
 .
  constructor
  . rintro rfl;have:=n2.eq;simp[val] at this;omega
  . intro h;omega
 .
  constructor
  . rintro rfl;have:=n1.eq;simp[val] at this;omega
  . intro h;omega
 .
  constructor
  . rintro rfl;rw[<-n1.eq,<-n2.eq]
  . rintro rfl;exact n1.inj (by decide) n2
theorem Qoj(p q:Rat):p=q↔(decide (p.num<0)=decide (q.num<0)/\p.num.natAbs=q.num.natAbs/\p.den=q.den):=by
 constructor
 . rintro rfl;exact⟨rfl,rfl,rfl⟩
 .
  rintro⟨h1,h2,h3⟩;refine Rat.ext ?_ h3;rw[<-Qbs p.num,<-Qbs q.num,h1,h2]
theorem Qok(nx ny:Bool)(ax bx ay b2:Option Addr)(lx cx mx dx ly cy my dy:Nat)(p q:Rat)(w:World)(hx:FracAt w nx ax lx cx bx mx dx p)(hy:FracAt w ny ay ly cy b2 my dy q):
 Calls prog 85 #[.agg #[.bool nx,.slice ax lx cx,.slice bx mx dx],.agg #[.bool ny,.slice ay ly cy,.slice b2 my dy]] w fun e w'=>e=.returned (.bool (decide (p=q)))/\Below w.heap.size w w':=by
 obtain⟨lX,rfl,hX⟩:=hx.top;obtain⟨lY,rfl,hY⟩:=hy.top;obtain⟨LX,rfl,hLX,hLXs,hLXk⟩:=hx.low.row;obtain⟨LY,rfl,hLY,hLYs,hLYk⟩:=hy.low.row;have hT:decide (lX=lY)=decide (p.num.natAbs=q.num.natAbs):=by
  by_cases h:p.num.natAbs=q.num.natAbs
  . rw[decide_eq_true h];rw[h] at hX;exact decide_eq_true (hX.num.inj (by decide) hY.num)
  . rw[decide_eq_false h];exact decide_eq_false (fun hc=>h (by rw[<-hX.num.eq,<-hY.num.eq,hc]))
 have hL:decide (LX=LY)=decide (p.den=q.den):=by
  by_cases h:p.den=q.den
  . rw[decide_eq_true h];exact decide_eq_true ((Qho hLXk hLYk).2 h)
  . rw[decide_eq_false h];exact decide_eq_false (fun hc=>h ((Qho hLXk hLYk).1 hc))
 have hpq:=Qoj p q;rw[<-hx.neg,<-hy.neg] at hpq;obtain⟨wA,hwA⟩:=nm ((w.alloc (.cells #[.bool nx,.slice ax lX.length cx,.slice bx LX.length dx] 63)).alloc (.cells #[.bool ny,.slice ay lY.length cy,.slice b2 LY.length dy] 63));have hbA:Below w.heap.size w wA:=by rw[<-hwA];exact Below.new2 w _ _
 have hsy:SB wA (w.heap.size+1) 63 #[.bool ny,.slice ay lY.length cy,.slice b2 LY.length dy]:=by rw[<-hwA];exact SB.new2 w _ _ _ _
 have hsx:SB wA w.heap.size 63 #[.bool nx,.slice ax lX.length cx,.slice bx LX.length dx]:=by rw[<-hwA];exact(SB.new w _ _).alloc _
 obtain⟨HT1,HT2⟩:=Ia (Qhn ax ay cx cy lX lY wA (hX.row.below hbA) (hY.row.below hbA) hX.short hY.short) (fun w1 hb=>Qhn bx b2 dx dy LX LY w1 ((hLX.below hbA).below hb) ((hLY.below hbA).below hb) hLXs hLYs);rw[hT] at HT1;rw[hL] at HT2;obtain⟨x0,x1,-⟩:=zc hsx;obtain⟨y0,y1,-⟩:=zc hsy;obtain⟨HSX,HSY,HBA,HWA,HPQ⟩:=Id hsx hsy hbA hwA hpq;have hsz:=hbA.size;clear hx hy hX hY hLX hLXs hLXk hLY hLYs hLYk hT hL hpq hbA hsx hsy hwA;by_cases hn:nx=ny
 .
  subst hn;by_cases ht:p.num.natAbs=q.num.natAbs
  .
   rw[decide_eq_true ht] at HT1;go_enter func85,ntmps85;go_wp2_with fail;rw[HWA.o];go_fit HT1.o;rintro e w1 ⟨rfl,hb1⟩;have HC2:=Hi (HT2.o w1 hb1);obtain⟨-,-,x2,-⟩:=zc (HSX.o.below hb1 HSX.o.lt);obtain⟨-,-,y2,-⟩:=zc (HSY.o.below hb1 HSY.o.lt);have HB1:=Hi (HBA.o.trans (hb1.mono hsz));clear HT1 HT2 hb1;go_wp2_with fail;go_fit HC2.o;rintro e w2 ⟨rfl,hb2⟩;have HB2:=Hi (HB1.o.trans (hb2.mono HB1.o.size));clear HC2 hb2;go_wp2;go_ret;refine⟨?_,HB2.o⟩;by_cases hd:p.den=q.den
   . rw[decide_eq_true hd,decide_eq_true (HPQ.o.2 ⟨by trivial,ht,hd⟩)];rfl
   . rw[decide_eq_false hd,decide_eq_false (fun h=>hd (HPQ.o.1 h).2.2)];rfl
  .
   rw[decide_eq_false ht] at HT1;have HNE:O (decide (p=q)=false):=Hi (decide_eq_false (fun h=>ht (HPQ.o.1 h).2.1));go_enter func85,ntmps85;go_wp2_with fail;rw[HWA.o];go_fit HT1.o;rintro e w1 ⟨rfl,hb1⟩;have HB1:=Hi (HBA.o.trans (hb1.mono hsz));clear HT1 HT2 hb1;go_wp2;go_ret;exact⟨by rw[HNE.o];rfl,HB1.o⟩
 .
  have q0:(nx == ny)=false:=by simpa using hn
  have HNE:O (decide (p=q)=false):=Hi (decide_eq_false (fun h=>hn (HPQ.o.1 h).1));clear HT1 HT2;go_enter func85,ntmps85;go_wp2;go_ret;exact⟨by rw[HNE.o];rfl,by rw[HWA.o];exact HBA.o⟩
theorem Qol{v1 v2:Value}{p q:Rat}{w:World}(hx:FracV w v1 p)(hy:FracV w v2 q):Calls prog 85 #[v1,v2] w fun e w'=>e=.returned (.bool (decide (p=q)))/\Below w.heap.size w w':=by
 obtain⟨nx,ax,lx,cx,bx,mx,dx,rfl,hx⟩:=hx;obtain⟨ny,ay,ly,cy,b2,my,dy,rfl,hy⟩:=hy;exact Qok nx ny ax bx ay b2 lx cx mx dx ly cy my dy p q w hx hy
structure Glob (w:World):Prop where
 most:∃m,w.cell? ⟨1,0,none⟩=some (.int .i64 m)
 tab:Tab w
theorem Glob.below{w w':World}(h:Glob w)(hb:Below w.heap.size w w'):Glob w':=by
 obtain⟨m,hm⟩:=h.most;exact⟨⟨m,ce hb (World.block_lt_of_cell? _ _ hm) hm⟩,h.tab.below hb⟩
structure FE where
 x:Value
 y:Value
 z:Value
 q:Rat
 k:Nat
structure FBag (w0 w:World) (L:List FE):Prop where
 base:Below w0.heap.size w0 w
 glob:Glob w0
 ts:∀t,t∈ L->FracV w (.agg #[t.x,t.y,t.z]) t.q/\Fits t.q t.k/\0<t.k
theorem FBag.start{w:World}(h:Glob w):FBag w w []:=⟨Below.refl _ _,h,fun t ht=>by cases ht⟩
theorem FBag.below{w0 w w':World}{L:List FE}(h:FBag w0 w L)(hb:Below w.heap.size w w'):FBag w0 w' L:=
 ⟨h.base.trans (hb.mono h.base.size),h.glob,fun t ht=>⟨(h.ts t ht).1.below hb,(h.ts t ht).2⟩⟩
theorem FBag.globNow{w0 w:World}{L:List FE}(h:FBag w0 w L):Glob w:=h.glob.below h.base
theorem FBag.get{w0 w:World}{L:List FE}{x y z:Value}{q:Rat}{k:Nat}(h:FBag w0 w L)(hx:⟨x,y,z,q,k⟩∈ L):FracV w (.agg #[x,y,z]) q/\Fits q k/\0<k:=h.ts _ hx
theorem FBag.put{w0 w:World}{L:List FE}{x y z:Value}{q:Rat}{k:Nat}(h:FBag w0 w L)(hv:FracV w (.agg #[x,y,z]) q)(hf:Fits q k)(hk:0<k):FBag w0 w (⟨x,y,z,q,k⟩ :: L):=
 ⟨h.base,h.glob,fun t ht=>by
   rcases List.mem_cons.1 ht with rfl|ht
   . exact⟨hv,hf,hk⟩
   . exact h.ts t ht⟩
def FNewB(w0:World)(L:List FE)(q:Rat)(k:Nat)(e:Ending)(w':World):Prop:=∃x y z,e=.returned (.agg #[x,y,z])/\FBag w0 w' (⟨x,y,z,q,k⟩ :: L)
theorem FBag.new{w0 w w':World}{L:List FE}{q:Rat}{k:Nat}{e:Ending}(h:FBag w0 w L)(hn:FNew w q e w')(hf:Fits q k)(hk:0<k):FNewB w0 L q k e w':=by
 obtain⟨⟨v,rfl,neg,a,n,c,b,m,d,rfl,hv⟩,hb⟩:=hn;exact⟨_,_,_,rfl,(h.below hb).put ⟨neg,a,n,c,b,m,d,rfl,hv⟩ hf hk⟩
theorem Fits.div{p q:Rat}{j k:Nat}(h:Fits p j)(h':Fits q k)(hj:0<j)(hk:0<k):Fits (p / q) (j+k):=by
 by_cases hq:q=0
 . rw[hq,Rat.div_def,Rat.inv_zero,Rat.mul_zero];exact Fits.zero.mono (by omega)
 . rw[Rat.div_def];exact h.mul (h'.inv hq) hj
theorem FBag.of{w0 w:World}{L:List FE}{n:Nat}(s:ByteArray)(h:FBag w0 w L)(hs:s.size<=n)(hn:n<=1073741824):
 Calls prog 34 #[.string s] w (fun e w'=>∃q,QOf s.data.toList q/\FNewB w0 L q (4*n+1) e w'):=by
 obtain⟨m,hm⟩:=h.globNow.most;refine(Qqt s m w hm (by omega)).mono ?_;rintro e w' ⟨q,hq,hf⟩;exact⟨q,hq,h.new hf (hq.fits (by rw[Qah];exact hs)) (by omega)⟩
theorem Qdm{C:Array Value}(h:∀v,v∈ C.toList->∀n,v≠Value.int .u64 n):NoU64 C:=fun i n hi=>h _ (by rw[<-Array.getElem?_toList] at hi;exact mO hi) n rfl
theorem Qaa(P:Program){v:Value}(h:v.oneCell'=true):∀(a:Addr) (w:World),(store a v).run P w=stored P w a v .plain:=fun a w=>run_store P w a v .plain h
theorem FracV.one{w:World}{x y z:Value}{q:Rat}(h:FracV w (.agg #[x,y,z]) q):x.oneCell'=true/\y.oneCell'=true/\z.oneCell'=true:=by
 obtain⟨neg,a,n,c,b,m,d,e,_⟩:=h;simp at e;obtain⟨rfl,rfl,rfl⟩:=e;exact⟨rfl,rfl,rfl⟩
theorem FracV.no64{w:World}{x y z:Value}{q:Rat}(h:FracV w (.agg #[x,y,z]) q)(n:Int):x≠.int .u64 n/\y≠.int .u64 n/\z≠.int .u64 n:=by
 obtain⟨neg,a,m,c,b,k,d,e,_⟩:=h;simp at e;obtain⟨rfl,rfl,rfl⟩:=e;exact⟨by simp,by simp,by simp⟩
end Go.Proofs.YtldjeecnapgakaaGreatDoor
